import PyProof.Rows.All
import Wide.All
import OpenK.AllK
import Wide.FinOn
import HandS.ForMost
import HandS.IsInst
import HandS.Exc
import HandS.ExcOwn
import HandS.TryOnly
import HandS.WordsExc
import HandS.ExcIs
import HandS.TryMany
import HandS.Dict
import HandS.Codes
import PySem.Challenge.RW_handshaker_k23_stripes_of_a_table
set_option Elab.async false
set_option maxRecDepth 100000
set_option maxHeartbeats 4000000
set_option linter.all false
/-! data as trees, how they lie in a heap, heaps that grow -/
namespace YF
open PySem PySem.Spec PyProof.Rows L2
abbrev St := L2.St

/-- a tree of data; a row of trees is a chain of cons -/
inductive D where
  | non | bl (b : Bool) | int (i : Int) | str (x : Str) | tup (ds : D) | lst (ds : D) | nil | cons (d ds : D)
  deriving DecidableEq
namespace D
def row : List D → D
  | [] => .nil
  | d :: r => .cons d (row r)
def isRow : D → Bool
  | .nil => true
  | .cons _ r => isRow r
  | _ => false
def dep : D → Nat
  | .tup ds => dep ds + 1
  | .lst ds => dep ds + 1
  | .cons d r => max (dep d) (dep r)
  | _ => 0
def len : D → Nat
  | .cons _ r => len r + 1
  | _ => 0
/-- a tree proper: rows stand in tuples and lists alone -/
def ok : D → Bool
  | .tup ds => isRow ds && ok ds
  | .lst ds => isRow ds && ok ds
  | .nil => true
  | .cons d r => !isRow d && ok d && isRow r && ok r
  | _ => true
end D
/-- the values vs are the trees of the row; of a tree that is no row: the one value -/
def Rp (K : PySem.W.Frag) (H : Hp) : D → List V → Prop
  | .non, vs => vs = [.non]
  | .bl b, vs => vs = [.bl b]
  | .int i, vs => vs = [.int i]
  | .str x, vs => vs = [.str x]
  | .tup ds, vs => ∃ a xs, vs = [.ref a] ∧ SqT K H a xs ∧ xs.length ≤ 100000 ∧ Rp K H ds xs
  | .lst ds, vs => ∃ a xs, vs = [.ref a] ∧ SqL K H a xs ∧ xs.length ≤ 100000 ∧ Rp K H ds xs
  | .nil, vs => vs = []
  | .cons d r, vs => ∃ x xs, vs = x :: xs ∧ Rp K H d [x] ∧ Rp K H r xs
section
variable {K : PySem.W.Frag} {H H' : Hp}
theorem Same.sqL {a : Addr} {xs : List V} (e : Same H H') (h : SqL K H a xs) : SqL K H' a xs := Same.seq e h
theorem Same.sqT {a : Addr} {xs : List V} (e : Same H H') (h : SqT K H a xs) : SqT K H' a xs := by
  rcases h with (h | ⟨o, h⟩) | h
  · exact .inl (.inl (e _ _ h))
  · exact .inl (.inr ⟨o, e _ _ h⟩)
  · exact .inr h
theorem Rp.mono (e : Same H H') : ∀ {d : D} {vs : List V}, Rp K H d vs → Rp K H' d vs
  | .non, _, h => h
  | .bl _, _, h => h
  | .int _, _, h => h
  | .str _, _, h => h
  | .tup _, _, ⟨a, xs, e1, h1, h2, h3⟩ => ⟨a, xs, e1, Same.sqT e h1, h2, Rp.mono e h3⟩
  | .lst _, _, ⟨a, xs, e1, h1, h2, h3⟩ => ⟨a, xs, e1, Same.sqL e h1, h2, Rp.mono e h3⟩
  | .nil, _, h => h
  | .cons _ _, _, ⟨x, xs, e1, h1, h2⟩ => ⟨x, xs, e1, Rp.mono e h1, Rp.mono e h2⟩
theorem Rp.row_len : ∀ {d : D} {vs : List V}, d.isRow = true → Rp K H d vs → vs.length = d.len
  | .nil, _, _, h => by
    have e : _ = [] := h
    rw [e]
    rfl
  | .cons _ r, _, q, ⟨x, xs, e1, _, h2⟩ => by
    subst e1
    have := Rp.row_len (d := r) q h2
    simp [D.len, this]
theorem Rp.at_ : ∀ {d : D} {vs ws : List V} {i : Nat} {v : V}, d.isRow = true → d.ok = true → Rp K H d vs → vs[i]? = some v → Rp K H d ws → ∃ (c : D) (u : V), ws[i]? = some u ∧ c.isRow = false ∧ c.ok = true ∧ c.dep ≤ d.dep ∧ Rp K H c [v] ∧ Rp K H c [u]
  | .nil, vs, ws, i, v, _, _, h, e, _ => by
    have h : vs = [] := h
    rw [h] at e
    cases i <;> cases e
  | .cons d r, vs, ws, 0, v, q, o, ⟨x, xs, e1, h1, h2⟩, e, ⟨y, ys, e2, k1, k2⟩ => by
    subst e1 e2
    simp only [D.ok, Bool.and_eq_true, Bool.not_eq_true'] at o
    have ev : x = v := by simpa using e
    rw [ev] at h1
    exact ⟨d, y, rfl, o.1.1.1, o.1.1.2, Nat.le_max_left _ _, h1, k1⟩
  | .cons d r, vs, ws, i + 1, v, q, o, ⟨x, xs, e1, h1, h2⟩, e, ⟨y, ys, e2, k1, k2⟩ => by
    subst e1 e2
    simp only [D.ok, Bool.and_eq_true, Bool.not_eq_true'] at o
    obtain ⟨c, u, g1, g2, g3, g4, g5, g6⟩ := Rp.at_ (d := r) (i := i) (v := v) q o.2 h2 (by simpa using e) k2
    exact ⟨c, u, by simpa using g1, g2, g3, Nat.le_trans g4 (Nat.le_max_right _ _), g5, g6⟩
end

/-! ### heaps that grow: B the part that stands, X what may be written -/
theorem Same.upd {H : Hp} {p : Addr} {o : HO} (h : H p = none) : Same H (upd H p o) := fun b u e => by
  rw [upd_ne (ne_of_none e h)]
  exact e
theorem Same.wr {B H : Hp} {p : Addr} {o : HO} (e : Same B H) (h : B p = none) : Same B (L2.upd H p o) := fun b u q => by
  rw [upd_ne (ne_of_none q h)]
  exact e b u q
structure Grow (X : List Addr) (B H N H' : Hp) : Prop where
  bn : Same B N
  nh : Same N H'
  keep : ∀ a o, a ∉ X → H a = some o → H' a = some o
  there : ∀ a o, H a = some o → ∃ o', H' a = some o'
  frs : ∀ a o, N a = some o → B a = some o ∨ H a = none
/-- every address of X holds a list of ints -/
def Ints (X : List Addr) (H : Hp) : Prop := ∀ p ∈ X, ∃ ns : List Int, H p = some (.lst (ns.map V.int))
def Off (X : List Addr) (B : Hp) : Prop := ∀ p ∈ X, B p = none
section
variable {X : List Addr} {B H N H' N' H'' : Hp}
theorem Grow.refl (e : Same B H) : Grow X B H B H := ⟨Same.refl B, e, fun _ _ _ h => h, fun _ o h => ⟨o, h⟩, fun _ _ h => .inl h⟩
theorem Grow.trans (g : Grow X B H N H') (k : Grow X N H' N' H'') : Grow X B H N' H'' :=
  ⟨g.bn.trans k.bn, k.nh, fun a o n h => k.keep a o n (g.keep a o n h), fun a o h => by
    obtain ⟨o', h'⟩ := g.there a o h
    exact k.there a o' h', fun a o h => by
    rcases k.frs a o h with q | q
    · exact g.frs a o q
    · right
      cases e : H a with
      | none => rfl
      | some u =>
        obtain ⟨o', h'⟩ := g.there a u e
        rw [q] at h'
        cases h'⟩
theorem Grow.more {Y : List Addr} (g : Grow X B H N H') (s : ∀ p ∈ X, p ∈ Y) : Grow Y B H N H' := ⟨g.bn, g.nh, fun a o n h => g.keep a o (fun m => n (s a m)) h, g.there, g.frs⟩
theorem Grow.same (g : Grow [] B H N H') : Same H H' := fun a o h => g.keep a o (by simp) h
/-- a new object, known from now on -/
theorem Grow.new {p : Addr} {o : HO} (e : Same B H) (h : H p = none) : Grow X B H (upd B p o) (upd H p o) := by
  have hb : B p = none := e.free h
  refine ⟨Same.upd hb, fun a u q => ?_, fun a u _ q => Same.upd h a u q, fun a u q => ⟨u, Same.upd h a u q⟩, fun a u q => ?_⟩
  · by_cases z : a = p
    · subst z
      rw [upd_same] at q ⊢
      exact q
    · rw [upd_ne z] at q ⊢
      exact e a u q
  · by_cases z : a = p
    · subst z
      exact .inr h
    · rw [upd_ne z] at q
      exact .inl q
/-- a new object, not known (it may be written later) -/
theorem Grow.new0 {p : Addr} {o : HO} (e : Same B H) (h : H p = none) : Grow X B H B (upd H p o) :=
  ⟨Same.refl B, Same.wr e (e.free h), fun a u _ q => Same.upd h a u q, fun a u q => ⟨u, Same.upd h a u q⟩, fun _ _ q => .inl q⟩
/-- an object of X is written -/
theorem Grow.wr {p : Addr} {o : HO} (e : Same B H) (m : p ∈ X) (h : B p = none) : Grow X B H B (upd H p o) :=
  ⟨Same.refl B, Same.wr e h, fun a u n q => by rw [upd_ne (fun z => n (by rw [z]; exact m))]; exact q, fun a u q => by
    by_cases z : a = p
    · subst z
      exact ⟨o, upd_same⟩
    · exact ⟨u, by rw [upd_ne z]; exact q⟩, fun _ _ q => .inl q⟩
/-- what was made since the start comes to be known -/
theorem Grow.know {B0 H0 : Hp} {p : Addr} {o : HO} (g : Grow X B0 H0 N H') (h0 : H0 p = none) (h : H' p = some o) : Grow X B0 H0 (upd N p o) H' := by
  refine ⟨fun a u q => ?_, fun a u q => ?_, g.keep, g.there, fun a u q => ?_⟩
  · by_cases z : a = p
    · subst z
      have w := g.nh a u (g.bn a u q)
      rw [h] at w
      cases w
      exact upd_same
    · rw [upd_ne z]
      exact g.bn a u q
  · by_cases z : a = p
    · subst z
      rw [upd_same] at q
      cases q
      exact h
    · rw [upd_ne z] at q
      exact g.nh a u q
  · by_cases z : a = p
    · subst z
      exact .inr h0
    · rw [upd_ne z] at q
      exact g.frs a u q
/-- an object that was made since the start, and is not known, is written -/
theorem Grow.wrNew {p : Addr} {o : HO} (g : Grow X B H N H') (h0 : H p = none) (hN : N p = none) : Grow X B H N (upd H' p o) :=
  ⟨g.bn, Same.wr g.nh hN, fun a u n q => by rw [upd_ne (ne_of_none q h0)]; exact g.keep a u n q, fun a u q => by
    rw [upd_ne (ne_of_none q h0)]
    exact g.there a u q, g.frs⟩
theorem Grow.off {Y : List Addr} (g : Grow X B H N H') (hB : Off Y B) (hH : ∀ p ∈ Y, ∃ o, H p = some o) : Off Y N := fun p m => by
  cases e : N p with
  | none => rfl
  | some o =>
    rcases g.frs p o e with q | q
    · rw [hB p m] at q
      cases q
    · obtain ⟨u, hu⟩ := hH p m
      rw [q] at hu
      cases hu
theorem Grow.offI (g : Grow X B H N H') (hB : Off X B) (hI : Ints X H) : Off X N := g.off hB fun p m => by
  obtain ⟨ns, h⟩ := hI p m
  exact ⟨_, h⟩
end

/-! ### evaluation: an expression whose reading is te gives, in the slots σ and over the base B, some tree of which φ holds -/
def EvP (K : PySem.W.Frag) (X : List Addr) (B : Hp) (te : TE) (σ : St) (φ : D → Prop) : Prop :=
  ∀ H1, Same B H1 → Off X B → Ints X H1 → ∀ Q : VK, (∀ v d N H2, Grow X B H1 N H2 → Ints X H2 → φ d → Rp K N d [v] → Q v H2) → te σ H1 Q
def EvPs (K : PySem.W.Frag) (X : List Addr) (B : Hp) (ta : TA) (σ : St) (φ : D → Prop) : Prop :=
  ∀ H1, Same B H1 → Off X B → Ints X H1 → ∀ Q : List V → Hp → Prop, (∀ vs d N H2, Grow X B H1 N H2 → Ints X H2 → φ d → Rp K N d vs → Q vs H2) → ta σ H1 Q
section
variable {K : PySem.W.Frag} {X : List Addr} {B N : Hp} {σ : St} {te tb : TE} {ta : TA} {φ ψ : D → Prop}
theorem EvP.imp (h : EvP K X B te σ φ) (k : ∀ d, φ d → ψ d) : EvP K X B te σ ψ := fun H1 e o j Q q => h H1 e o j Q fun v d N H2 g j2 p r => q v d N H2 g j2 (k d p) r
theorem EvPs.imp (h : EvPs K X B ta σ φ) (k : ∀ d, φ d → ψ d) : EvPs K X B ta σ ψ := fun H1 e o j Q q => h H1 e o j Q fun v d N H2 g j2 p r => q v d N H2 g j2 (k d p) r
theorem EvP.val {v : V} {d : D} (r : Rp K B d [v]) : EvP K X B (tC v) σ (· = d) := fun H1 e _ j Q q => q v d B H1 (Grow.refl e) j rfl r
theorem EvP.var {i : Nat} {v : V} {d : D} (h : σ[i]? = some (some v)) (r : Rp K B d [v]) : EvP K X B (tVar i) σ (· = d) := fun H1 e _ j Q q => ⟨v, h, q v d B H1 (Grow.refl e) j rfl r⟩
theorem EvPs.nil : EvPs K X B tNil σ (· = .nil) := fun H1 e _ j Q q => q [] .nil B H1 (Grow.refl e) j rfl rfl
/-- the base may have grown since -/
theorem EvP.grown (h : ∀ N, Same B N → EvP K X N te σ φ) {H1 H2 : Hp} (g : Grow X B H1 N H2) (o : Off X B) (j1 : Ints X H1) (j : Ints X H2) {Q : VK} (q : ∀ v d N' H3, Grow X B H1 N' H3 → Ints X H3 → φ d → Same N N' → Rp K N' d [v] → Q v H3) : te σ H2 Q :=
  h N g.bn H2 g.nh (g.offI o j1) j Q fun v d N' H3 g2 j2 p r => q v d N' H3 (g.trans g2) j2 p g2.bn r
theorem EvPs.cons (h : EvP K X B te σ φ) (k : ∀ N, Same B N → EvPs K X N ta σ ψ) : EvPs K X B (tCons te ta) σ (fun d => ∃ x r, d = .cons x r ∧ φ x ∧ ψ r) := fun H1 e o j Q q =>
  h H1 e o j _ fun v d N H2 g j2 p r => k N g.bn H2 g.nh (g.offI o j) j2 _ fun vs ds N' H3 g2 j3 p2 r2 =>
    q (v :: vs) (.cons d ds) N' H3 (g.trans g2) j3 ⟨d, ds, rfl, p, p2⟩ ⟨v, vs, rfl, Rp.mono g2.bn r, r2⟩
theorem EvP.tup (h : EvPs K X B ta σ φ) (hl : ∀ d, φ d → d.isRow = true ∧ d.len ≤ 100000) : EvP K X B (tTup ta) σ (fun d => ∃ ds, d = .tup ds ∧ φ ds) := fun H1 e o j Q q =>
  h H1 e o j _ fun vs d N H2 g j2 p r => by
    obtain ⟨h1, h2⟩ := hl d p
    have h3 : vs.length ≤ 100000 := by rw [Rp.row_len h1 r]; exact h2
    refine ⟨Nat.le_trans h3 (by decide), fun a ha => ?_⟩
    have g2 : Grow X N H2 (upd N a (.tup vs)) (upd H2 a (.tup vs)) := Grow.new g.nh ha
    refine q (.ref a) (.tup d) _ _ (g.trans g2) (fun y m => ?_) ⟨d, rfl, p⟩ ⟨a, vs, rfl, SqT.of upd_same, h3, Rp.mono g2.bn r⟩
    obtain ⟨ns, hy⟩ := j2 y m
    exact ⟨ns, Same.upd ha y _ hy⟩
theorem EvP.lst (h : EvPs K X B ta σ φ) (hl : ∀ d, φ d → d.isRow = true ∧ d.len ≤ 100000) : EvP K X B (tLst ta) σ (fun d => ∃ ds, d = .lst ds ∧ φ ds) := fun H1 e o j Q q =>
  h H1 e o j _ fun vs d N H2 g j2 p r => by
    obtain ⟨h1, h2⟩ := hl d p
    have h3 : vs.length ≤ 100000 := by rw [Rp.row_len h1 r]; exact h2
    refine ⟨Nat.le_trans h3 (by decide), fun a ha => ?_⟩
    have g2 : Grow X N H2 (upd N a (.lst vs)) (upd H2 a (.lst vs)) := Grow.new g.nh ha
    refine q (.ref a) (.lst d) _ _ (g.trans g2) (fun y m => ?_) ⟨d, rfl, p⟩ ⟨a, vs, rfl, SqL.of upd_same, h3, Rp.mono g2.bn r⟩
    obtain ⟨ns, hy⟩ := j2 y m
    exact ⟨ns, Same.upd ha y _ hy⟩
/-! the same where the tree is told -/
theorem ed_nil : EvPs K X B tNil σ (· = .nil) := EvPs.nil
theorem ed_cons {d r : D} (h : EvP K X B te σ (· = d)) (k : ∀ N, Same B N → EvPs K X N ta σ (· = r)) : EvPs K X B (tCons te ta) σ (· = .cons d r) :=
  (EvPs.cons h k).imp fun _ ⟨_, _, e, e1, e2⟩ => by rw [e, e1, e2]
theorem ed_tup {ds : D} (h : EvPs K X B ta σ (· = ds)) (h1 : ds.isRow = true := by rfl) (h2 : ds.len ≤ 100000 := by decide) : EvP K X B (tTup ta) σ (· = .tup ds) :=
  (EvP.tup h fun d e => by rw [e]; exact ⟨h1, h2⟩).imp fun _ ⟨_, e, e1⟩ => by rw [e, e1]
theorem ed_lst {ds : D} (h : EvPs K X B ta σ (· = ds)) (h1 : ds.isRow = true := by rfl) (h2 : ds.len ≤ 100000 := by decide) : EvP K X B (tLst ta) σ (· = .lst ds) :=
  (EvP.lst h fun d e => by rw [e]; exact ⟨h1, h2⟩).imp fun _ ⟨_, e, e1⟩ => by rw [e, e1]
theorem ed_int {i : Int} : EvP K X B (tC (.int i)) σ (· = .int i) := EvP.val rfl
theorem ed_str {x : Str} : EvP K X B (tC (.str x)) σ (· = .str x) := EvP.val rfl
theorem ed_non : EvP K X B (tC .non) σ (· = .non) := EvP.val rfl
theorem ed_bl {b : Bool} : EvP K X B (tC (.bl b)) σ (· = .bl b) := EvP.val rfl
theorem ed_var {i : Nat} {v : V} {d : D} (h : σ[i]? = some (some v)) (r : Rp K B d [v]) {N : Hp} (e : Same B N) : EvP K X N (tVar i) σ (· = d) := EvP.var h (Rp.mono e r)
theorem ed_add {i j : Int} (h : EvP K X B te σ (· = .int i)) (k : ∀ N, Same B N → EvP K X N tb σ (· = .int j)) : EvP K X B (tOp (rI0 fun i j => .int (i + j)) te tb) σ (· = .int (i + j)) := fun H1 e o jj Q q =>
  h H1 e o jj _ fun v d N H2 g j2 p r => k N g.bn H2 g.nh (g.offI o jj) j2 _ fun u d' N' H3 g2 j3 p2 r2 => by
    subst p p2
    have e1 : v = .int i := by simpa [Rp] using r
    have e2 : u = .int j := by simpa [Rp] using r2
    exact ⟨i, j, e1, e2, q _ _ N' H3 (g.trans g2) j3 rfl rfl⟩
theorem ed_sub {i j : Int} (h : EvP K X B te σ (· = .int i)) (k : ∀ N, Same B N → EvP K X N tb σ (· = .int j)) : EvP K X B (tOp (rI0 fun i j => .int (i - j)) te tb) σ (· = .int (i - j)) := fun H1 e o jj Q q =>
  h H1 e o jj _ fun v d N H2 g j2 p r => k N g.bn H2 g.nh (g.offI o jj) j2 _ fun u d' N' H3 g2 j3 p2 r2 => by
    subst p p2
    have e1 : v = .int i := by simpa [Rp] using r
    have e2 : u = .int j := by simpa [Rp] using r2
    exact ⟨i, j, e1, e2, q _ _ N' H3 (g.trans g2) j3 rfl rfl⟩
end

/-! ### promises: a def that makes of trees a tree; one that pops from a list of ints besides -/
def SpD (K : PySem.W.Frag) (n : Nat) (pre : D → Prop) (post : D → D → Prop) : Sp := fun vs H Q _ => ∃ B ds, vs.length = n ∧ Same B H ∧ Rp K B ds vs ∧ pre ds ∧
  ∀ v d N H', Grow [] B H N H' → post ds d → Rp K N d [v] → Q v H'
def SpX (K : PySem.W.Frag) (n : Nat) (pre : D → Prop) (post : D → D → Prop) : Sp := fun vs H Q _ => ∃ B p us ds, vs = .ref p :: us ∧ us.length = n ∧ Same B H ∧ Off [p] B ∧ Ints [p] H ∧ Rp K B ds us ∧ pre ds ∧
  ∀ v d N H', Grow [p] B H N H' → Ints [p] H' → post ds d → Rp K N d [v] → Q v H'
section
variable {K : PySem.W.Frag} {X : List Addr} {B : Hp} {σ : St} {ta : TA} {φ : D → Prop} {pre : D → Prop} {post : D → D → Prop} {E : XK} {n : Nat}
theorem EvP.call (h : EvPs K X B ta σ φ) (hp : ∀ d, φ d → pre d ∧ d.isRow = true ∧ d.len = n) : EvP K X B (tCall (SpD K n pre post) [] E ta) σ (fun d => ∃ ds, φ ds ∧ post ds d) := fun H1 e o j Q q =>
  h H1 e o j _ fun vs ds N H2 g j2 p r => by
    obtain ⟨h1, h2, h3⟩ := hp ds p
    show SpD K n pre post (vs ++ []) H2 Q E
    rw [List.append_nil]
    refine ⟨N, ds, (Rp.row_len h2 r).trans h3, g.nh, r, h1, fun v d N' H' g2 p2 r2 => q v d N' H' (g.trans (g2.more (by simp))) (fun y m => ?_) ⟨ds, p, p2⟩ r2⟩
    obtain ⟨ns, hy⟩ := j2 y m
    exact ⟨ns, g2.same y _ hy⟩
theorem EvP.callX {p : Addr} {i : Nat} (hi : σ[i]? = some (some (.ref p))) (h : EvPs K [p] B ta σ φ) (hp : ∀ d, φ d → pre d ∧ d.isRow = true ∧ d.len = n) : EvP K [p] B (tCall (SpX K n pre post) [] E (tCons (tVar i) ta)) σ (fun d => ∃ ds, φ ds ∧ post ds d) := fun H1 e o j Q q =>
  ⟨.ref p, hi, h H1 e o j _ fun vs ds N H2 g j2 p1 r => by
    obtain ⟨h1, h2, h3⟩ := hp ds p1
    show SpX K n pre post ((.ref p :: vs) ++ []) H2 Q E
    rw [List.append_nil]
    exact ⟨N, p, vs, ds, rfl, (Rp.row_len h2 r).trans h3, g.nh, g.offI o j, j2, r, h1, fun v d N' H' g2 j3 p2 r2 => q v d N' H' (g.trans g2) j3 ⟨ds, p1, p2⟩ r2⟩⟩
end
end YF

/-! told trees: what an expression gives, over every base that has grown from B -/
namespace YF
open PySem PySem.Spec PyProof.Rows L2

def Ed (K : PySem.W.Frag) (X : List Addr) (B : Hp) (te : TE) (σ : St) (d : D) : Prop := ∀ N, Same B N → EvP K X N te σ (· = d)
def Eds (K : PySem.W.Frag) (X : List Addr) (B : Hp) (ta : TA) (σ : St) (d : D) : Prop := ∀ N, Same B N → EvPs K X N ta σ (· = d)
/-- what is known of values: their trees -/
def Env (K : PySem.W.Frag) (B : Hp) (l : List (V × D)) : Prop := ∀ p ∈ l, Rp K B p.2 [p.1]
section
variable {K : PySem.W.Frag} {X : List Addr} {B N H H2 : Hp} {σ : St} {te tb tl : TE} {ta : TA} {l : List (V × D)} {v : V} {d : D}
theorem Env.nil : Env K B [] := fun _ h => by cases h
theorem Env.add (e : Env K B l) (r : Rp K B d [v]) : Env K B ((v, d) :: l) := fun p h => by
  rcases List.mem_cons.mp h with h | h
  · rw [h]
    exact r
  · exact e p h
theorem Env.mono (e : Env K B l) (s : Same B N) : Env K N l := fun p h => Rp.mono s (e p h)
theorem Env.at_ (e : Env K B l) (i : Nat) (h : l[i]? = some (v, d)) : Rp K B d [v] := e _ (List.mem_of_getElem? h)
/-- a value's tree, at the i-th place -/
theorem ev_at (j : Nat) (e : Env K B l) {i : Nat} (hs : σ[i]? = some (some v)) (h : l[j]? = some (v, d)) : Ed K X B (tVar i) σ d := fun N s => EvP.var hs (Rp.mono s (e.at_ j h))
theorem ev_var {i : Nat} (hs : σ[i]? = some (some v)) (r : Rp K B d [v]) : Ed K X B (tVar i) σ d := fun N s => EvP.var hs (Rp.mono s r)
theorem ev_val (r : Rp K B d [v]) : Ed K X B (tC v) σ d := fun N s => EvP.val (Rp.mono s r)
theorem ev_int {i : Int} : Ed K X B (tC (.int i)) σ (.int i) := fun N s => ed_int
theorem ev_str {x : Str} : Ed K X B (tC (.str x)) σ (.str x) := fun N s => ed_str
theorem ev_non : Ed K X B (tC .non) σ .non := fun N s => ed_non
theorem ev_bl {b : Bool} : Ed K X B (tC (.bl b)) σ (.bl b) := fun N s => ed_bl
theorem ev_nil : Eds K X B tNil σ .nil := fun N s => EvPs.nil
theorem ev_cons {d r : D} (h : Ed K X B te σ d) (k : Eds K X B ta σ r) : Eds K X B (tCons te ta) σ (.cons d r) := fun N s => ed_cons (h N s) fun N' s' => k N' (s.trans s')
theorem ev_tup {ds : D} (h : Eds K X B ta σ ds) (h1 : ds.isRow = true := by rfl) (h2 : ds.len ≤ 100000 := by first | decide | simp [D.len]) : Ed K X B (tTup ta) σ (.tup ds) := fun N s => ed_tup (h N s) h1 h2
theorem ev_lst {ds : D} (h : Eds K X B ta σ ds) (h1 : ds.isRow = true := by rfl) (h2 : ds.len ≤ 100000 := by first | decide | simp [D.len]) : Ed K X B (tLst ta) σ (.lst ds) := fun N s => ed_lst (h N s) h1 h2
theorem ev_add {i j : Int} (h : Ed K X B te σ (.int i)) (k : Ed K X B tb σ (.int j)) : Ed K X B (tOp (rI0 fun i j => .int (i + j)) te tb) σ (.int (i + j)) := fun N s => ed_add (h N s) fun N' s' => k N' (s.trans s')
theorem ev_sub {i j : Int} (h : Ed K X B te σ (.int i)) (k : Ed K X B tb σ (.int j)) : Ed K X B (tOp (rI0 fun i j => .int (i - j)) te tb) σ (.int (i - j)) := fun N s => ed_sub (h N s) fun N' s' => k N' (s.trans s')
/-- an item of a tuple that stands -/
theorem ev_ixT {a : Addr} {xs : List V} {ds : D} {i : Int} {c : D} {u : V} (hv : Ed K X B te σ (.tup ds)) (hi : Ed K X B tb σ (.int i)) (h : ∀ N xs, Rp K N ds xs → ∃ u, atI xs i = some u ∧ Rp K N c [u]) : Ed K X B (tOp (rIxT K) te tb) σ c := fun N s H1 e o j Q q =>
  hv N s H1 e o j _ fun v d N2 H2 g j2 p r => hi N2 (s.trans g.bn) H2 g.nh (g.offI o j) j2 _ fun w d' N3 H3 g3 j3 p3 r3 => by
    subst p p3
    obtain ⟨a, xs, e1, r1, _, r2⟩ := r
    have e2 : w = .int i := by simpa [Rp] using r3
    obtain ⟨u, h1, h2⟩ := h N3 xs (Rp.mono g3.bn r2)
    exact ⟨a, xs, i, u, (List.cons.inj e1).1, e2, Same.sqT (g3.bn.trans g3.nh) r1, h1, q u c N3 H3 (g.trans g3) j3 rfl h2⟩
theorem ev_ixL {ds : D} {i : Int} {c : D} (hv : Ed K X B te σ (.lst ds)) (hi : Ed K X B tb σ (.int i)) (h : ∀ N xs, Rp K N ds xs → ∃ u, atI xs i = some u ∧ Rp K N c [u]) : Ed K X B (tOp (rIxL K) te tb) σ c := fun N s H1 e o j Q q =>
  hv N s H1 e o j _ fun v d N2 H2 g j2 p r => hi N2 (s.trans g.bn) H2 g.nh (g.offI o j) j2 _ fun w d' N3 H3 g3 j3 p3 r3 => by
    subst p p3
    obtain ⟨a, xs, e1, r1, _, r2⟩ := r
    have e2 : w = .int i := by simpa [Rp] using r3
    obtain ⟨u, h1, h2⟩ := h N3 xs (Rp.mono g3.bn r2)
    exact ⟨a, xs, i, u, (List.cons.inj e1).1, e2, Same.sqL (g3.bn.trans g3.nh) r1, h1, q u c N3 H3 (g.trans g3) j3 rfl h2⟩
/-- a def that makes of trees the tree that f says -/
def SpG (K : PySem.W.Frag) (n : Nat) (pre : D → Prop) (f : D → D) : Sp := SpD K n (fun ds => ds.isRow = true ∧ ds.len = n ∧ pre ds) (fun ds d => d = f ds)
theorem ev_call {ds d : D} {pre : D → Prop} {f : D → D} {E : XK} {n : Nat} (h : Eds K X B ta σ ds) (hp : pre ds) (h1 : ds.isRow = true := by rfl) (h2 : ds.len = n := by rfl) (h3 : f ds = d := by rfl) : Ed K X B (tCall (SpG K n pre f) [] E ta) σ d := fun N s =>
  (EvP.call (h N s) fun d e => by subst e; exact ⟨⟨h1, h2, hp⟩, h1, h2⟩).imp fun _ ⟨_, e, e1⟩ => by rw [e1, e, h3]
theorem ev_tupX {ds : D} (h : Eds K X B ta σ ds) (h1 : ds.isRow = true) (h2 : ds.len ≤ 100000) : Ed K X B (tTup ta) σ (.tup ds) := ev_tup h h1 h2
theorem ev_lstX {ds : D} (h : Eds K X B ta σ ds) (h1 : ds.isRow = true) (h2 : ds.len ≤ 100000) : Ed K X B (tLst ta) σ (.lst ds) := ev_lst h h1 h2
theorem ev_callX {ds d : D} {pre : D → Prop} {f : D → D} {E : XK} {n : Nat} (h : Eds K X B ta σ ds) (hp : pre ds) (h1 : ds.isRow = true) (h2 : ds.len = n) (h3 : f ds = d) : Ed K X B (tCall (SpG K n pre f) [] E ta) σ d := ev_call h hp h1 h2 h3

/-! statements -/
theorem Ed.go {Q : VK} (h : Ed K X B te σ d) (s : Same B H) (o : Off X B) (j : Ints X H) (k : ∀ v N H2, Grow X B H N H2 → Ints X H2 → Rp K N d [v] → Q v H2) : te σ H Q :=
  h B (Same.refl B) H s o j Q fun v d' N H2 g j2 p r => by subst p; exact k v N H2 g j2 r
variable {E : Ends} {rest : TS} {i : Nat}
theorem go_ret (h : Ed K X B te σ d) (s : Same B H) (o : Off X B) (j : Ints X H) (k : ∀ v N H2, Grow X B H N H2 → Ints X H2 → Rp K N d [v] → E.rt v H2) : tRet te E σ H := h.go s o j k
theorem go_asg (h : Ed K X B te σ d) (s : Same B H) (o : Off X B) (j : Ints X H) (e : Env K B l) (k : ∀ v N H2, Grow X B H N H2 → Ints X H2 → Env K N ((v, d) :: l) → rest E (σ.set i (some v)) H2) : tSeq (tAsg te (gName i)) rest E σ H :=
  h.go s o j fun v N H2 g j2 r => k v N H2 g j2 ((e.mono g.bn).add r)
theorem go_next (h : E.nx σ H) : tNext E σ H := h
theorem no_ints : Ints [] H := fun _ h => by cases h
theorem no_off : Off [] B := fun _ h => by cases h
/-- a def's arguments: a row of one, two, three trees -/
theorem row1 {ds : D} {vs : List V} (h : ds.isRow = true ∧ ds.len = 1) (r : Rp K B ds vs) : ∃ a v, ds = .cons a .nil ∧ vs = [v] ∧ Env K B [(v, a)] := by
  obtain ⟨h1, h2⟩ := h
  match ds, h1, h2, r with
  | .cons a .nil, _, _, ⟨v, us, e, r1, r2⟩ =>
    have e2 : us = [] := r2
    subst e e2
    exact ⟨a, v, rfl, rfl, Env.nil.add r1⟩
theorem row2 {ds : D} {vs : List V} (h : ds.isRow = true ∧ ds.len = 2) (r : Rp K B ds vs) : ∃ a b v w, ds = .cons a (.cons b .nil) ∧ vs = [v, w] ∧ Env K B [(v, a), (w, b)] := by
  obtain ⟨h1, h2⟩ := h
  match ds, h1, h2, r with
  | .cons a (.cons b .nil), _, _, ⟨v, us, e, r1, w, us', e', r1', r2⟩ =>
    have e2 : us' = [] := r2
    subst e e' e2
    exact ⟨a, b, v, w, rfl, rfl, (Env.nil.add r1').add r1⟩
theorem row3 {ds : D} {vs : List V} (h : ds.isRow = true ∧ ds.len = 3) (r : Rp K B ds vs) : ∃ a b c v w x, ds = .cons a (.cons b (.cons c .nil)) ∧ vs = [v, w, x] ∧ Env K B [(v, a), (w, b), (x, c)] := by
  obtain ⟨h1, h2⟩ := h
  match ds, h1, h2, r with
  | .cons a (.cons b (.cons c .nil)), _, _, ⟨v, us, e, r1, w, us', e', r1', x, us2, e3, r3, r2⟩ =>
    have e2 : us2 = [] := r2
    subst e e' e3 e2
    exact ⟨a, b, c, v, w, x, rfl, rfl, ((Env.nil.add r3).add r1').add r1⟩
/-- what a def's end asks -/
theorem SpD.len {n : Nat} {pre : D → Prop} {post : D → D → Prop} {vs : List V} {Q : VK} {E : XK} (h : SpD K n pre post vs H Q E) : vs.length = n := by
  obtain ⟨_, _, e, _⟩ := h
  exact e
end
end YF

namespace YF
open PySem PySem.Spec PyProof.Rows L2
section
variable {X : Cx} {C : Addr} {bmB : List Value} {B newId initId : String}
/-- X(), an own exception class without __init__, made of nothing -/
theorem pmk_none {x : Str} {p pos : Pos} (F : ExcBaseFacts B newId initId bmB) (q : PySem.W.excIn X.K C bmB newId = true) (gC : X.mg x = some (.ref C)) (kC : PySem.W.keepIn X.K (.ref C) = true) (r : Raises X (.ref C)) (hg : Gl X x)
    (hdb : (x == ("__debug__" : Str)) = false := by decide) : PMk X (.Call (.Name x p) [] [] pos) (fun _ H Q => Q (.ref C) none H) := fun pins s σ H Q I h => by
  refine wpAny_Call_Name_kw (ld_glob I hg gC (PySem.W.callWith_K0 I.kIn kC ?_) hdb)
  obtain ⟨bm, N, nm, qn, bs, hdct, sn, sub, ab, col, dd, k0, k1, k2, k3, k5, mN, h1, h2, h3, h4⟩ := exc_obj I.kIn q
  exact wpAny_call_exc_subT F h4 h1 h2 h3 (fun h' e hm => mk_of I hm r h (I.hok.gone hm.new)) (Nat.zero_le _)
end
/-- a call of what stands at a place of a list: the def is told by its address -/
def tCallE (te : TE) (S : Addr → Sp → Prop) (E : St → XK) (t : TA) : TE := fun σ H Q => te σ H fun v H1 => ∃ f sp, v = .ref f ∧ S f sp ∧ t σ H1 fun vs H2 => sp vs H2 Q (E σ)
theorem call_sub (e i : Expr) (p2 : Pos) (args : List Expr) (pos : Pos) (env : PySem.Env) : eval (.Call (.Subscript e i p2) args [] pos) env = (do
    callWith pos (← eval (.Subscript e i p2) env) [] (backTo pos (starEach args env)) (backToKw pos (keywordEach [] env))) := rfl
theorem pe_callE {X : Cx} {e0 i0 : Expr} {p2 pos : Pos} {te : TE} {S : Addr → Sp → Prop} {E : St → XK} {e : Expr} {es : List Expr} {t : TA} {CX : CXT} {k : Nat} (he : PE X (.Subscript e0 i0 p2) te)
    (hS : ∀ f sp, S f sp → ∃ (fd : FuncData) (ps : List Str), FnOk X.prog X.w X.K X.mg X.base CX k f fd ps sp ∧ PySem.W.keepIn X.K (.ref f) = true ∧ Binds X.K fd ps []) (hr : Room k X.A) (hx : ∀ σ, PassesAt CX X σ (E σ)) (ha : PA X (e :: es) t)
    (hst : starEach (e :: es) X.env = (false, eval e X.env) :: starEach es X.env := by rfl) (hpl : (backTo pos (starEach es X.env)).any (·.1) = false := by rfl) : PE X (.Call (.Subscript e0 i0 p2) (e :: es) [] pos) (tCallE te S E t) := by
  refine ⟨fun pins s σ H Q I h => ?_⟩
  rw [call_sub]
  refine wpAny_bind (thn (he.run pins s σ H _ I h) fun u s1 ⟨v, H1, I1, r1, f, sp, ev, hs, q⟩ => ?_)
  subst ev
  cases r1
  obtain ⟨fd, ps, F, hk, hb⟩ := hS f sp hs
  refine PySem.W.callWith_K (h₀ := X.base) I1.ok.mod.kin hk (thn (ha.run pos pins s1 σ H1 _ I1 q) fun us s2 ⟨vs, H2, I2, r2, q2⟩ => ⟨I2.kIn, ?_⟩) hst hpl
  exact run_fnS F hr hb (hx σ) I2 r2 q2
end YF

/-! readings that leave the heap as it is: Te gives a value, Tt a truth value -/
namespace YF
open PySem PySem.Spec PyProof.Rows L2
def Te (te : TE) (σ : St) (H : Hp) (v : V) : Prop := ∀ Q : VK, Q v H → te σ H Q
def Tt (t : TT) (σ : St) (H : Hp) (b : Bool) : Prop := ∀ Q : Bool → Hp → Prop, Q b H → t σ H Q
section
variable {K : PySem.W.Frag} {σ : St} {H : Hp} {ta tb te : TE} {t u : TT} {x y z v : V} {a b : Bool} {i j : Int}
theorem te_var {i : Nat} (h : σ[i]? = some (some v)) : Te (tVar i) σ H v := fun Q q => ⟨v, h, q⟩
theorem te_c : Te (tC v) σ H v := fun Q q => q
theorem te_i0 {g : Int → Int → V} (ha : Te ta σ H (.int i)) (hb : Te tb σ H (.int j)) : Te (tOp (rI0 g) ta tb) σ H (g i j) := fun Q q => ha _ (hb _ ⟨i, j, rfl, rfl, q⟩)
theorem te_i {C : Int → Int → Prop} {g : Int → Int → V} (ha : Te ta σ H (.int i)) (hb : Te tb σ H (.int j)) (hc : C i j) : Te (tOp (rI C g) ta tb) σ H (g i j) := fun Q q => ha _ (hb _ ⟨i, j, rfl, rfl, hc, q⟩)
theorem te_eq (ha : Te ta σ H x) (hb : Te tb σ H y) (hs : scal x y = true) : Te (tOp rEq ta tb) σ H (.bl (decide (x = y))) := fun Q q => ha _ (hb _ ⟨hs, q⟩)
theorem te_ne (ha : Te ta σ H x) (hb : Te tb σ H y) (hs : scal x y = true) : Te (tOp rNe ta tb) σ H (.bl (!decide (x = y))) := fun Q q => ha _ (hb _ ⟨hs, q⟩)
theorem te_len {p : Addr} {xs : List V} (ha : Te te σ H (.ref p)) (h : SqL K H p xs ∨ SqT K H p xs) : Te (tCB (fun vs H Q => ∃ p ys, vs = [.ref p] ∧ (SqL K H p ys ∨ SqT K H p ys) ∧ Q (.int ys.length) H) (tCons te tNil)) σ H (.int (xs.length : Int)) := fun Q q => ha _ ⟨p, xs, rfl, h, q⟩
theorem te_lens {w : Str} (ha : Te te σ H (.str w)) (h : w.length ≤ sizeLine) : Te (tCB (fun xs H Q => ∃ z, xs = [V.str z] ∧ z.length ≤ sizeLine ∧ Q (.int z.length) H) (tCons te tNil)) σ H (.int (w.length : Int)) := fun Q q => ha _ ⟨w, rfl, h, q⟩
theorem tt_test (h : Te te σ H (.bl b)) : Tt (tTest te) σ H b := fun Q q => h _ ⟨b, rfl, q⟩
theorem tt_b (h : Te te σ H (.bl b)) : Tt (tB te) σ H b := fun Q q => h _ ⟨b, rfl, q⟩
theorem tt_and (h1 : Tt t σ H a) (h2 : a = true → Tt u σ H b) : Tt (tAnd t u) σ H (a && b) := fun Q q => h1 _ (by
  cases a with
  | true => exact h2 rfl Q q
  | false => exact q)
theorem tt_or (h1 : Tt t σ H a) (h2 : a = false → Tt u σ H b) : Tt (tOr t u) σ H (a || b) := fun Q q => h1 _ (by
  cases a with
  | true => exact q
  | false => exact h2 rfl Q q)
theorem tt_not (h : Tt t σ H a) : Tt (tNot t) σ H (!a) := fun Q q => h _ q
variable {D : Ends} {tu tw rest : TS}
theorem if_go (h : Tt t σ H b) (h1 : b = true → tu D σ H) (h2 : b = false → tw D σ H) : tIfS t tu tw D σ H := h _ (by
  cases b with
  | true => exact h1 rfl
  | false => exact h2 rfl)
/-- if t: (leaves); then the rest -/
theorem if_seq (h : Tt t σ H b) (h1 : b = true → tu { D with nx := rest D } σ H) (h2 : b = false → rest D σ H) : tSeq (tIfS t tu tNext) rest D σ H := if_go h h1 h2
theorem ret_te (h : Te te σ H v) (k : D.rt v H) : tRet te D σ H := h _ k
theorem asg_te {i : Nat} (h : Te te σ H v) (k : rest D (σ.set i (some v)) H) : tSeq (tAsg te (gName i)) rest D σ H := h _ k
end
end YF

/-! methods and makings that may raise within a try: what is wanted of the raised thing may hang on the slots -/
namespace YF
open PySem PySem.Spec PyProof.Rows L2
def tMethE (m : Str) (sp : Sp) (E : St → XK) (to : TE) (t : TA) : TE := fun σ H Q => to σ H fun x H1 => ∃ a C dx fs, x = .ref a ∧ H1 a = some (.ins C dx fs) ∧ fs.lookup m = none ∧ t σ H1 fun vs H2 => sp (x :: vs) H2 Q (E σ)
def tMethC (C : Addr) (m : Str) (sp : Sp) (E : St → XK) (to : TE) (t : TA) : TE := fun σ H Q => to σ H fun x H1 =>
  ∃ a dx fs, x = .ref a ∧ H1 a = some (.ins C dx fs) ∧ fs.lookup m = none ∧ t σ H1 fun vs H2 => sp (x :: vs) H2 Q (E σ)
def tMakeE (C : Addr) (sp : Sp) (E : St → XK) (t : TA) : TE := fun σ H Q => t σ H fun vs H1 =>
  ∀ x dx, H1 x = none → H1 dx = none → dx ≠ x → sp (.ref x :: vs) (upd (upd H1 dx (.own x)) x (.ins C dx [])) (fun v H2 => v = .non ∧ Q (.ref x) H2) (E σ)
section
variable {X : Cx} {CX : CXT} {k : Nat} {f C : Addr} {fd : FuncData} {ps : List Str} {sp : Sp} {E : St → XK} {x m : Str} {p pos apos : Pos} {e o : Expr} {es : List Expr} {to : TE} {t : TA}
theorem pe_methE {pl : Sem Bool} (he : PE X o to) (c : Cls X.K C) (hm : Meth X.K C m f) (F : FnOk X.prog X.w X.K X.mg X.base CX k f fd ps sp) (hr : Room k X.A) (hb : Binds X.K fd ps []) (hx : ∀ σ, PassesAt CX X σ (E σ)) (ha : PA X (e :: es) t)
    (hst : starEach (e :: es) X.env = (false, eval e X.env) :: starEach es X.env := by rfl)
    (hpl : (backTo pos (starEach es X.env)).any (·.1) = false := by rfl)
    (ht : eval (.Call (.Attribute o m apos) (e :: es) [] pos) X.env = (eval o X.env >>= fun ov => standAt apos.atName >>= fun _ =>
      holding [ov] (getMethod ov m pl) >>= fun g => callWith pos g.1 g.2 (backTo pos (starEach (e :: es) X.env)) (backToKw pos (keywordEach [] X.env))) := by rfl) :
    PE X (.Call (.Attribute o m apos) (e :: es) [] pos) (tMethC C m sp E to t) := by
  constructor
  intro pins s σ H Q I h
  refine PySem.W.methodCall_KW (pl := pl) (thn (he.run pins s σ H _ I h) fun u s1 hh => ?_) ht
  obtain ⟨x, H1, I1, rx, a, dx, fs, ex, ea, l, q⟩ := hh
  subst ex
  cases rx
  refine getmeth_ok I1 ea c hm l ?_
  refine PySem.W.callWith_K (first := [.ref a]) (h₀ := X.base) I.ok.mod.kin hm.kp ?_ hst hpl
  refine thn (ha.run pos pins s1 σ H1 _ I1 q) fun us s2 hq => ?_
  obtain ⟨vs, H2, I2, r, q2⟩ := hq
  exact ⟨I2.kIn, run_fnS (us := .ref a :: us) (vs := .ref a :: vs) F hr hb (hx σ) I2 (.cons rfl r) q2⟩
theorem run_makeE {pins : List (Addr × Obj)} {σ : St} {H : Hp} {s : Shared} {Q : VK} {us : List Value} {vs : List V} (M : Mk X.K C f) (F : FnOk X.prog X.w X.K X.mg X.base CX k f fd ps sp) (hr : Room (k + 1) X.A) (hb : Binds X.K fd ps [])
    (hx : PassesAt CX X σ (E σ)) (I : Inv X pins σ H s) (r : Vals vs us)
    (h : ∀ x dx, H x = none → H dx = none → dx ≠ x → sp (.ref x :: vs) (upd (upd H dx (.own x)) x (.ins C dx [])) (fun v H2 => v = .non ∧ Q (.ref x) H2) (E σ)) :
    wpAny (model X.prog X.w) X.A (call (.ref C) us) (EP X pins σ Q) X.xe s := by
  have n0 := I.hok.fresh (Nat.le_succ s.heap.objs.size)
  have n1 := I.hok.fresh (Nat.le_refl s.heap.objs.size)
  have hq := h _ _ n0 n1 (Nat.ne_of_lt (Nat.lt_succ_self _))
  have J := Inv.made (C := C) I
  have r2 : Vals (V.ref (s.heap.objs.size + 1) :: vs) (Value.ref (s.heap.objs.size + 1) :: us) := .cons rfl r
  have hl : (Value.ref (s.heap.objs.size + 1) :: us).length = ps.length := by
    rw [← r2.length]
    exact F.len _ _ _ _ hq
  have b := hb _ (Value.ref (s.heap.objs.size + 1) :: us) J.kIn (by rw [List.append_nil]; exact hl)
  rw [List.append_nil] at b
  refine wpAny_call (make_map (f := f) I.kIn M.makes M.init (beq_iff_eq.mp M.fn) (codeAny_mono (F.run _ X.stack _ _ ⟨Value.ref (s.heap.objs.size + 1) :: us, []⟩ _ _ _ (E σ) (hr.make C us []) (J.env0.make C us []) b r2 hq) fun z s' w => ?_))
  cases z with
  | error er => exact hx pins _ _ er s' J w
  | ok fl =>
    cases fl with
    | ret u =>
      obtain ⟨v, H', J3, rv, ev, q3⟩ := J.after w
      subst ev
      exact ⟨rv, V.ref (s.heap.objs.size + 1), H', J3, rfl, q3⟩
    | next => exact w.elim
    | brk => exact w.elim
    | cont => exact w.elim
theorem pe_makeE (M : Mk X.K C f) (F : FnOk X.prog X.w X.K X.mg X.base CX k f fd ps sp) (hr : Room (k + 1) X.A) (hg : Gl X x) (hm : X.mg x = some (.ref C)) (hb : Binds X.K fd ps []) (hx : ∀ σ, PassesAt CX X σ (E σ)) (ha : PA X (e :: es) t)
    (hdb : (x == ("__debug__" : Str)) = false := by decide) (he : starEach (e :: es) X.env = (false, eval e X.env) :: starEach es X.env := by rfl)
    (hpl : (backTo pos (starEach es X.env)).any (·.1) = false := by rfl) : PE X (.Call (.Name x p) (e :: es) [] pos) (tMakeE C sp E t) := by
  constructor
  intro pins s σ H Q I h
  refine wpAny_Call_Name_kw (ld_glob I hg hm ?_ hdb)
  refine PySem.W.callWith_K (h₀ := X.base) I.ok.mod.kin M.kp ?_ he hpl
  refine thn (ha.run pos pins s σ H _ I h) fun us s1 hq => ?_
  obtain ⟨vs, H1, I1, r, q⟩ := hq
  exact ⟨I1.kIn, run_makeE M F hr hb (hx σ) I1 r q⟩
end
end YF

/-! more readings that leave the heap as it is, and stores told by their heap -/
namespace YF
open PySem PySem.Spec PyProof.Rows L2
/-- arguments that leave the heap as it is -/
def Ta (ta : TA) (σ : St) (H : Hp) (vs : List V) : Prop := ∀ Q : List V → Hp → Prop, Q vs H → ta σ H Q
/-- a promise kept without a change: v is given back -/
def Gives (sp : Sp) (vs : List V) (H : Hp) (v : V) (E : XK) : Prop := ∀ Q : VK, Q v H → sp vs H Q E
theorem lk_here {k f : Str} {v : V} {r : List (Str × V)} (h : (f == k) = true) : List.lookup f ((k, v) :: r) = some v := by
  rw [List.lookup_cons, h]
theorem lk_on {k f : Str} {v : V} {r : List (Str × V)} (h : (f == k) = false) : List.lookup f ((k, v) :: r) = List.lookup f r := by
  rw [List.lookup_cons, h]
theorem pf_here {k f : Str} {v u : V} {r : List (Str × V)} (h : k = f) : putF f u ((k, v) :: r) = (k, u) :: r := by
  show (if k = f then (k, u) :: r else (k, v) :: putF f u r) = _
  rw [if_pos h]
theorem pf_on {k f : Str} {v u : V} {r : List (Str × V)} (h : ¬ k = f) : putF f u ((k, v) :: r) = (k, v) :: putF f u r := by
  show (if k = f then (k, u) :: r else (k, v) :: putF f u r) = _
  rw [if_neg h]
section
variable {K : PySem.W.Frag} {σ : St} {H : Hp} {ta tb tc te to : TE} {t : TA} {x y z v : V} {i j : Int} {p C dx : Addr} {fs : List (Str × V)} {xs vs : List V} {f m : Str} {sp : Sp} {E : XK}
theorem ta_nil : Ta tNil σ H [] := fun Q q => q
theorem ta_cons (ha : Te te σ H v) (hb : Ta t σ H vs) : Ta (tCons te t) σ H (v :: vs) := fun Q q => ha _ (hb _ q)
theorem te_ixL (ha : Te ta σ H (.ref p)) (hb : Te tb σ H (.int i)) (h : SqL K H p xs) (e : atI xs i = some v) : Te (tOp (rIxL K) ta tb) σ H v := fun Q q => ha _ (hb _ ⟨p, xs, i, v, rfl, rfl, h, e, q⟩)
theorem te_ixT {p : Addr} (ha : Te ta σ H (.ref p)) (hb : Te tb σ H (.int i)) (h : SqT K H p xs) (e : atI xs i = some v) : Te (tOp (rIxT K) ta tb) σ H v := fun Q q => ha _ (hb _ ⟨p, xs, i, v, rfl, rfl, h, e, q⟩)
theorem te_fld (ha : Te ta σ H (.ref p)) (h : H p = some (.ins C dx fs)) (c : Cls K C) (n : NoAttr K C f) (l : fs.lookup f = some v) : Te (tFld K ta f) σ H v := fun Q q => ha _ ⟨p, C, dx, fs, v, rfl, h, c, n, l, q⟩
theorem te_dgetI {kvs : List (Key × V)} (ha : Te ta σ H (.ref p)) (hb : Te tb σ H (.int i)) (h : H p = some (.dK kvs)) (e : valV kvs (.inl i : Key) = some v) : Te (tDGet ta tb) σ H v := fun Q q =>
  ha _ (hb _ ⟨p, v, rfl, by rw [← e]; exact DGet.k (k := (.inl i : Key)) h, q⟩)
theorem te_dgetS {kvs : List (Key × V)} {s : Str} (ha : Te ta σ H (.ref p)) (hb : Te tb σ H (.str s)) (h : H p = some (.dK kvs)) (e : valV kvs (.inr s : Key) = some v) : Te (tDGet ta tb) σ H v := fun Q q =>
  ha _ (hb _ ⟨p, v, rfl, by rw [← e]; exact DGet.k (k := (.inr s : Key)) h, q⟩)
theorem te_dget1I {kvs : List (Key × V)} (ha : Te ta σ H (.ref p)) (hb : Te tb σ H (.int i)) (h : H p = some (.dK kvs)) (d : IsD H p) : Te (tDGet1 ta tb) σ H ((valV kvs (.inl i : Key)).getD .non) := fun Q q =>
  ha _ ⟨p, rfl, d, hb _ ⟨_, DGet.k (k := (.inl i : Key)) h, q⟩⟩
theorem te_dget2I {kvs : List (Key × V)} (ha : Te ta σ H (.ref p)) (hb : Te tb σ H (.int i)) (hc : Te tc σ H z) (h : H p = some (.dK kvs)) (d : IsD H p) : Te (tDGet2 ta tb tc) σ H ((valV kvs (.inl i : Key)).getD z) := fun Q q =>
  ha _ ⟨p, rfl, d, hb _ (hc _ ⟨_, DGet.k (k := (.inl i : Key)) h, q⟩)⟩
theorem te_isN (ha : Te ta σ H x) : Te (tOp (fun x y H Q => y = .non ∧ Q (.bl (decide (x = .non))) H) ta (tC .non)) σ H (.bl (decide (x = .non))) := fun Q q => ha _ ⟨rfl, q⟩
theorem te_notN (ha : Te ta σ H x) : Te (tOp (fun x y H Q => y = .non ∧ Q (.bl (!decide (x = .non))) H) ta (tC .non)) σ H (.bl (!decide (x = .non))) := fun Q q => ha _ ⟨rfl, q⟩
theorem te_int1 (ha : Te ta σ H (.int i)) : Te (tCB (fun xs H Q => (∃ i, xs = [.int i] ∧ Q (.int i) H) ∨ ∃ k, xs = [.bl k] ∧ Q (.int (if k then 1 else 0)) H) (tCons ta tNil)) σ H (.int i) := fun Q q => ha _ (.inl ⟨i, rfl, q⟩)
theorem te_int1b {b : Bool} (ha : Te ta σ H (.bl b)) : Te (tCB (fun xs H Q => (∃ i, xs = [.int i] ∧ Q (.int i) H) ∨ ∃ k, xs = [.bl k] ∧ Q (.int (if k then 1 else 0)) H) (tCons ta tNil)) σ H (.int (if b then 1 else 0)) := fun Q q => ha _ (.inr ⟨b, rfl, q⟩)
theorem te_call (ha : Ta t σ H vs) (g : Gives sp vs H v E) : Te (tCall sp [] E t) σ H v := fun Q q => ha _ (by
  show sp (vs ++ []) H Q E
  rw [List.append_nil]
  exact g Q q)
theorem te_meth (ha : Te to σ H (.ref p)) (h : H p = some (.ins C dx fs)) (l : fs.lookup m = none) (hb : Ta t σ H vs) (g : Gives sp (.ref p :: vs) H v E) : Te (tMeth C m sp [] E to t) σ H v := fun Q q => ha _ ⟨p, dx, fs, rfl, h, l, hb _ (by
  show sp (.ref p :: (vs ++ [])) H Q E
  rw [List.append_nil]
  exact g Q q)⟩
theorem te_andV {a b : Bool} (ha : Te ta σ H (.bl a)) (hb : a = true → Te tb σ H (.bl b)) : Te (tAndV ta tb) σ H (.bl (a && b)) := fun Q q => ha _ ⟨a, rfl, by
  cases a with
  | true => exact hb rfl Q q
  | false => exact q⟩
theorem te_orV {a b : Bool} (ha : Te ta σ H (.bl a)) (hb : a = false → Te tb σ H (.bl b)) : Te (tOrV ta tb) σ H (.bl (a || b)) := fun Q q => ha _ ⟨a, rfl, by
  cases a with
  | true => exact q
  | false => exact hb rfl Q q⟩
theorem te_notV {a : Bool} (ha : Te ta σ H (.bl a)) : Te (tNotV ta) σ H (.bl (!a)) := fun Q q => ha _ ⟨a, rfl, q⟩
theorem tt_true {b : Bool} (h : Te te σ H (.bl b)) : Tt (tTest te) σ H b := tt_test h
variable {D : Ends} {rest : TS}
/-- a[k] = e, a list -/
theorem st_lst {q j : Nat} {k : Int} (h : Te te σ H v) (hp : Te to σ H (.ref p)) (hi : Te ta σ H (.int k)) (e : H p = some (.lst xs)) (hk : ixN xs.length k = some j) (r : rest D σ (upd H p (.lst (xs.set j v)))) :
    tSeq (tAsg te (gSub to ta rSetL)) rest D σ H := h _ (hp _ (hi _ ⟨p, xs, k, j, rfl, rfl, e, hk, r⟩))
theorem st_fld (h : Te te σ H v) (hp : Te to σ H (.ref p)) (e : H p = some (.ins C dx fs)) (c : Cls K C) (n : NoAttr K C f) (l : fs.length < 1000) (r : rest D σ (upd H p (.ins C dx (putF f v fs)))) :
    tSeq (sFld K to te f) rest D σ H := h _ (hp _ ⟨p, C, dx, fs, rfl, e, c, n, l, r⟩)
theorem st_dputI {kvs : List (Key × V)} (h : Te te σ H v) (hp : Te to σ H (.ref p)) (hi : Te ta σ H (.int i)) (e : H p = some (.dK kvs)) (l : kvs.length < sizeLine) (r : D.nx σ (upd H p (.dK (putK kvs (.inl i : Key) v)))) :
    sDPut to ta te D σ H := h _ (hp _ (hi _ ⟨p, _, rfl, DPut.k (k := (.inl i : Key)) e l, r⟩))
theorem st_dputS {kvs : List (Key × V)} {s : Str} (h : Te te σ H v) (hp : Te to σ H (.ref p)) (hi : Te ta σ H (.str s)) (e : H p = some (.dK kvs)) (l : kvs.length < sizeLine) (r : D.nx σ (upd H p (.dK (putK kvs (.inr s : Key) v)))) :
    sDPut to ta te D σ H := h _ (hp _ (hi _ ⟨p, _, rfl, DPut.k (k := (.inr s : Key)) e l, r⟩))
theorem sq_go {t u : TS} (h : t { D with nx := u D } σ H) : tSeq t u D σ H := h
end
end YF

namespace K23
open PySem L2 YF
local macro_rules | `(tactic| walk_at "te1") => `(tactic| first
  | exact te_var rfl
  | exact te_c
  | (apply te_ixL
     · walk_at "te1"
     · walk_at "te1"
     · exact SqL.of (by assumption)
     · first | rfl | assumption)
  | (apply te_i0
     · walk_at "te1"
     · walk_at "te1")
  | (apply te_int1
     · walk_at "te1")
  | (apply te_i
     · walk_at "te1"
     · walk_at "te1"
     · first | assumption | exact (show CPow _ _ from ⟨by decide, by decide, by decide⟩) | exact (show CMul _ _ from Or.inr ⟨by decide, by decide⟩) | exact (show CMul _ _ from Or.inl ⟨by decide, by decide⟩) | exact (show CDiv _ _ from ⟨by decide, by decide⟩) | exact (show CDivN _ _ from ⟨by decide, by decide⟩) | (show (0 : Int) < _; decide))
  | (apply te_len
     · walk_at "te1"
     · exact .inl (SqL.of (by assumption))))
local macro_rules | `(tactic| walk_at "te") => `(tactic| walk_at "te1")
def topS (i : Nat) : Stmt := PySem.Challenge.pw_handshaker_k23_stripes_of_a_table.main.body.getD i (.Pass ⟨0, 0, 0, 0⟩)
abbrev s_law_state : Stmt := topS 9
theorem sc_law_state : FnScope ["script"] ["script"] (defScope s_law_state) := ⟨rfl, rfl, rfl, by decide +kernel, rfl, by decide +kernel, by decide +kernel⟩
abbrev s_law_draw : Stmt := topS 10
theorem sc_law_draw : FnScope ["state", "many", "value", "cell", "first"] ["state", "many"] (defScope s_law_draw) := ⟨rfl, rfl, rfl, by decide +kernel, rfl, by decide +kernel, by decide +kernel⟩
abbrev s_law_told : Stmt := topS 11
theorem sc_law_told : FnScope ["table", "word", "stripe", "thread", "version"] ["table", "word", "stripe", "thread", "version"] (defScope s_law_told) := ⟨rfl, rfl, rfl, by decide +kernel, rfl, by decide +kernel, by decide +kernel⟩
abbrev s_law_due : Stmt := topS 12
theorem sc_law_due : FnScope ["model", "word", "stripe", "thread", "version"] ["model", "word", "stripe", "thread", "version"] (defScope s_law_due) := ⟨rfl, rfl, rfl, by decide +kernel, rfl, by decide +kernel, by decide +kernel⟩
abbrev s_law_is_state : Stmt := topS 13
theorem sc_law_is_state : FnScope ["state", "table", "model", "stripe", "owner", "thread", "version", "due", "actual"] ["state", "table", "model"] (defScope s_law_is_state) := ⟨rfl, rfl, rfl, by decide +kernel, rfl, by decide +kernel, by decide +kernel⟩
abbrev s_law_refused : Stmt := topS 14
theorem sc_law_refused : FnScope ["count"] ["count"] (defScope s_law_refused) := ⟨rfl, rfl, rfl, by decide +kernel, rfl, by decide +kernel, by decide +kernel⟩
abbrev s_law : Stmt := topS 15
theorem sc_law : FnScope ["script", "state", "count", "table", "model", "_law_turn", "pick", "stripe", "thread", "version", "actual", "word", "cell"] ["script"] (defScope s_law) := ⟨rfl, rfl, rfl, by decide +kernel, rfl, by decide +kernel, by decide +kernel⟩
abbrev s_Stripes___init__ : Stmt := inClass (topS 7) 0
theorem sc_Stripes___init__ : FnScope ["self", "count"] ["self", "count"] (defScope s_Stripes___init__) := ⟨rfl, rfl, rfl, by decide +kernel, rfl, by decide +kernel, by decide +kernel⟩
abbrev s_Stripes_stripe_of : Stmt := inClass (topS 7) 1
theorem sc_Stripes_stripe_of : FnScope ["self", "cell"] ["self", "cell"] (defScope s_Stripes_stripe_of) := ⟨rfl, rfl, rfl, by decide +kernel, rfl, by decide +kernel, by decide +kernel⟩
abbrev s_Stripes_version : Stmt := inClass (topS 7) 2
theorem sc_Stripes_version : FnScope ["self", "stripe"] ["self", "stripe"] (defScope s_Stripes_version) := ⟨rfl, rfl, rfl, by decide +kernel, rfl, by decide +kernel, by decide +kernel⟩
abbrev s_Stripes_owner : Stmt := inClass (topS 7) 3
theorem sc_Stripes_owner : FnScope ["self", "stripe"] ["self", "stripe"] (defScope s_Stripes_owner) := ⟨rfl, rfl, rfl, by decide +kernel, rfl, by decide +kernel, by decide +kernel⟩
abbrev s_Stripes_tick : Stmt := inClass (topS 7) 4
theorem sc_Stripes_tick : FnScope ["self"] ["self"] (defScope s_Stripes_tick) := ⟨rfl, rfl, rfl, by decide +kernel, rfl, by decide +kernel, by decide +kernel⟩
abbrev s_Stripes_lock : Stmt := inClass (topS 7) 5
theorem sc_Stripes_lock : FnScope ["self", "stripe", "thread"] ["self", "stripe", "thread"] (defScope s_Stripes_lock) := ⟨rfl, rfl, rfl, by decide +kernel, rfl, by decide +kernel, by decide +kernel⟩
abbrev s_Stripes_free : Stmt := inClass (topS 7) 6
theorem sc_Stripes_free : FnScope ["self", "stripe", "thread"] ["self", "stripe", "thread"] (defScope s_Stripes_free) := ⟨rfl, rfl, rfl, by decide +kernel, rfl, by decide +kernel, by decide +kernel⟩
abbrev s_Stripes_stamp : Stmt := inClass (topS 7) 7
theorem sc_Stripes_stamp : FnScope ["self", "stripe", "thread", "version"] ["self", "stripe", "thread", "version"] (defScope s_Stripes_stamp) := ⟨rfl, rfl, rfl, by decide +kernel, rfl, by decide +kernel, by decide +kernel⟩
abbrev s_Stripes_is_open : Stmt := inClass (topS 7) 8
theorem sc_Stripes_is_open : FnScope ["self", "stripe", "thread", "version", "owner"] ["self", "stripe", "thread", "version"] (defScope s_Stripes_is_open) := ⟨rfl, rfl, rfl, by decide +kernel, rfl, by decide +kernel, by decide +kernel⟩
structure Adr where
  a__law_state : Addr
  d__law_state : FuncData
  a__law_draw : Addr
  d__law_draw : FuncData
  a__law_told : Addr
  d__law_told : FuncData
  a__law_due : Addr
  d__law_due : FuncData
  a__law_is_state : Addr
  d__law_is_state : FuncData
  a__law_refused : Addr
  d__law_refused : FuncData
  a_law : Addr
  d_law : FuncData
  a_Stripes___init__ : Addr
  d_Stripes___init__ : FuncData
  a_Stripes_stripe_of : Addr
  d_Stripes_stripe_of : FuncData
  a_Stripes_version : Addr
  d_Stripes_version : FuncData
  a_Stripes_owner : Addr
  d_Stripes_owner : FuncData
  a_Stripes_tick : Addr
  d_Stripes_tick : FuncData
  a_Stripes_lock : Addr
  d_Stripes_lock : FuncData
  a_Stripes_free : Addr
  d_Stripes_free : FuncData
  a_Stripes_stamp : Addr
  d_Stripes_stamp : FuncData
  a_Stripes_is_open : Addr
  d_Stripes_is_open : FuncData
  a_HandshakerError : Addr
  a_InvalidCount : Addr
  a_NotOwner : Addr
  a_InvalidVersion : Addr
  a_Stripes : Addr
structure Txt (K : PySem.W.Frag) (mg : Str → Option Value) (A : Adr) : Prop where
  F__law_state : Fun K "_law_state" "_law_state" s_law_state A.a__law_state A.d__law_state
  b__law_state : Binds K A.d__law_state ["script"] []
  g__law_state : mg "_law_state" = some (.ref A.a__law_state)
  F__law_draw : Fun K "_law_draw" "_law_draw" s_law_draw A.a__law_draw A.d__law_draw
  b__law_draw : Binds K A.d__law_draw ["state", "many"] []
  g__law_draw : mg "_law_draw" = some (.ref A.a__law_draw)
  F__law_told : Fun K "_law_told" "_law_told" s_law_told A.a__law_told A.d__law_told
  b__law_told : Binds K A.d__law_told ["table", "word", "stripe", "thread", "version"] []
  g__law_told : mg "_law_told" = some (.ref A.a__law_told)
  F__law_due : Fun K "_law_due" "_law_due" s_law_due A.a__law_due A.d__law_due
  b__law_due : Binds K A.d__law_due ["model", "word", "stripe", "thread", "version"] []
  g__law_due : mg "_law_due" = some (.ref A.a__law_due)
  F__law_is_state : Fun K "_law_is_state" "_law_is_state" s_law_is_state A.a__law_is_state A.d__law_is_state
  b__law_is_state : Binds K A.d__law_is_state ["state", "table", "model"] []
  g__law_is_state : mg "_law_is_state" = some (.ref A.a__law_is_state)
  F__law_refused : Fun K "_law_refused" "_law_refused" s_law_refused A.a__law_refused A.d__law_refused
  b__law_refused : Binds K A.d__law_refused ["count"] []
  g__law_refused : mg "_law_refused" = some (.ref A.a__law_refused)
  F_law : Fun K "law" "law" s_law A.a_law A.d_law
  b_law : Binds K A.d_law ["script"] []
  g_law : mg "law" = some (.ref A.a_law)
  F_Stripes___init__ : Fun K "__init__" "Stripes.__init__" s_Stripes___init__ A.a_Stripes___init__ A.d_Stripes___init__
  b_Stripes___init__ : Binds K A.d_Stripes___init__ ["self", "count"] []
  mk_Stripes : Mk K A.a_Stripes A.a_Stripes___init__
  F_Stripes_stripe_of : Fun K "stripe_of" "Stripes.stripe_of" s_Stripes_stripe_of A.a_Stripes_stripe_of A.d_Stripes_stripe_of
  b_Stripes_stripe_of : Binds K A.d_Stripes_stripe_of ["self", "cell"] []
  m_Stripes_stripe_of : Meth K A.a_Stripes "stripe_of" A.a_Stripes_stripe_of
  F_Stripes_version : Fun K "version" "Stripes.version" s_Stripes_version A.a_Stripes_version A.d_Stripes_version
  b_Stripes_version : Binds K A.d_Stripes_version ["self", "stripe"] []
  m_Stripes_version : Meth K A.a_Stripes "version" A.a_Stripes_version
  F_Stripes_owner : Fun K "owner" "Stripes.owner" s_Stripes_owner A.a_Stripes_owner A.d_Stripes_owner
  b_Stripes_owner : Binds K A.d_Stripes_owner ["self", "stripe"] []
  m_Stripes_owner : Meth K A.a_Stripes "owner" A.a_Stripes_owner
  F_Stripes_tick : Fun K "tick" "Stripes.tick" s_Stripes_tick A.a_Stripes_tick A.d_Stripes_tick
  b_Stripes_tick : Binds K A.d_Stripes_tick ["self"] []
  m_Stripes_tick : Meth K A.a_Stripes "tick" A.a_Stripes_tick
  F_Stripes_lock : Fun K "lock" "Stripes.lock" s_Stripes_lock A.a_Stripes_lock A.d_Stripes_lock
  b_Stripes_lock : Binds K A.d_Stripes_lock ["self", "stripe", "thread"] []
  m_Stripes_lock : Meth K A.a_Stripes "lock" A.a_Stripes_lock
  F_Stripes_free : Fun K "free" "Stripes.free" s_Stripes_free A.a_Stripes_free A.d_Stripes_free
  b_Stripes_free : Binds K A.d_Stripes_free ["self", "stripe", "thread"] []
  m_Stripes_free : Meth K A.a_Stripes "free" A.a_Stripes_free
  F_Stripes_stamp : Fun K "stamp" "Stripes.stamp" s_Stripes_stamp A.a_Stripes_stamp A.d_Stripes_stamp
  b_Stripes_stamp : Binds K A.d_Stripes_stamp ["self", "stripe", "thread", "version"] []
  m_Stripes_stamp : Meth K A.a_Stripes "stamp" A.a_Stripes_stamp
  F_Stripes_is_open : Fun K "is_open" "Stripes.is_open" s_Stripes_is_open A.a_Stripes_is_open A.d_Stripes_is_open
  b_Stripes_is_open : Binds K A.d_Stripes_is_open ["self", "stripe", "thread", "version"] []
  m_Stripes_is_open : Meth K A.a_Stripes "is_open" A.a_Stripes_is_open
  cl_Stripes : Cls K A.a_Stripes
  g_Stripes : mg "Stripes" = some (.ref A.a_Stripes)
  no_Stripes_count : NoAttr K A.a_Stripes "count"
  no_Stripes_clock : NoAttr K A.a_Stripes "clock"
  no_Stripes__versions : NoAttr K A.a_Stripes "_versions"
  no_Stripes__owners : NoAttr K A.a_Stripes "_owners"
  g_InvalidCount : mg "InvalidCount" = some (.ref A.a_InvalidCount)
  x_InvalidCount : PySem.W.excIn K A.a_InvalidCount [.type "ValueError", .type "Exception", .type "BaseException", .type "object"] "ValueError.__new__" = true
  k_InvalidCount : PySem.W.keepIn K (.ref A.a_InvalidCount) = true
  y_InvalidCount : PySem.W.subIn K (.ref A.a_InvalidCount) (.type "BaseException") = some true
  t_InvalidCount : PySem.W.typeIn K (.ref A.a_InvalidCount) = some (.type "type")
  i_InvalidCount : PySem.W.isClsIn K A.a_InvalidCount = true
  s_InvalidCount : PySem.W.subIn K (.ref A.a_InvalidCount) (.ref A.a_InvalidCount) = some true
  g_NotOwner : mg "NotOwner" = some (.ref A.a_NotOwner)
  x_NotOwner : PySem.W.excIn K A.a_NotOwner [.type "ValueError", .type "Exception", .type "BaseException", .type "object"] "ValueError.__new__" = true
  k_NotOwner : PySem.W.keepIn K (.ref A.a_NotOwner) = true
  y_NotOwner : PySem.W.subIn K (.ref A.a_NotOwner) (.type "BaseException") = some true
  t_NotOwner : PySem.W.typeIn K (.ref A.a_NotOwner) = some (.type "type")
  i_NotOwner : PySem.W.isClsIn K A.a_NotOwner = true
  s_NotOwner : PySem.W.subIn K (.ref A.a_NotOwner) (.ref A.a_NotOwner) = some true
  g_InvalidVersion : mg "InvalidVersion" = some (.ref A.a_InvalidVersion)
  x_InvalidVersion : PySem.W.excIn K A.a_InvalidVersion [.type "ValueError", .type "Exception", .type "BaseException", .type "object"] "ValueError.__new__" = true
  k_InvalidVersion : PySem.W.keepIn K (.ref A.a_InvalidVersion) = true
  y_InvalidVersion : PySem.W.subIn K (.ref A.a_InvalidVersion) (.type "BaseException") = some true
  t_InvalidVersion : PySem.W.typeIn K (.ref A.a_InvalidVersion) = some (.type "type")
  i_InvalidVersion : PySem.W.isClsIn K A.a_InvalidVersion = true
  s_InvalidVersion : PySem.W.subIn K (.ref A.a_InvalidVersion) (.ref A.a_InvalidVersion) = some true
  n_len : mg "len" = none
  n_int : mg "int" = none
  n_list : mg "list" = none
  n_range : mg "range" = none
  n_isinstance : mg "isinstance" = none
  n_bool : mg "bool" = none
  g_HandshakerError : mg "HandshakerError" = some (.ref A.a_HandshakerError)
  e_NN : PySem.W.exmOne K (.ref A.a_NotOwner) (.ref A.a_NotOwner) = some true
  e_VN : PySem.W.exmOne K (.ref A.a_InvalidVersion) (.ref A.a_NotOwner) = some false
  e_VV : PySem.W.exmOne K (.ref A.a_InvalidVersion) (.ref A.a_InvalidVersion) = some true
  e_CC : PySem.W.exmOne K (.ref A.a_InvalidCount) (.ref A.a_InvalidCount) = some true
/-! what a state of draws is; what a table is; what the law's own model is -/
def lst5 (ls : Addr) (i x s n : Int) : List V := [.ref ls, .int i, .int x, .int s, .int n]
structure StateAt (H : Hp) (p ls : Addr) : Prop where
  ex : ∃ i x s n : Int, H p = some (.lst (lst5 ls i x s n)) ∧ 0 ≤ i
  ls : ∃ ns : List Int, H ls = some (.lst (ns.map V.int))
/-- nothing but what stands at addresses of X is otherwise -/
def Chg (X : List Addr) (H H' : Hp) : Prop := ∀ b, b ∉ X → H' b = H b
theorem Chg.refl {X : List Addr} {H : Hp} : Chg X H H := fun _ _ => rfl
theorem Chg.upd {X : List Addr} {H H' : Hp} {p : Addr} {o : HO} (h : Chg X H H') (m : p ∈ X) : Chg X H (upd H' p o) := fun b nb => by
  rw [upd_ne (fun e => nb (by rw [e]; exact m))]
  exact h b nb
theorem StateAt.ne {H : Hp} {p ls : Addr} (S : StateAt H p ls) : p ≠ ls := fun e => by
  obtain ⟨i, x, s, n, h, _⟩ := S.ex
  obtain ⟨ns, k⟩ := S.ls
  rw [← e, h] at k
  have k2 := HO.lst.inj (Option.some.inj k)
  cases ns with
  | nil => cases k2
  | cons a r => cases k2
theorem StateAt.set {H H' : Hp} {p ls : Addr} (S : StateAt H p ls) (c : Chg [p] H H') {i x s n : Int} (h0 : 0 ≤ i) : StateAt (upd H' p (.lst (lst5 ls i x s n))) p ls := by
  refine ⟨⟨i, x, s, n, upd_same, h0⟩, ?_⟩
  obtain ⟨ns, k⟩ := S.ls
  exact ⟨ns, by rw [upd_ne S.ne.symm, c ls (by simp [S.ne.symm])]; exact k⟩
/-- a table's fields -/
def flds (n c : Int) (dv dO : Addr) : List (Str × V) := [("count", .int n), ("clock", .int c), ("_versions", .ref dv), ("_owners", .ref dO)]
def isOwn : V → Bool
  | .non => true
  | .int _ => true
  | _ => false
def verOf (kv : List (Key × V)) (s : Int) : V := (valV kv (.inl s)).getD (.int 0)
def ownOf (ko : List (Key × V)) (s : Int) : V := (valV ko (.inl s)).getD .non
structure TabAt (H : Hp) (C t dx dv dO : Addr) (n c : Int) (kv ko : List (Key × V)) : Prop where
  ob : H t = some (.ins C dx (flds n c dv dO))
  ver : H dv = some (.dK kv)
  own : H dO = some (.dK ko)
  ne : dv ≠ dO
def mkv (c : Int) (lv lo : Addr) : List (Key × V) := [(.inr "clock", .int c), (.inr "versions", .ref lv), (.inr "owners", .ref lo)]
section
variable {P : Program} {w : World} {K : PySem.W.Frag} {mg : Str → Option Value} {base : Heap} {A : Adr}
/-! ### draws -/
def spState (K : PySem.W.Frag) : Sp := fun vs H Q _ => ∃ (a : Addr) (ns : List Int), vs = [.ref a] ∧ SqL K H a (ns.map V.int) ∧
  ∀ (ls p : Addr) (H' : Hp), StateAt H' p ls → H p = none → H ls = none → (∀ b o, H b = some o → H' b = some o) → Q (.ref p) H'
theorem ok_law_state (T : Txt K mg A) : FnOk P w K mg base CX0 1 A.a__law_state A.d__law_state ["script"] (spState K) := by
  refine T.F__law_state.ok sc_law_state (fun vs H Q E ⟨_, _, e, _⟩ => by rw [e]; rfl) (fun cdv A' outer s H vs Q E hr h => ?_)
  obtain ⟨a, ns, rfl, hS, k⟩ := h
  refine ⟨_, pss_one (ps_ret (pe_lst (pa_cons (pe_callTy call_list_of (by rfl) T.n_list (by decide +kernel) (pa_cons (pv 0) pa_nil)) (pa_cons (pe_int) (pa_cons (pe_int) (pa_cons (pe_int) (pa_cons (pe_int) pa_nil))))))), ?_⟩
  refine ⟨_, rfl, a, _, rfl, .inl hS, fun l hl => ?_⟩
  refine ⟨by show 5 ≤ sizeLine; decide, fun p hp => ?_⟩
  have npl : p ≠ l := fun e => by rw [e, upd_same] at hp; cases hp
  have hp0 : H p = none := by rw [upd_ne npl] at hp; exact hp
  refine k l p _ ⟨⟨0, 0, 1, 0, upd_same, Int.le_refl 0⟩, ns, by rw [upd_ne npl.symm, upd_same]⟩ hp0 hl fun b o e => ?_
  rw [upd_ne (ne_of_none e hp0), upd_ne (ne_of_none e hl)]
  exact e
def spDraw : Sp := fun vs H Q _ => ∃ (p ls : Addr) (m : Int), vs = [.ref p, .int m] ∧ StateAt H p ls ∧ 0 < m ∧ m < 1000000 ∧
  ∀ (r : Int) (H' : Hp), 0 ≤ r → r < m → Chg [p] H H' → StateAt H' p ls → Q (.int r) H'
theorem st5 {te : TE} {σ : L2.St} {H0 H : Hp} {p ls : Addr} {i x s n k : Int} {q j : Nat} {v : V} {D : Ends} {rest : TS} (h : Te te σ H v) (hp : σ[q]? = some (some (.ref p))) (e : H p = some (.lst (lst5 ls i x s n))) (c : Chg [p] H0 H) (hk : ixN 5 k = some j)
    (r : ∀ H2, Chg [p] H0 H2 → H2 p = some (.lst ((lst5 ls i x s n).set j v)) → rest D σ H2) : tSeq (tAsg te (gSub (tVar q) (tC (.int k)) rSetL)) rest D σ H :=
  st_lst (q := q) h (te_var hp) te_c e hk (r _ (c.upd (by simp)) upd_same)
theorem ok_law_draw (T : Txt K mg A) : FnOk P w K mg base CX0 1 A.a__law_draw A.d__law_draw ["state", "many"] spDraw := by
  refine T.F__law_draw.ok sc_law_draw (fun vs H Q E ⟨_, _, _, e, _⟩ => by rw [e]; rfl) (fun cdv A' outer s H vs Q E hr h => ?_)
  obtain ⟨p, ls, m, rfl, S, m0, m1, k⟩ := h
  refine ⟨_, pss_cons (ps_if (PW.pt (pw_and (pt_cmpR op_gt (pe_ix ix_list (pv 0) (pe_int) (fun _ _ => rfl)) (pe_int) (nomark _)) (pw_and1 (pt_cmpR op_gt (pe_ix ix_list (pv 0) (pe_int) (fun _ _ => rfl)) (pe_int) (nomark _)))))
  (pss_cons (ps_set (i := 2) sc_law_draw.nd rfl (Or.inl rfl) (pe_op op_mod (pe_callTy call_int1 (by rfl) T.n_int (by decide +kernel) (pa_cons (pe_ix ix_list (pv 0) (pe_int) (fun _ _ => rfl)) pa_nil)) (pv 1)))
  (pss_cons (ps_asg (pe_op op_fdivN (pe_ix ix_list (pv 0) (pe_int) (fun _ _ => rfl)) (pv 1)) (pg_sub (pv 0) (pe_int) set_list))
  (pss_cons (ps_asg (pe_op op_sub (pe_ix ix_list (pv 0) (pe_int) (fun _ _ => rfl)) (pe_int)) (pg_sub (pv 0) (pe_int) set_list))
  (pss_one (ps_ret (pv 2))))))
  (pss_nil))
  (pss_cons (ps_set (i := 3) sc_law_draw.nd rfl (Or.inl rfl) (pe_op op_add (pe_ix ix_list (pv 0) (pe_int) (fun _ _ => rfl)) (pe_op op_mul (pe_int) (pe_ix ix_list (pv 0) (pe_int) (fun _ _ => rfl)))))
  (C8.pss_cut (ps_if (pt_cmpR op_lt (pe_ix ix_list (pv 0) (pe_int) (fun _ _ => rfl)) (pe_callB call_len_seq (by rfl) T.n_len (by decide +kernel) (pa_cons (pe_ix ix_list (pv 0) pe_int (fun _ _ => rfl)) pa_nil)) (nomark _))
  (pss_one (ps_set (i := 3) sc_law_draw.nd rfl (Or.inl rfl) (pe_ix ix_list (pe_ix ix_list (pv 0) pe_int (fun _ _ => rfl)) (pe_ix ix_list (pv 0) (pe_int) (fun _ _ => rfl)) (fun _ _ => rfl))))
  (pss_nil))
  (pss_cons (ps_asg (pe_op op_add (pe_ix ix_list (pv 0) (pe_int) (fun _ _ => rfl)) (pe_int)) (pg_sub (pv 0) (pe_int) set_list))
  (pss_cons (ps_if (pt_cmpR op_ge (pv 3) (pe_op op_pow (pe_int) (pe_int)) (nomark _))
  (pss_cons (ps_asg (pe_op op_fdivN (pv 3) (pv 1)) (pg_sub (pv 0) (pe_int) set_list))
  (pss_cons (ps_asg (pe_int) (pg_sub (pv 0) (pe_int) set_list))
  (pss_one (ps_ret (pe_op op_mod (pe_callTy call_int1 (by rfl) T.n_int (by decide +kernel) (pa_cons (pv 3) pa_nil)) (pv 1))))))
  (pss_nil))
  (pss_cons (ps_set (i := 4) sc_law_draw.nd rfl (Or.inl rfl) (pe_op op_mod (pe_callTy call_int1 (by rfl) T.n_int (by decide +kernel) (pa_cons (pe_op op_add (pe_op op_add (pe_op op_mul (pv 3) (pe_int)) (pe_op op_mul (pe_ix ix_list (pv 0) (pe_int) (fun _ _ => rfl)) (pe_int))) (pe_ix ix_list (pv 0) (pe_int) (fun _ _ => rfl))) pa_nil)) (pe_int)))
  (pss_cons (ps_asg (pe_op op_mod (pe_callTy call_int1 (by rfl) T.n_int (by decide +kernel) (pa_cons (pe_op op_add (pe_op op_add (pe_op op_mul (pv 4) (pe_int)) (pe_op op_mul (pv 4) (pv 4))) (pe_int)) pa_nil)) (pe_int)) (pg_sub (pv 0) (pe_int) set_list))
  (pss_one (ps_ret (pe_op op_mod (pe_callTy call_int1 (by rfl) T.n_int (by decide +kernel) (pa_cons (pe_op op_fdivN (pe_ix ix_list (pv 0) (pe_int) (fun _ _ => rfl)) (pe_int)) pa_nil)) (pv 1)))))))))), ?_⟩
  obtain ⟨⟨i, x, s, n, e, i0⟩, ns, els⟩ := id S
  have hm : (0 : Int) < m := m0
  have cd : CDivN x m := ⟨by omega, by omega⟩
  have kls : ∀ H2, Chg [p] H H2 → H2 ls = some (.lst (ns.map V.int)) := fun H2 c => by rw [c ls (by simp [S.ne.symm])]; exact els
  have fin : ∀ (r : Int) (H2 : Hp) (i x s n : Int), Chg [p] H H2 → H2 p = some (.lst (lst5 ls i x s n)) → 0 ≤ i → Q (.int (r % m)) H2 := fun r H2 i x s n c e h0 =>
    k _ H2 (Int.emod_nonneg _ (by omega)) (Int.emod_lt_of_pos _ hm) c ⟨⟨i, x, s, n, e, h0⟩, ns, kls H2 c⟩
  refine if_seq (b := decide (n > 0) && decide (x > 0)) (tt_and (tt_test (by walk_at "te")) fun _ => tt_test (by walk_at "te")) (fun _ => ?_) fun _ => ?_
  · refine asg_te (v := .int (x % m)) (by walk_at "te") ?_
    dsimp only [List.set]
    refine st5 (v := .int (x.fdiv m)) (by walk_at "te") rfl e Chg.refl rfl fun H1 c1 e1 => ?_
    have e1 : H1 p = some (.lst (lst5 ls i (x.fdiv m) s n)) := e1
    refine st5 (v := .int (n - 1)) (by walk_at "te") rfl e1 c1 rfl fun H2 c2 e2 => ?_
    exact ret_te (te_var rfl) (fin _ _ _ _ _ _ c2 e2 i0)
  · refine asg_te (v := .int (s + 7919 * i)) (by walk_at "te") ?_
    dsimp only [List.set]
    refine ⟨fun σ H1 => ∃ z : Int, σ = [some (.ref p), some (.int m), none, some (.int z), none] ∧ H1 = H, ?_, ?_⟩
    · refine if_go (b := decide (i < ns.length)) (by rw [← List.length_map (f := V.int) (as := ns)]; exact tt_test (by walk_at "te")) (fun h => ?_) fun _ => ⟨_, rfl, rfl⟩
      have hi := of_decide_eq_true h
      have hx : atI (ns.map V.int) i = some (.int (ns[i.toNat]'(by omega))) := by
        obtain ⟨j, rfl⟩ : ∃ j : Nat, i = j := ⟨i.toNat, by omega⟩
        rw [atI_nat (by rw [List.getElem?_map, List.getElem?_eq_getElem (by omega)]; rfl)]
        simp
      exact (te_ixL (te_ixL (te_var rfl) te_c (SqL.of e) rfl) (te_ixL (te_var rfl) te_c (SqL.of e) rfl) (SqL.of els) hx : Te _ _ _ _) _ ⟨_, rfl, rfl⟩
    · rintro σ H1 ⟨z, rfl, rfl⟩
      refine st5 (v := .int (i + 1)) (by walk_at "te") rfl e Chg.refl rfl fun H1 c1 e1 => ?_
      have e1 : H1 p = some (.lst (lst5 ls (i + 1) x s n)) := e1
      have i1 : 0 ≤ i + 1 := by omega
      have cz : CDivN z m := ⟨by omega, by omega⟩
      refine if_seq (tt_test (by walk_at "te")) (fun _ => ?_) fun _ => ?_
      · refine st5 (v := .int (z.fdiv m)) (by walk_at "te") rfl e1 c1 rfl fun H2 c2 e2 => ?_
        have e2 : H2 p = some (.lst (lst5 ls (i + 1) (z.fdiv m) s n)) := e2
        refine st5 (v := .int 60) (by walk_at "te") rfl e2 c2 rfl fun H3 c3 e3 => ?_
        exact ret_te (v := .int (z % m)) (by walk_at "te") (fin _ _ _ _ _ _ c3 e3 i1)
      · refine asg_te (v := .int ((z * 48271 + (i + 1) * 69621 + s) % 2147483647)) (by walk_at "te") ?_
        dsimp only [List.set]
        have f0 : 0 ≤ (z * 48271 + (i + 1) * 69621 + s) % 2147483647 := Int.emod_nonneg _ (by decide)
        have f1 : (z * 48271 + (i + 1) * 69621 + s) % 2147483647 < 2147483647 := Int.emod_lt_of_pos _ (by decide)
        generalize (z * 48271 + (i + 1) * 69621 + s) % 2147483647 = f at f0 f1
        have cf : CMul f f := .inl ⟨by omega, by omega⟩
        refine st5 (v := .int ((f * 16807 + f * f + 11) % 2147483629)) (by walk_at "te") rfl e1 c1 rfl fun H2 c2 e2 => ?_
        generalize (f * 16807 + f * f + 11) % 2147483629 = g at e2
        have e2 : H2 p = some (.lst (lst5 ls (i + 1) x g n)) := e2
        exact ret_te (v := .int (g.fdiv 3 % m)) (by walk_at "te") (fin _ _ _ _ _ _ c2 e2 i1)
end
end K23

namespace K23
open PySem L2 YF
theorem set_sl {σ σ' : L2.St} {t : TS} {E : Ends} {H : Hp} (e : σ = σ') (h : t E σ' H) : t E σ H := by
  rw [e]
  exact h
local macro_rules | `(tactic| walk_at "lk") => `(tactic| repeat (first | exact lk_here (by decide +kernel) | rw [lk_on (by decide +kernel)] | rfl))
local macro_rules | `(tactic| walk_at "te2") => `(tactic| first
  | exact te_var rfl
  | exact te_c
  | (apply te_fld
     · walk_at "te2"
     · assumption
     · exact T.cl_Stripes
     · first | exact T.no_Stripes_count | exact T.no_Stripes_clock | exact T.no_Stripes__versions | exact T.no_Stripes__owners
     · walk_at "lk")
  | (apply te_i0
     · walk_at "te2"
     · walk_at "te2"))
section
variable {P : Program} {w : World} {K : PySem.W.Frag} {mg : Str → Option Value} {base : Heap} {A : Adr}
theorem fl_count {n c : Int} {dv dO : Addr} : (flds n c dv dO).lookup ("count" : Str) = some (.int n) := lk_here (by decide +kernel)
theorem fl_clock {n c : Int} {dv dO : Addr} : (flds n c dv dO).lookup ("clock" : Str) = some (.int c) := (lk_on (by decide +kernel)).trans (lk_here (by decide +kernel))
theorem fl_ver {n c : Int} {dv dO : Addr} : (flds n c dv dO).lookup ("_versions" : Str) = some (.ref dv) := (lk_on (by decide +kernel)).trans ((lk_on (by decide +kernel)).trans (lk_here (by decide +kernel)))
theorem fl_own {n c : Int} {dv dO : Addr} : (flds n c dv dO).lookup ("_owners" : Str) = some (.ref dO) := (lk_on (by decide +kernel)).trans ((lk_on (by decide +kernel)).trans ((lk_on (by decide +kernel)).trans (lk_here (by decide +kernel))))
theorem fl_no {n c : Int} {dv dO : Addr} {m : Str} (h1 : (m == ("count" : Str)) = false) (h2 : (m == ("clock" : Str)) = false) (h3 : (m == ("_versions" : Str)) = false) (h4 : (m == ("_owners" : Str)) = false) : (flds n c dv dO).lookup m = none :=
  (lk_on h1).trans ((lk_on h2).trans ((lk_on h3).trans ((lk_on h4).trans rfl)))
theorem fl_put {n c c' : Int} {dv dO : Addr} : putF "clock" (.int c') (flds n c dv dO) = flds n c' dv dO := by
  unfold flds
  rw [pf_on (by decide +kernel), pf_here rfl]
theorem isD_of {H : Hp} {p : Addr} {kvs : List (Key × V)} (h : H p = some (.dK kvs)) : IsD H p := by
  first | exact .inl ⟨_, .inl h⟩ | exact ⟨_, .inl h⟩ | exact .inl ⟨_, h⟩ | exact ⟨_, h⟩
/-! ### the methods of a table -/
def spInit (A : Adr) : Sp := fun vs H Q E => ∃ (t dx : Addr) (n : Int), vs = [.ref t, .int n] ∧ H t = some (.ins A.a_Stripes dx []) ∧
  ((1 ≤ n ∧ ∀ (dv dO : Addr) (H' : Hp), TabAt H' A.a_Stripes t dx dv dO n 0 [] [] → H dv = none → H dO = none → (∀ b o, H b = some o → b ≠ t → H' b = some o) → Q .non H') ∨ (n < 1 ∧ E (.ref A.a_InvalidCount) none H))
theorem ok_Stripes___init__ (T : Txt K mg A) : FnOk P w K mg base (L2.CX P w) 1 A.a_Stripes___init__ A.d_Stripes___init__ ["self", "count"] (spInit A) := by
  refine T.F_Stripes___init__.okX sc_Stripes___init__ (fun vs H Q E ⟨_, _, _, e, _⟩ => by rw [e]; rfl) (fun cdv A' outer s H vs Q E hr h => ?_)
  obtain ⟨t, dx, n, rfl, ht, hk⟩ := h
  refine ⟨_, pss_cons (ps_if (pt_cmpR op_lt (pv 1) (pe_int) (nomark _))
  (pss_one (ps_raise rfl (takes_of rfl rfl rfl rfl) (pmk_none PySem.F.excBase_ValueError T.x_InvalidCount T.g_InvalidCount T.k_InvalidCount (raises_own T.y_InvalidCount T.t_InvalidCount) (by exact rfl))))
  (pss_nil))
  (pss_cons (ps_fld (pv 0) (pv 1) rfl)
  (pss_cons (ps_fld (pv 0) (pe_int) rfl)
  (pss_cons (ps_fld (pv 0) (pe_dnewK) rfl)
  (pss_one (ps_fld (pv 0) (pe_dnewK) rfl))))), ?_⟩
  refine if_seq (b := decide (n < 1)) (tt_test (te_i0 (te_var rfl) te_c)) (fun h => ?_) fun h => ?_
  · have h1 := of_decide_eq_true h
    rcases hk with ⟨h2, _⟩ | ⟨_, k⟩
    · omega
    · exact k
  · have h1 : ¬ n < 1 := fun q => by rw [decide_eq_true q] at h; cases h
    rcases hk with ⟨_, k⟩ | ⟨h2, _⟩
    · refine st_fld (te_var rfl) (te_var rfl) ht T.cl_Stripes T.no_Stripes_count (by show 0 < 1000; decide) ?_
      refine st_fld te_c (te_var rfl) upd_same T.cl_Stripes T.no_Stripes_clock (by show 1 < 1000; decide) ?_
      refine sq_go ?_
      intro dv hdv
      have nt1 : dv ≠ t := fun e => by rw [e, upd_same] at hdv; cases hdv
      have hdv0 : H dv = none := by rw [upd_ne nt1, upd_ne nt1] at hdv; exact hdv
      refine ⟨_, rfl, t, _, dx, _, rfl, (by rw [upd_ne nt1.symm]; exact upd_same), T.cl_Stripes, T.no_Stripes__versions, (by show 2 < 1000; decide), ?_⟩
      intro dO hdO
      have nt2 : dO ≠ t := fun e => by rw [e, upd_same] at hdO; cases hdO
      have nt3 : dO ≠ dv := fun e => by rw [upd_ne nt2, e, upd_same] at hdO; cases hdO
      have hdO0 : H dO = none := by rw [upd_ne nt2, upd_ne nt3, upd_ne nt2, upd_ne nt2] at hdO; exact hdO
      refine ⟨_, rfl, t, _, dx, _, rfl, (by rw [upd_ne nt2.symm]; exact upd_same), T.cl_Stripes, T.no_Stripes__owners, (by show 3 < 1000; decide), ?_⟩
      refine k dv dO _ ⟨?_, ?_, ?_, nt3.symm⟩ hdv0 hdO0 fun b o e nb => ?_
      · rw [upd_same]
        refine congrArg (fun l => some (HO.ins A.a_Stripes dx l)) ?_
        show putF _ _ (putF _ _ (putF _ _ [(("count" : Str), V.int n)])) = _
        rw [pf_on (by decide +kernel), pf_on (by decide +kernel), pf_on (by decide +kernel)]
        show _ :: putF _ _ (putF _ _ [(("clock" : Str), V.int 0)]) = _
        rw [pf_on (by decide +kernel), pf_on (by decide +kernel)]
        show _ :: _ :: putF _ _ [(("_versions" : Str), V.ref dv)] = _
        rw [pf_on (by decide +kernel)]
        rfl
      · rw [upd_ne nt1, upd_ne nt3.symm, upd_ne nt1, upd_same]
      · rw [upd_ne nt2, upd_same]
      · rw [upd_ne nb, upd_ne (ne_of_none e hdO0), upd_ne nb, upd_ne (ne_of_none e hdv0), upd_ne nb, upd_ne nb]
        exact e
    · exact absurd h2 h1
def spStripe (A : Adr) : Sp := fun vs H Q _ => ∃ (t dx dv dO : Addr) (n c z : Int) (kv ko : List (Key × V)), vs = [.ref t, .int z] ∧ TabAt H A.a_Stripes t dx dv dO n c kv ko ∧ 0 < n ∧ Q (.int (z % n)) H
theorem ok_Stripes_stripe_of (T : Txt K mg A) : FnOk P w K mg base CX0 1 A.a_Stripes_stripe_of A.d_Stripes_stripe_of ["self", "cell"] (spStripe A) := by
  refine T.F_Stripes_stripe_of.ok sc_Stripes_stripe_of (fun vs H Q E ⟨_, _, _, _, _, _, _, _, _, e, _⟩ => by rw [e]; rfl) (fun cdv A' outer s H vs Q E hr h => ?_)
  obtain ⟨t, dx, dv, dO, n, c, z, kv, ko, rfl, B, n0, k⟩ := h
  refine ⟨_, pss_one (ps_ret (pe_op op_mod (pv 1) (pe_fld (pv 0) rfl))), ?_⟩
  exact ret_te (te_i (te_var rfl) (te_fld (te_var rfl) B.ob T.cl_Stripes T.no_Stripes_count fl_count) n0) k
def spVer (A : Adr) : Sp := fun vs H Q _ => ∃ (t dx dv dO : Addr) (n c z : Int) (kv ko : List (Key × V)), vs = [.ref t, .int z] ∧ TabAt H A.a_Stripes t dx dv dO n c kv ko ∧ Q (verOf kv z) H
theorem ok_Stripes_version (T : Txt K mg A) : FnOk P w K mg base CX0 1 A.a_Stripes_version A.d_Stripes_version ["self", "stripe"] (spVer A) := by
  refine T.F_Stripes_version.ok sc_Stripes_version (fun vs H Q E ⟨_, _, _, _, _, _, _, _, _, e, _⟩ => by rw [e]; rfl) (fun cdv A' outer s H vs Q E hr h => ?_)
  obtain ⟨t, dx, dv, dO, n, c, z, kv, ko, rfl, B, k⟩ := h
  refine ⟨_, pss_one (ps_ret (pe_dget2 (hu_of hr) (pe_fld (pv 0) rfl) (pv 1) (pe_int) ⟨rfl, rfl, rfl, rfl⟩)), ?_⟩
  exact ret_te (te_dget2I (te_fld (te_var rfl) B.ob T.cl_Stripes T.no_Stripes__versions fl_ver) (te_var rfl) te_c B.ver (isD_of B.ver)) k
def spOwn (A : Adr) : Sp := fun vs H Q _ => ∃ (t dx dv dO : Addr) (n c z : Int) (kv ko : List (Key × V)), vs = [.ref t, .int z] ∧ TabAt H A.a_Stripes t dx dv dO n c kv ko ∧ Q (ownOf ko z) H
theorem ok_Stripes_owner (T : Txt K mg A) : FnOk P w K mg base CX0 1 A.a_Stripes_owner A.d_Stripes_owner ["self", "stripe"] (spOwn A) := by
  refine T.F_Stripes_owner.ok sc_Stripes_owner (fun vs H Q E ⟨_, _, _, _, _, _, _, _, _, e, _⟩ => by rw [e]; rfl) (fun cdv A' outer s H vs Q E hr h => ?_)
  obtain ⟨t, dx, dv, dO, n, c, z, kv, ko, rfl, B, k⟩ := h
  refine ⟨_, pss_one (ps_ret (pe_dget1 (hu_of hr) (pe_fld (pv 0) rfl) (pv 1) ⟨rfl, rfl, rfl, rfl⟩)), ?_⟩
  exact ret_te (te_dget1I (te_fld (te_var rfl) B.ob T.cl_Stripes T.no_Stripes__owners fl_own) (te_var rfl) B.own (isD_of B.own)) k
theorem te_ver {σ : L2.St} {H : Hp} {t dx dv dO : Addr} {n c z : Int} {kv ko : List (Key × V)} {te : TE} {ta : TA} {E : XK} (B : TabAt H A.a_Stripes t dx dv dO n c kv ko) (ht : Te te σ H (.ref t)) (ha : Ta ta σ H [.int z]) : Te (tMeth A.a_Stripes "version" (spVer A) [] E te ta) σ H (verOf kv z) :=
  te_meth ht B.ob (fl_no (by decide +kernel) (by decide +kernel) (by decide +kernel) (by decide +kernel)) ha fun Q q => ⟨t, dx, dv, dO, n, c, z, kv, ko, rfl, B, q⟩
theorem te_own {σ : L2.St} {H : Hp} {t dx dv dO : Addr} {n c z : Int} {kv ko : List (Key × V)} {te : TE} {ta : TA} {E : XK} (B : TabAt H A.a_Stripes t dx dv dO n c kv ko) (ht : Te te σ H (.ref t)) (ha : Ta ta σ H [.int z]) : Te (tMeth A.a_Stripes "owner" (spOwn A) [] E te ta) σ H (ownOf ko z) :=
  te_meth ht B.ob (fl_no (by decide +kernel) (by decide +kernel) (by decide +kernel) (by decide +kernel)) ha fun Q q => ⟨t, dx, dv, dO, n, c, z, kv, ko, rfl, B, q⟩
def spTick (A : Adr) : Sp := fun vs H Q _ => ∃ (t dx dv dO : Addr) (n c : Int) (kv ko : List (Key × V)), vs = [.ref t] ∧ TabAt H A.a_Stripes t dx dv dO n c kv ko ∧ Q (.int (c + 1)) (upd H t (.ins A.a_Stripes dx (flds n (c + 1) dv dO)))
theorem ok_Stripes_tick (T : Txt K mg A) : FnOk P w K mg base CX0 1 A.a_Stripes_tick A.d_Stripes_tick ["self"] (spTick A) := by
  refine T.F_Stripes_tick.ok sc_Stripes_tick (fun vs H Q E ⟨_, _, _, _, _, _, _, _, e, _⟩ => by rw [e]; rfl) (fun cdv A' outer s H vs Q E hr h => ?_)
  obtain ⟨t, dx, dv, dO, n, c, kv, ko, rfl, B, k⟩ := h
  refine ⟨_, pss_cons (ps_fldaug (pv 0) (pe_int) ip_add)
  (pss_one (ps_ret (pe_fld (pv 0) rfl))), ?_⟩
  refine ⟨_, rfl, t, _, dx, _, _, rfl, B.ob, T.cl_Stripes, T.no_Stripes_clock, fl_clock, _, _, rfl, rfl, dx, _, B.ob, (by show 4 < 1000; decide), ?_⟩
  rw [fl_put]
  exact ret_te (te_fld (te_var rfl) upd_same T.cl_Stripes T.no_Stripes_clock fl_clock) k
def spLock (A : Adr) : Sp := fun vs H Q _ => ∃ (t dx dv dO : Addr) (n c z th : Int) (kv ko : List (Key × V)), vs = [.ref t, .int z, .int th] ∧ TabAt H A.a_Stripes t dx dv dO n c kv ko ∧ ko.length < sizeLine ∧
  (ownOf ko z = .non → Q (.bl true) (upd H dO (.dK (putK ko (.inl z) (.int th))))) ∧ (ownOf ko z ≠ .non → Q (.bl false) H)
theorem ok_Stripes_lock (T : Txt K mg A) : FnOk P w K mg base CX0 2 A.a_Stripes_lock A.d_Stripes_lock ["self", "stripe", "thread"] (spLock A) := by
  refine T.F_Stripes_lock.ok sc_Stripes_lock (fun vs H Q E ⟨_, _, _, _, _, _, _, _, _, _, e, _⟩ => by rw [e]; rfl) (fun cdv A' outer s H vs Q E hr h => ?_)
  obtain ⟨t, dx, dv, dO, n, c, z, th, kv, ko, rfl, B, hl, k1, k2⟩ := h
  refine ⟨_, pss_cons (ps_if (pt_cmpR op_notN (pe_meth (pv 0) T.cl_Stripes T.m_Stripes_owner (ok_Stripes_owner T) (hr.mono (by decide)) T.b_Stripes_owner .nil pass0 (pa_cons (pv 1) pa_nil)) (pe_non) (nomark _))
  (pss_one (ps_ret (pe_bl)))
  (pss_nil))
  (pss_cons (ps_dput (hu_of hr) (pe_fld (pv 0) rfl) (pv 1) (pv 2) rfl)
  (pss_one (ps_ret (pe_bl)))), ?_⟩
  refine if_seq (tt_test (te_notN (te_own B (te_var rfl) (ta_cons (te_var rfl) ta_nil)))) (fun h => ?_) fun h => ?_
  · exact ret_te te_c (k2 (by simpa using h))
  · have h1 : ownOf ko z = .non := by simpa using h
    refine sq_go (st_dputI (te_var rfl) (te_fld (te_var rfl) B.ob T.cl_Stripes T.no_Stripes__owners fl_own) (te_var rfl) B.own hl ?_)
    dsimp only
    exact ret_te te_c (k1 h1)
def spFree (A : Adr) : Sp := fun vs H Q E => ∃ (t dx dv dO : Addr) (n c z th : Int) (kv ko : List (Key × V)), vs = [.ref t, .int z, .int th] ∧ TabAt H A.a_Stripes t dx dv dO n c kv ko ∧ ko.length < sizeLine ∧ isOwn (ownOf ko z) = true ∧
  (ownOf ko z = .int th → Q .non (upd H dO (.dK (putK ko (.inl z) .non)))) ∧ (ownOf ko z ≠ .int th → E (.ref A.a_NotOwner) none H)
theorem scal_own {x : V} {i : Int} (h : isOwn x = true) : scal x (.int i) = true := by
  cases x <;> first | rfl | cases h
theorem ok_Stripes_free (T : Txt K mg A) : FnOk P w K mg base (L2.CX P w) 2 A.a_Stripes_free A.d_Stripes_free ["self", "stripe", "thread"] (spFree A) := by
  refine T.F_Stripes_free.okX sc_Stripes_free (fun vs H Q E ⟨_, _, _, _, _, _, _, _, _, _, e, _⟩ => by rw [e]; rfl) (fun cdv A' outer s H vs Q E hr h => ?_)
  obtain ⟨t, dx, dv, dO, n, c, z, th, kv, ko, rfl, B, hl, ho, k1, k2⟩ := h
  refine ⟨_, pss_cons (ps_if (pt_cmpR op_ne (pe_meth (pv 0) T.cl_Stripes T.m_Stripes_owner (ok_Stripes_owner T) (hr.mono (by decide)) T.b_Stripes_owner .nil pass0 (pa_cons (pv 1) pa_nil)) (pv 2) (nomark _))
  (pss_one (ps_raise rfl (takes_of rfl rfl rfl rfl) (pmk_none PySem.F.excBase_ValueError T.x_NotOwner T.g_NotOwner T.k_NotOwner (raises_own T.y_NotOwner T.t_NotOwner) (by exact rfl))))
  (pss_nil))
  (pss_one (ps_dput (hu_of hr) (pe_fld (pv 0) rfl) (pv 1) (pe_non) rfl)), ?_⟩
  refine if_seq (tt_test (te_ne (te_own B (te_var rfl) (ta_cons (te_var rfl) ta_nil)) (te_var rfl) (scal_own ho))) (fun h => ?_) fun h => ?_
  · exact k2 (by simpa using h)
  · have h1 : ownOf ko z = .int th := by simpa using h
    exact st_dputI te_c (te_fld (te_var rfl) B.ob T.cl_Stripes T.no_Stripes__owners fl_own) (te_var rfl) B.own hl (k1 h1)
def spStamp (A : Adr) : Sp := fun vs H Q E => ∃ (t dx dv dO : Addr) (n c z th v r : Int) (kv ko : List (Key × V)), vs = [.ref t, .int z, .int th, .int v] ∧ TabAt H A.a_Stripes t dx dv dO n c kv ko ∧ ko.length < sizeLine ∧ kv.length < sizeLine ∧ isOwn (ownOf ko z) = true ∧ verOf kv z = .int r ∧
  (ownOf ko z = .int th → r < v → Q .non (upd (upd H dv (.dK (putK kv (.inl z) (.int v)))) dO (.dK (putK ko (.inl z) .non)))) ∧ (ownOf ko z = .int th → v ≤ r → E (.ref A.a_InvalidVersion) none H) ∧ (ownOf ko z ≠ .int th → E (.ref A.a_NotOwner) none H)
theorem ok_Stripes_stamp (T : Txt K mg A) : FnOk P w K mg base (L2.CX P w) 2 A.a_Stripes_stamp A.d_Stripes_stamp ["self", "stripe", "thread", "version"] (spStamp A) := by
  refine T.F_Stripes_stamp.okX sc_Stripes_stamp (fun vs H Q E ⟨_, _, _, _, _, _, _, _, _, _, _, _, e, _⟩ => by rw [e]; rfl) (fun cdv A' outer s H vs Q E hr h => ?_)
  obtain ⟨t, dx, dv, dO, n, c, z, th, v, r, kv, ko, rfl, B, hl, hl2, ho, hv, k1, k2, k3⟩ := h
  refine ⟨_, pss_cons (ps_if (pt_cmpR op_ne (pe_meth (pv 0) T.cl_Stripes T.m_Stripes_owner (ok_Stripes_owner T) (hr.mono (by decide)) T.b_Stripes_owner .nil pass0 (pa_cons (pv 1) pa_nil)) (pv 2) (nomark _))
  (pss_one (ps_raise rfl (takes_of rfl rfl rfl rfl) (pmk_none PySem.F.excBase_ValueError T.x_NotOwner T.g_NotOwner T.k_NotOwner (raises_own T.y_NotOwner T.t_NotOwner) (by exact rfl))))
  (pss_nil))
  (pss_cons (ps_if (pt_cmpR op_le (pv 3) (pe_meth (pv 0) T.cl_Stripes T.m_Stripes_version (ok_Stripes_version T) (hr.mono (by decide)) T.b_Stripes_version .nil pass0 (pa_cons (pv 1) pa_nil)) (nomark _))
  (pss_one (ps_raise rfl (takes_of rfl rfl rfl rfl) (pmk_none PySem.F.excBase_ValueError T.x_InvalidVersion T.g_InvalidVersion T.k_InvalidVersion (raises_own T.y_InvalidVersion T.t_InvalidVersion) (by exact rfl))))
  (pss_nil))
  (pss_cons (ps_dput (hu_of hr) (pe_fld (pv 0) rfl) (pv 1) (pv 3) rfl)
  (pss_one (ps_dput (hu_of hr) (pe_fld (pv 0) rfl) (pv 1) (pe_non) rfl)))), ?_⟩
  refine if_seq (tt_test (te_ne (te_own B (te_var rfl) (ta_cons (te_var rfl) ta_nil)) (te_var rfl) (scal_own ho))) (fun h => ?_) fun h => ?_
  · exact k3 (by simpa using h)
  · have h1 : ownOf ko z = .int th := by simpa using h
    refine if_seq (b := decide (v ≤ r)) (tt_test (te_i0 (te_var rfl) (by rw [← hv]; exact te_ver B (te_var rfl) (ta_cons (te_var rfl) ta_nil)))) (fun h => ?_) fun h => ?_
    · exact k2 h1 (by simpa using h)
    · have h2 : r < v := by
        have q : ¬ v ≤ r := by simpa using h
        omega
      have nt : t ≠ dv := ne_of B.ob B.ver (by intro z; cases z)
      refine sq_go (st_dputI (te_var rfl) (te_fld (te_var rfl) B.ob T.cl_Stripes T.no_Stripes__versions fl_ver) (te_var rfl) B.ver hl2 ?_)
      exact st_dputI te_c (te_fld (te_var rfl) (by rw [upd_ne nt]; exact B.ob) T.cl_Stripes T.no_Stripes__owners fl_own) (te_var rfl) (by rw [upd_ne B.ne.symm]; exact B.own) hl (k1 h1 h2)
def spOpen (A : Adr) : Sp := fun vs H Q _ => ∃ (t dx dv dO : Addr) (n c z th v r : Int) (kv ko : List (Key × V)), vs = [.ref t, .int z, .int th, .int v] ∧ TabAt H A.a_Stripes t dx dv dO n c kv ko ∧ isOwn (ownOf ko z) = true ∧ verOf kv z = .int r ∧
  Q (.bl ((decide (ownOf ko z = .non) || decide (ownOf ko z = .int th)) && decide (r ≤ v))) H
theorem ok_Stripes_is_open (T : Txt K mg A) : FnOk P w K mg base CX0 2 A.a_Stripes_is_open A.d_Stripes_is_open ["self", "stripe", "thread", "version"] (spOpen A) := by
  refine T.F_Stripes_is_open.ok sc_Stripes_is_open (fun vs H Q E ⟨_, _, _, _, _, _, _, _, _, _, _, _, e, _⟩ => by rw [e]; rfl) (fun cdv A' outer s H vs Q E hr h => ?_)
  obtain ⟨t, dx, dv, dO, n, c, z, th, v, r, kv, ko, rfl, B, ho, hv, k⟩ := h
  refine ⟨_, pss_cons (ps_set (i := 4) sc_Stripes_is_open.nd rfl (Or.inl rfl) (pe_meth (pv 0) T.cl_Stripes T.m_Stripes_owner (ok_Stripes_owner T) (hr.mono (by decide)) T.b_Stripes_owner .nil pass0 (pa_cons (pv 1) pa_nil)))
  (pss_one (ps_ret (pe_and (pe_or (pe_cmpR op_isN (pv 4) (pe_non) (nomark _)) (pe_one (pe_cmpR op_eq (pv 4) (pv 2) (nomark _)))) (pe_one (pe_cmpR op_le (pe_meth (pv 0) T.cl_Stripes T.m_Stripes_version (ok_Stripes_version T) (hr.mono (by decide)) T.b_Stripes_version .nil pass0 (pa_cons (pv 1) pa_nil)) (pv 3) (nomark _)))))), ?_⟩
  refine asg_te (te_own B (te_var rfl) (ta_cons (te_var rfl) ta_nil)) ?_
  refine set_sl (σ' := [some (.ref t), some (.int z), some (.int th), some (.int v), some (ownOf ko z)]) rfl ?_
  exact ret_te (te_andV (te_orV (te_isN (te_var rfl)) fun _ => te_eq (te_var rfl) (te_var rfl) (scal_own ho)) fun _ => te_i0 (by rw [← hv]; exact te_ver B (te_var rfl) (ta_cons (te_var rfl) ta_nil)) (te_var rfl)) k
end
end K23

namespace K23
open PySem L2 YF
/-- the law's own model at m -/
structure ModAt (H : Hp) (m lv lo : Addr) (c : Int) (vs : List Int) (os : List V) : Prop where
  md : ∃ kvs : List (Key × V), H m = some (.dK kvs) ∧ valV kvs (.inr "clock" : Key) = some (.int c) ∧ valV kvs (.inr "versions" : Key) = some (.ref lv) ∧ valV kvs (.inr "owners" : Key) = some (.ref lo) ∧ kvs.length ≤ 3
  hv : H lv = some (.lst (vs.map V.int))
  ho : H lo = some (.lst os)
  ne : lv ≠ lo
theorem put_le (kvs : List (Key × V)) (k : Key) (v : V) : (putK kvs k v).length ≤ kvs.length + 1 := by
  cases e : valV kvs k with
  | none =>
    rw [putK_new v e, List.length_append]
    exact Nat.le_refl _
  | some u =>
    have h : (kvs.any fun z => decide (z.1 = k)) = true := by rw [valV_any, e]; rfl
    simp [putK, h]
theorem put_len {kvs : List (Key × V)} {k : Key} {v u : V} (e : valV kvs k = some u) : (putK kvs k v).length = kvs.length := by
  have h : (kvs.any fun z => decide (z.1 = k)) = true := by rw [valV_any, e]; rfl
  simp [putK, h]
section
variable {P : Program} {w : World} {K : PySem.W.Frag} {mg : Str → Option Value} {base : Heap} {A : Adr}
theorem atZ {α : Type} {xs : List α} {i : Nat} {v : α} (f : α → V) (h : xs[i]? = some v) : atI (xs.map f) (i : Int) = some (f v) := atI_nat (by rw [List.getElem?_map, h]; rfl)
theorem at1 {xs : List V} {i : Nat} {v : V} (h : xs[i]? = some v) : atI xs (i : Int) = some v := atI_nat h
theorem ixN_nat {n i : Nat} (h : i < n) : ixN n (i : Int) = some i := by
  unfold ixN
  rw [if_pos (by omega), if_pos (by omega), Int.toNat_natCast]
theorem asg_call {σ : L2.St} {H : Hp} {ta : TA} {vs : List V} {sp : Sp} {E : XK} {D : Ends} {rest : TS} {i : Nat} (ha : Ta ta σ H vs) (h : sp vs H (fun v H' => rest D (σ.set i (some v)) H') E) : tSeq (tAsg (tCall sp [] E ta) (gName i)) rest D σ H :=
  ha _ (by
    show sp (vs ++ []) H _ E
    rw [List.append_nil]
    exact h)
theorem te_isi {σ : L2.St} {H : Hp} {te : TE} {x : V} {t : Value} {b : Bool} {ty : String} (hx : TyX K H x t) (hk : PySem.W.kitOne K t (.type ty) = some b) (ha : Te te σ H x) : Te (tCB (rIsi K) (tCons te (tCons (tC (.ty ty)) tNil))) σ H (.bl b) := fun Q q =>
  ha _ ⟨x, .ty ty, t, .type ty, b, rfl, .ty _, hx, hk, q⟩
/-! ### a deed on the table, on the model -/
def spTold (A : Adr) : Sp := fun vs H Q _ => ∃ (t dx dv dO : Addr) (n c z th v r : Int) (kv ko : List (Key × V)) (wd : Str), vs = [.ref t, .str wd, .int z, .int th, .int v] ∧ TabAt H A.a_Stripes t dx dv dO n c kv ko ∧ ko.length < sizeLine ∧ kv.length < sizeLine ∧ isOwn (ownOf ko z) = true ∧ verOf kv z = .int r ∧ (wd = "free" ∨ wd = "stamp") ∧
  (ownOf ko z ≠ .int th → Q (.str "owner") H) ∧ (ownOf ko z = .int th → wd = "free" → Q .non (upd H dO (.dK (putK ko (.inl z) .non)))) ∧ (ownOf ko z = .int th → wd ≠ "free" → v ≤ r → Q (.str "version") H) ∧
  (ownOf ko z = .int th → wd ≠ "free" → r < v → Q .non (upd (upd H dv (.dK (putK kv (.inl z) (.int v)))) dO (.dK (putK ko (.inl z) .non))))
theorem ok_law_told (T : Txt K mg A) : FnOk P w K mg base CX0 3 A.a__law_told A.d__law_told ["table", "word", "stripe", "thread", "version"] (spTold A) := by
  refine T.F__law_told.ok sc_law_told (fun vs H Q E ⟨_, _, _, _, _, _, _, _, _, _, _, _, _, e, _⟩ => by rw [e]; rfl) (fun cdv A' outer s H vs Q E hr h => ?_)
  obtain ⟨t, dx, dv, dO, n, c, z, th, v, r, kv, ko, wd, rfl, B, l1, l2, ho, hv, hw, k1, k2, k3, k4⟩ := h
  refine ⟨_, pss_one (ps_try_many rfl rfl takes0 (tb := fun W => tSeq (tIfS (tTest (tOp rEq (tVar 1) (tC (.str "free")))) (tRet (tMethC A.a_Stripes "free" (spFree A) (WE W) (tVar 0) (tCons (tVar 2) (tCons (tVar 3) tNil)))) tNext) (tRet (tMethC A.a_Stripes "stamp" (spStamp A) (WE W) (tVar 0) (tCons (tVar 2) (tCons (tVar 3) (tCons (tVar 4) tNil)))))) (Wout := fun _ _ _ _ => False)
 (fun W pn xe tk _ => pss_cons (ps_if (pt_cmpR op_eq (pv 1) (pe_str) (nomark _)) (pss_one (ps_ret (pe_methE (pv 0) T.cl_Stripes T.m_Stripes_free (ok_Stripes_free T) (hr.mono (by decide)) T.b_Stripes_free (fun σ => passAt tk σ) (pa_cons (pv 2) (pa_cons (pv 3) pa_nil))))) pss_nil) (pss_one (ps_ret (pe_methE (pv 0) T.cl_Stripes T.m_Stripes_stamp (ok_Stripes_stamp T) (hr.mono (by decide)) T.b_Stripes_stamp (fun σ => passAt tk σ) (pa_cons (pv 2) (pa_cons (pv 3) (pa_cons (pv 4) pa_nil)))))))
 (.cons ⟨rfl, by decide, .inl T.g_NotOwner⟩ (fun a oe cls d pn hz hf => pss_one (ps_ret pe_str)) (.cons ⟨rfl, by decide, .inl T.g_InvalidVersion⟩ (fun a oe cls d pn hz hf => pss_one (ps_ret pe_str)) (.cons ⟨rfl, by decide, .inl T.g_HandshakerError⟩ (fun a oe cls d pn hz hf => pss_one (ps_ret pe_str)) .nil)))), ?_⟩
  have nf : (flds n c dv dO).lookup ("free" : Str) = none := fl_no (by decide +kernel) (by decide +kernel) (by decide +kernel) (by decide +kernel)
  have ns : (flds n c dv dO).lookup ("stamp" : Str) = none := fl_no (by decide +kernel) (by decide +kernel) (by decide +kernel) (by decide +kernel)
  have oth : ownOf ko z ≠ .int th → wMany K (fun _ _ _ _ => False) { nx := fun _ H' => Q V.non H', rt := Q } [(.ref A.a_NotOwner, fun _ _ _ => tRet (tC (.str "owner"))), (.ref A.a_InvalidVersion, fun _ _ _ => tRet (tC (.str "version"))), (.ref A.a_HandshakerError, fun _ _ _ => tRet (tC (.str "other")))]
      (.ref A.a_NotOwner) none [some (.ref t), some (.str wd), some (.int z), some (.int th), some (.int v)] H := fun q =>
    ⟨true, T.e_NN, fun _ a ha => k1 q, fun e => nomatch e⟩
  refine if_seq (b := decide (V.str wd = .str "free")) (tt_test (te_eq (te_var rfl) te_c rfl)) (fun h => ?_) fun h => ?_
  · have h1 : wd = "free" := V.str.inj (by simpa using h)
    refine ⟨_, rfl, t, dx, _, rfl, B.ob, nf, _, rfl, _, rfl, ?_⟩
    exact ⟨t, dx, dv, dO, n, c, z, th, kv, ko, rfl, B, l1, ho, fun q => k2 q h1, oth⟩
  · have h1 : wd ≠ "free" := fun e => by rw [e] at h; simp at h
    refine ⟨_, rfl, t, dx, _, rfl, B.ob, ns, _, rfl, _, rfl, _, rfl, ?_⟩
    exact ⟨t, dx, dv, dO, n, c, z, th, v, r, kv, ko, rfl, B, l1, l2, ho, hv, fun q q2 => k4 q h1 q2, fun q q2 => ⟨false, T.e_VN, ⟨(fun e => nomatch e), fun _ => ⟨true, T.e_VV, ⟨fun _ a ha => k3 q h1 q2, fun e => nomatch e⟩⟩⟩⟩, oth⟩
def spDue : Sp := fun us H Q _ => ∃ (m lv lo : Addr) (c th v r : Int) (i : Nat) (o : V) (vs : List Int) (os : List V) (wd : Str), us = [.ref m, .str wd, .int i, .int th, .int v] ∧ ModAt H m lv lo c vs os ∧ vs[i]? = some r ∧ os[i]? = some o ∧ isOwn o = true ∧ (wd = "free" ∨ wd = "stamp") ∧
  (o ≠ .int th → Q (.str "owner") H) ∧ (o = .int th → wd = "free" → Q .non (upd H lo (.lst (os.set i .non)))) ∧ (o = .int th → wd ≠ "free" → v ≤ r → Q (.str "version") H) ∧
  (o = .int th → wd ≠ "free" → r < v → Q .non (upd (upd H lv (.lst ((vs.set i v).map V.int))) lo (.lst (os.set i .non))))
theorem ok_law_due (T : Txt K mg A) : FnOk P w K mg base CX0 1 A.a__law_due A.d__law_due ["model", "word", "stripe", "thread", "version"] spDue := by
  refine T.F__law_due.ok sc_law_due (fun vs H Q E ⟨_, _, _, _, _, _, _, _, _, _, _, _, e, _⟩ => by rw [e]; rfl) (fun cdv A' outer s H us Q E hr h => ?_)
  obtain ⟨m, lv, lo, c, th, v, r, i, o, vs, os, wd, rfl, M, hvi, hoi, ho, hw, k1, k2, k3, k4⟩ := h
  obtain ⟨kvs, hm, m1, m2, m3, m4⟩ := M.md
  have iv : i < vs.length := (List.getElem?_eq_some_iff.mp hvi).1
  have io : i < os.length := (List.getElem?_eq_some_iff.mp hoi).1
  refine ⟨_, pss_cons (ps_if (pt_cmpR op_ne (pe_ix ix_list (pe_dget (hu_of hr) (pv 0) (pe_str) (fun _ _ => rfl)) (pv 2) (fun _ _ => rfl)) (pv 3) (nomark _))
  (pss_one (ps_ret (pe_str)))
  (pss_nil))
  (C8.pss_cut (ps_if (pt_cmpR op_eq (pv 1) (pe_str) (nomark _))
  (pss_cons (ps_if (pt_cmpR op_le (pv 4) (pe_ix ix_list (pe_dget (hu_of hr) (pv 0) (pe_str) (fun _ _ => rfl)) (pv 2) (fun _ _ => rfl)) (nomark _))
  (pss_one (ps_ret (pe_str)))
  (pss_nil))
  (pss_one (ps_asg (pv 4) (pg_sub (pe_dget (hu_of hr) (pv 0) (pe_str) (fun _ _ => rfl)) (pv 2) set_list))))
  (pss_nil))
  (pss_cons (ps_asg (pe_non) (pg_sub (pe_dget (hu_of hr) (pv 0) (pe_str) (fun _ _ => rfl)) (pv 2) set_list))
  (pss_one (ps_ret (pe_non))))), ?_⟩
  refine if_seq (tt_test (te_ne (te_ixL (te_dgetS (te_var rfl) te_c hm m3) (te_var rfl) (SqL.of M.ho) (at1 hoi)) (te_var rfl) (scal_own ho))) (fun h => ?_) fun h => ?_
  · exact ret_te te_c (k1 (by simpa using h))
  · have h1 : o = .int th := by simpa using h
    refine ⟨fun σ H' => σ = [some (.ref m), some (.str wd), some (.int i), some (.int th), some (.int v)] ∧ ((wd = "free" ∧ H' = H) ∨ (wd ≠ "free" ∧ r < v ∧ H' = upd H lv (.lst ((vs.set i v).map V.int)))), ?_, ?_⟩
    · refine if_go (b := decide (V.str wd = .str "stamp")) (tt_test (te_eq (te_var rfl) te_c rfl)) (fun h => ?_) fun h => ?_
      · have h2 : wd = "stamp" := V.str.inj (by simpa using h)
        have h3 : wd ≠ "free" := by rw [h2]; decide +kernel
        refine if_seq (b := decide (v ≤ r)) (tt_test (te_i0 (te_var rfl) (te_ixL (te_dgetS (te_var rfl) te_c hm m2) (te_var rfl) (SqL.of M.hv) (atZ V.int hvi)))) (fun h => ?_) fun h => ?_
        · exact ret_te te_c (k3 h1 h3 (by simpa using h))
        · have h4 : r < v := by
            have q : ¬ v ≤ r := by simpa using h
            omega
          refine (te_var rfl : Te _ _ _ (.int v)) _ ((te_dgetS (te_var rfl) te_c hm m2 : Te _ _ _ _) _ ((te_var rfl : Te _ _ _ (.int i)) _ ⟨lv, _, _, i, rfl, rfl, M.hv, ixN_nat (by rw [List.length_map]; exact iv), ?_⟩))
          refine ⟨rfl, .inr ⟨h3, h4, ?_⟩⟩
          rw [List.map_set]
      · refine ⟨rfl, .inl ⟨?_, rfl⟩⟩
        rcases hw with e | e
        · exact e
        · rw [e] at h
          simp at h
    · rintro σ H' ⟨rfl, hh⟩
      have nm : m ≠ lv := ne_of hm M.hv (by intro z; cases z)
      rcases hh with ⟨h2, rfl⟩ | ⟨h2, h3, rfl⟩
      · refine st_lst (q := 0) te_c (te_dgetS (te_var rfl) te_c hm m3) (te_var rfl) M.ho (ixN_nat io) ?_
        exact ret_te te_c (k2 h1 h2)
      · refine st_lst (q := 0) te_c (te_dgetS (te_var rfl) te_c (by rw [upd_ne nm]; exact hm) m3) (te_var rfl) (by rw [upd_ne M.ne.symm]; exact M.ho) (ixN_nat io) ?_
        exact ret_te te_c (k4 h1 h2 h3)
/-! ### the state after a deed -/
structure All (H : Hp) (C p ls t dx dv dO m lv lo : Addr) (n : Nat) (c : Int) (kv ko : List (Key × V)) (vs : List Int) (os : List V) : Prop where
  st : StateAt H p ls
  tb : TabAt H C t dx dv dO n c kv ko
  mo : ModAt H m lv lo c vs os
  nv : vs.length = n
  no : os.length = n
  rel : ∀ i, i < n → ∃ r o, vs[i]? = some r ∧ os[i]? = some o ∧ verOf kv (i : Int) = .int r ∧ ownOf ko (i : Int) = o ∧ isOwn o = true
  n1 : p ≠ lv
  n2 : p ≠ lo
  n3 : ls ≠ lv
  n4 : ls ≠ lo
  n5 : m ≠ dv
  n6 : m ≠ dO
section
variable {H H' : Hp} {C p ls t dx dv dO m lv lo : Addr} {n : Nat} {c : Int} {kv ko : List (Key × V)} {vs : List Int} {os : List V}
theorem TabAt.to {n : Int} (B : TabAt H C t dx dv dO n c kv ko) (h1 : H' t = H t) (h2 : H' dv = H dv) (h3 : H' dO = H dO) : TabAt H' C t dx dv dO n c kv ko := ⟨h1.trans B.ob, h2.trans B.ver, h3.trans B.own, B.ne⟩
theorem ModAt.to (M : ModAt H m lv lo c vs os) (h1 : H' m = H m) (h2 : H' lv = H lv) (h3 : H' lo = H lo) : ModAt H' m lv lo c vs os := ⟨by
  obtain ⟨kvs, h, r⟩ := M.md
  exact ⟨kvs, h1.trans h, r⟩, h2.trans M.hv, h3.trans M.ho, M.ne⟩
theorem All.pt (Z : All H C p ls t dx dv dO m lv lo n c kv ko vs os) : p ≠ t ∧ p ≠ dv ∧ p ≠ dO ∧ p ≠ m := by
  obtain ⟨i, x, s, q, h, _⟩ := Z.st.ex
  obtain ⟨kvs, hm, _⟩ := Z.mo.md
  exact ⟨ne_of h Z.tb.ob (by intro z; cases z), ne_of h Z.tb.ver (by intro z; cases z), ne_of h Z.tb.own (by intro z; cases z), ne_of h hm (by intro z; cases z)⟩
theorem All.drawn (Z : All H C p ls t dx dv dO m lv lo n c kv ko vs os) (g : Chg [p] H H') (S : StateAt H' p ls) : All H' C p ls t dx dv dO m lv lo n c kv ko vs os := by
  obtain ⟨a1, a2, a3, a4⟩ := Z.pt
  exact ⟨S, Z.tb.to (g _ (by simp [a1.symm])) (g _ (by simp [a2.symm])) (g _ (by simp [a3.symm])), Z.mo.to (g _ (by simp [a4.symm])) (g _ (by simp [Z.n1.symm])) (g _ (by simp [Z.n2.symm])), Z.nv, Z.no, Z.rel, Z.n1, Z.n2, Z.n3, Z.n4, Z.n5, Z.n6⟩
theorem StateAt.mono (S : StateAt H p ls) (g : ∀ b o, H b = some o → H' b = some o) : StateAt H' p ls := by
  obtain ⟨⟨i, x, s, q, h, h0⟩, ns, k⟩ := S
  exact ⟨⟨i, x, s, q, g _ _ h, h0⟩, ns, g _ _ k⟩
theorem All.mono (Z : All H C p ls t dx dv dO m lv lo n c kv ko vs os) (g : ∀ b o, H b = some o → H' b = some o) : All H' C p ls t dx dv dO m lv lo n c kv ko vs os := by
  obtain ⟨kvs, hm, hm2⟩ := Z.mo.md
  exact ⟨Z.st.mono g, ⟨g _ _ Z.tb.ob, g _ _ Z.tb.ver, g _ _ Z.tb.own, Z.tb.ne⟩, ⟨⟨kvs, g _ _ hm, hm2⟩, g _ _ Z.mo.hv, g _ _ Z.mo.ho, Z.mo.ne⟩, Z.nv, Z.no, Z.rel, Z.n1, Z.n2, Z.n3, Z.n4, Z.n5, Z.n6⟩
end
def spIsState (A : Adr) : Sp := fun us H Q _ => ∃ (p ls t dx dv dO m lv lo : Addr) (n : Nat) (c : Int) (kv ko : List (Key × V)) (vs : List Int) (os : List V), us = [.ref p, .ref t, .ref m] ∧ All H A.a_Stripes p ls t dx dv dO m lv lo n c kv ko vs os ∧ n ≤ 100 ∧
  ∀ H', Chg [p] H H' → StateAt H' p ls → Q (.bl true) H'
theorem scal_ownV {x y : V} (h : isOwn x = true) (h2 : isOwn y = true) : scal x y = true := by
  cases x <;> first | (simp [isOwn] at h; done) | (cases y <;> first | rfl | (simp [isOwn] at h2; done))
theorem ok_law_is_state (T : Txt K mg A) : FnOk P w K mg base CX0 3 A.a__law_is_state A.d__law_is_state ["state", "table", "model"] (spIsState A) := by
  refine T.F__law_is_state.ok sc_law_is_state (fun vs H Q E ⟨_, _, _, _, _, _, _, _, _, _, _, _, _, _, _, e, _⟩ => by rw [e]; rfl) (fun cdv A' outer s H us Q E hr h => ?_)
  obtain ⟨p, ls, t, dx, dv, dO, m, lv, lo, n, c, kv, ko, vs, os, rfl, Z, n100, k⟩ := h
  have hr2 : Room 2 _ := hr.mono (by decide)
  refine ⟨_, pss_cons (ps_if (PW.pt (pw_or (pt_cmpR op_ne (pe_fld (pv 1) rfl) (pe_dget (hu_of hr) (pv 2) (pe_str) (fun _ _ => rfl)) (nomark _)) (pw_or1 (pt_cmpR op_ne (pe_fld (pv 1) rfl) (pe_callB call_len_seq (by rfl) T.n_len (by decide +kernel) (pa_cons (pe_dget (hu_of hr) (pv 2) (pe_str) (fun _ _ => rfl)) pa_nil)) (nomark _)))))
  (pss_one (ps_ret (pe_bl)))
  (pss_nil))
  (pss_cons (ps_for PassesOwn.never rfl (pi_range1 (by rfl) T.n_range (pa_cons (pe_fld (pv 1) rfl) pa_nil)) (pg_name (i := 3) sc_law_is_state.nd rfl (Or.inl rfl))
  (pss_cons (ps_set (i := 4) sc_law_is_state.nd rfl (Or.inl rfl) (pe_ix ix_list (pe_dget (hu_of hr) (pv 2) (pe_str) (fun _ _ => rfl)) (pv 3) (fun _ _ => rfl)))
  (pss_cons (ps_if (PW.pt (pw_or (pt_cmpR op_ne (pe_meth (pv 1) T.cl_Stripes T.m_Stripes_version (ok_Stripes_version T) (hr.mono (by decide)) T.b_Stripes_version .nil pass0 (pa_cons (pv 3) pa_nil)) (pe_ix ix_list (pe_dget (hu_of hr) (pv 2) (pe_str) (fun _ _ => rfl)) (pv 3) (fun _ _ => rfl)) (nomark _)) (pw_or1 (pt_cmpR op_ne (pe_meth (pv 1) T.cl_Stripes T.m_Stripes_owner (ok_Stripes_owner T) (hr.mono (by decide)) T.b_Stripes_owner .nil pass0 (pa_cons (pv 3) pa_nil)) (pv 4) (nomark _)))))
  (pss_one (ps_ret (pe_bl)))
  (pss_nil))
  (pss_one (ps_for PassesOwn.never rfl (pi_range1 (by rfl) T.n_range (pa_cons (pe_int) pa_nil)) (pg_name (i := 5) sc_law_is_state.nd rfl (Or.inl rfl))
  (pss_cons (ps_set (i := 6) sc_law_is_state.nd rfl (Or.inl rfl) (pe_call (ok_law_draw T) (hr.mono (by decide)) rfl T.g__law_draw T.F__law_draw.kp T.b__law_draw .nil pass0 (pa_cons (pv 0) (pa_cons (pe_int) pa_nil))))
  (pss_cons (ps_set (i := 7) sc_law_is_state.nd rfl (Or.inl rfl) (pe_and (pe_or (pe_cmpR op_isN (pv 4) (pe_non) (nomark _)) (pe_one (pe_cmpR op_eq (pv 4) (pv 5) (nomark _)))) (pe_one (pe_cmpR op_le (pe_ix ix_list (pe_dget (hu_of hr) (pv 2) (pe_str) (fun _ _ => rfl)) (pv 3) (fun _ _ => rfl)) (pv 6) (nomark _)))))
  (pss_cons (ps_set (i := 8) sc_law_is_state.nd rfl (Or.inl rfl) (pe_meth (pv 1) T.cl_Stripes T.m_Stripes_is_open (ok_Stripes_is_open T) (hr.mono (by decide)) T.b_Stripes_is_open .nil pass0 (pa_cons (pv 3) (pa_cons (pv 5) (pa_cons (pv 6) pa_nil)))))
  (pss_one (ps_if (PW.pt (pw_or (pt_not (pt_val (pe_callB call_isi (by rfl) T.n_isinstance (by decide +kernel) (pa_cons (pv 8) (pa_cons (pe_bltn (v := .ty "bool") (by rfl) T.n_bool (by decide +kernel) rfl) pa_nil))))) (pw_or1 (pt_cmpR op_ne (pv 8) (pv 7) (nomark _)))))
  (pss_one (ps_ret (pe_bl)))
  (pss_nil)))))))))))
  (pss_one (ps_ret (pe_bl)))), ?_⟩
  obtain ⟨kvs, hm, m1, m2, m3, m4⟩ := Z.mo.md
  refine if_seq (b := (!decide (V.int c = .int c)) || (!decide (V.int n = .int (os.length : Int)))) (tt_or (tt_test (te_ne (te_fld (te_var rfl) Z.tb.ob T.cl_Stripes T.no_Stripes_clock fl_clock) (te_dgetS (te_var rfl) te_c hm m1) rfl)) fun _ => tt_test (te_ne (te_fld (te_var rfl) Z.tb.ob T.cl_Stripes T.no_Stripes_count fl_count) (te_len (te_dgetS (te_var rfl) te_c hm m3) (.inl (SqL.of Z.mo.ho))) rfl)) (fun h => ?_) fun _ => ?_
  · rw [Z.no] at h
    simp at h
  · refine (te_fld (te_var rfl) Z.tb.ob T.cl_Stripes T.no_Stripes_count fl_count : Te _ _ _ (.int n)) _ ⟨(n : Int), rfl, by omega, by omega, for_range (n := n) (fun i σ H1 => ∃ v3 v4 v5 v6 v7 v8 : Option V, σ = [some (.ref p), some (.ref t), some (.ref m), v3, v4, v5, v6, v7, v8] ∧ Chg [p] H H1 ∧ StateAt H1 p ls)
      ⟨_, _, _, _, _, _, rfl, Chg.refl, Z.st⟩ ?_ ?_⟩
    · rintro i σ H1 hi ⟨v3, v4, v5, v6, v7, v8, rfl, g, S⟩
      have Z1 := Z.drawn g S
      obtain ⟨r, o, e1, e2, e3, e4, e5⟩ := Z1.rel i hi
      obtain ⟨kvs1, hm1, m11, m12, m13, m14⟩ := Z1.mo.md
      dsimp only [gName]
      refine set_sl (σ' := [some (.ref p), some (.ref t), some (.ref m), some (.int i), v4, v5, v6, v7, v8]) (by rw [Int.zero_add]; rfl) ?_
      refine asg_te (v := o) (te_ixL (te_dgetS (te_var rfl) te_c hm1 m13) (te_var rfl) (SqL.of Z1.mo.ho) (at1 e2)) ?_
      refine set_sl (σ' := [some (.ref p), some (.ref t), some (.ref m), some (.int i), some o, v5, v6, v7, v8]) rfl ?_
      have tv : ∀ {σ : L2.St} {te : TE} {ta : TA} {E : XK} {H2 : Hp}, All H2 A.a_Stripes p ls t dx dv dO m lv lo n c kv ko vs os → Te te σ H2 (.ref t) → Ta ta σ H2 [.int i] → Te (tMeth A.a_Stripes "version" (spVer A) [] E te ta) σ H2 (.int r) := fun Z2 h1 h2 => by
        rw [← e3]
        exact te_ver Z2.tb h1 h2
      have to : Te (tMeth A.a_Stripes "owner" (spOwn A) [] E0 (tVar 1) (tCons (tVar 3) tNil)) [some (.ref p), some (.ref t), some (.ref m), some (.int i), some o, v5, v6, v7, v8] H1 o := by
        rw [← e4]
        exact te_own Z1.tb (te_var rfl) (ta_cons (te_var rfl) ta_nil)
      refine if_seq (b := (!decide (V.int r = .int r)) || (!decide (o = o))) (tt_or (tt_test (te_ne (tv Z1 (te_var rfl) (ta_cons (te_var rfl) ta_nil)) (te_ixL (te_dgetS (te_var rfl) te_c hm1 m12) (te_var rfl) (SqL.of Z1.mo.hv) (atZ V.int e1)) rfl)) fun _ => tt_test (te_ne to (te_var rfl) (scal_ownV e5 e5))) (fun h => ?_) fun _ => ?_
      · simp at h
      · refine ⟨3, rfl, by decide, by decide, for_range (n := 3) (fun j σ H2 => ∃ v5 v6 v7 v8 : Option V, σ = [some (.ref p), some (.ref t), some (.ref m), some (.int i), some o, v5, v6, v7, v8] ∧ Chg [p] H H2 ∧ StateAt H2 p ls) ⟨_, _, _, _, rfl, g, S⟩ ?_ ?_⟩
        · rintro j σ H2 hj ⟨v5, v6, v7, v8, rfl, g2, S2⟩
          dsimp only [gName]
          refine set_sl (σ' := [some (.ref p), some (.ref t), some (.ref m), some (.int i), some o, some (.int j), v6, v7, v8]) (by rw [Int.zero_add]; rfl) ?_
          refine asg_call (ta_cons (te_var rfl) (ta_cons te_c ta_nil)) ⟨p, ls, 8, rfl, S2, by decide, by decide, fun q H3 q0 q1 g3 S3 => ?_⟩
          refine set_sl (σ' := [some (.ref p), some (.ref t), some (.ref m), some (.int i), some o, some (.int j), some (.int q), v7, v8]) rfl ?_
          have g4 : Chg [p] H H3 := fun b nb => (g3 b nb).trans (g2 b nb)
          have Z3 := Z.drawn g4 S3
          obtain ⟨kvs3, hm3, m31, m32, m33, m34⟩ := Z3.mo.md
          refine asg_te (te_andV (te_orV (te_isN (te_var rfl)) fun _ => te_eq (te_var rfl) (te_var rfl) (scal_own e5)) fun _ => te_i0 (te_ixL (te_dgetS (te_var rfl) te_c hm3 m32) (te_var rfl) (SqL.of Z3.mo.hv) (atZ V.int e1)) (te_var rfl)) ?_
          refine set_sl (σ' := [some (.ref p), some (.ref t), some (.ref m), some (.int i), some o, some (.int j), some (.int q), some (.bl ((decide (o = .non) || decide (o = .int j)) && decide (r ≤ q))), v8]) rfl ?_
          generalize hb : ((decide (o = .non) || decide (o = .int j)) && decide (r ≤ q)) = b
          have top : Te (tMeth A.a_Stripes "is_open" (spOpen A) [] E0 (tVar 1) (tCons (tVar 3) (tCons (tVar 5) (tCons (tVar 6) tNil)))) [some (.ref p), some (.ref t), some (.ref m), some (.int i), some o, some (.int j), some (.int q), some (.bl b), v8] H3 (.bl b) :=
            te_meth (te_var rfl) Z3.tb.ob (fl_no (by decide +kernel) (by decide +kernel) (by decide +kernel) (by decide +kernel)) (ta_cons (te_var rfl) (ta_cons (te_var rfl) (ta_cons (te_var rfl) ta_nil))) fun Q q2 => ⟨t, dx, dv, dO, n, c, i, j, q, r, kv, ko, rfl, Z3.tb, by rw [e4]; exact e5, e3, by rw [e4, hb]; exact q2⟩
          refine asg_te top ?_
          refine set_sl (σ' := [some (.ref p), some (.ref t), some (.ref m), some (.int i), some o, some (.int j), some (.int q), some (.bl b), some (.bl b)]) rfl ?_
          refine if_go (b := (!true) || (!decide (V.bl b = .bl b))) (tt_or (tt_not (tt_test (te_isi (.base (.bl _)) (kit_ty (by decide +kernel)) (te_var rfl)))) fun _ => tt_test (te_ne (te_var rfl) (te_var rfl) rfl)) (fun h => ?_) fun _ => ?_
          · simp at h
          · exact ⟨_, _, _, _, rfl, g4, S3⟩
        · rintro σ H2 ⟨v5, v6, v7, v8, rfl, g2, S2⟩
          exact ⟨_, _, _, _, _, _, rfl, g2, S2⟩
    · rintro σ H1 ⟨v3, v4, v5, v6, v7, v8, rfl, g, S⟩
      dsimp only
      refine ret_te te_c ?_
      exact k H1 g S
def spRefused : Sp := fun us H Q _ => ∃ n : Int, us = [.int n] ∧ n < 1 ∧ ∀ H' : Hp, (∀ b o, H b = some o → H' b = some o) → Q (.bl true) H'
theorem ok_law_refused (T : Txt K mg A) : FnOk P w K mg base CX0 3 A.a__law_refused A.d__law_refused ["count"] spRefused := by
  refine T.F__law_refused.ok sc_law_refused (fun vs H Q E ⟨_, e, _⟩ => by rw [e]; rfl) (fun cdv A' outer s H us Q E hr h => ?_)
  obtain ⟨n, rfl, hn, k⟩ := h
  refine ⟨_, pss_cons (ps_try_many rfl rfl takes0 (tb := fun W => tDrop (tMakeE A.a_Stripes (spInit A) (WE W) (tCons (tVar 0) tNil))) (Wout := fun _ _ _ _ => False)
 (fun W pn xe tk _ => pss_one (ps_expr (pe_makeE T.mk_Stripes (ok_Stripes___init__ T) (hr.mono (by decide)) rfl T.g_Stripes T.b_Stripes___init__ (fun σ => passAt tk σ) (pa_cons (pv 0) pa_nil))))
 (.cons ⟨rfl, by decide, .inl T.g_InvalidCount⟩ (fun a oe cls d pn hz hf => pss_one (ps_ret pe_bl)) (.cons ⟨rfl, by decide, .inl T.g_HandshakerError⟩ (fun a oe cls d pn hz hf => pss_one (ps_ret pe_bl)) .nil)))
  (pss_one (ps_ret (pe_bl))), ?_⟩
  refine ⟨_, rfl, fun x dx hx hdx ne => ?_⟩
  refine ⟨x, dx, n, rfl, upd_same, .inr ⟨hn, true, T.e_CC, ⟨fun _ a ha => k _ fun b o e => ?_, fun e => nomatch e⟩⟩⟩
  rw [upd_ne (ne_of_none e hx), upd_ne (ne_of_none e hdx)]
  exact e
end
end K23

namespace K23
open PySem L2 YF
def spLaw (K : PySem.W.Frag) : Sp := fun vs H Q _ => ∃ (a : Addr) (ns : List Int), vs = [.ref a] ∧ SqL K H a (ns.map V.int) ∧ ns.length ≤ 63 ∧ ∀ H', Q (.bl true) H'
section
variable {P : Program} {w : World} {K : PySem.W.Frag} {mg : Str → Option Value} {base : Heap} {A : Adr}
theorem asg_opcall {f : Int → Int → V} {i0 : Int} {σ : L2.St} {H : Hp} {ta : TA} {vs : List V} {sp : Sp} {E : XK} {D : Ends} {rest : TS} {i : Nat} (ha : Ta ta σ H vs)
    (h : sp vs H (fun v H' => ∃ z, v = .int z ∧ rest D (σ.set i (some (f i0 z))) H') E) : tSeq (tAsg (tOp (rI0 f) (tC (.int i0)) (tCall sp [] E ta)) (gName i)) rest D σ H := by
  refine ha _ ?_
  show sp (vs ++ []) H _ E
  rw [List.append_nil]
  have e : (fun v H' => ∃ z, v = V.int z ∧ rest D (σ.set i (some (f i0 z))) H') = (fun (y : V) (H2 : Hp) => rI0 f (.int i0) y H2 fun x H1 => gName i x σ H1 { D with nx := rest D }.nx) := by
    funext v H'
    apply propext
    constructor
    · rintro ⟨z, rfl, q⟩
      exact ⟨i0, z, rfl, rfl, q⟩
    · rintro ⟨a, b, ea, rfl, q⟩
      cases ea
      exact ⟨b, rfl, q⟩
  rw [e] at h
  exact h
theorem if_notcall {σ : L2.St} {H : Hp} {ta : TA} {vs : List V} {sp : Sp} {E : XK} {D : Ends} {tu tw : TS} (ha : Ta ta σ H vs) (h : sp vs H (fun v H' => ∃ b, v = .bl b ∧ (b = true → tw D σ H') ∧ (b = false → tu D σ H')) E) :
    tIfS (tNot (tTest (tCall sp [] E ta))) tu tw D σ H := by
  refine ha _ ?_
  show sp (vs ++ []) H _ E
  rw [List.append_nil]
  have e : (fun v H' => ∃ b, v = .bl b ∧ (b = true → tw D σ H') ∧ (b = false → tu D σ H')) = (fun (x : V) (H2 : Hp) => ∃ k, x = .bl k ∧ if (!k) = true then tu D σ H2 else tw D σ H2) := by
    funext v H'
    apply propext
    constructor
    · rintro ⟨b, rfl, q1, q2⟩
      refine ⟨b, rfl, ?_⟩
      cases b with
      | true => exact q1 rfl
      | false => exact q2 rfl
    · rintro ⟨b, rfl, q⟩
      refine ⟨b, rfl, fun z => ?_, fun z => ?_⟩
      · subst z; exact q
      · subst z; exact q
  rw [e] at h
  exact h
theorem rep_one (n : Nat) (v : V) : (List.replicate n [v]).flatten = List.replicate n v := by
  induction n with
  | zero => rfl
  | succ n ih => rw [List.replicate_succ, List.flatten_cons, ih, List.replicate_succ]; rfl
def mk0 (lv lo : Addr) : List (Key × V) := putK (putK (putK [] (.inr "clock" : Key) (.int 0)) (.inr "versions") (.ref lv)) (.inr "owners") (.ref lo)
theorem merge_mkv {lv lo : Addr} : mergeK [] (mkv 0 lv lo) = mk0 lv lo := rfl
local macro_rules | `(tactic| walk_at "up") => `(tactic| repeat (first | rw [upd_same] | rw [upd_ne (by assumption)] | rw [upd_ne (Ne.symm (by assumption))]))
section
variable {H H' : Hp} {C p ls t dx dv dO m lv lo : Addr} {n : Nat} {c : Int} {kv ko : List (Key × V)} {vs : List Int} {os : List V}
structure Nes (p ls t dv dO m lv lo : Addr) : Prop where
  a1 : p ≠ t
  a2 : p ≠ m
  a3 : p ≠ dv
  a4 : p ≠ dO
  a5 : p ≠ lv
  a6 : p ≠ lo
  b1 : ls ≠ t
  b2 : ls ≠ m
  b3 : ls ≠ dv
  b4 : ls ≠ dO
  b5 : ls ≠ lv
  b6 : ls ≠ lo
  c1 : lv ≠ t
  c2 : lv ≠ m
  c3 : lv ≠ dv
  c4 : lv ≠ dO
  c5 : lv ≠ lo
  d1 : lo ≠ t
  d2 : lo ≠ m
  d3 : lo ≠ dv
  d4 : lo ≠ dO
  e1 : t ≠ m
  e2 : t ≠ dv
  e3 : t ≠ dO
  e4 : m ≠ dv
  e5 : m ≠ dO
  e6 : dv ≠ dO
theorem upd_comm {H : Hp} {p q : Addr} {o o' : HO} (h : p ≠ q) : upd (upd H p o) q o' = upd (upd H q o') p o := by
  funext b
  by_cases e : b = p
  · subst e
    rw [upd_same, upd_ne h, upd_same]
  · by_cases e2 : b = q
    · subst e2
      rw [upd_same, upd_ne e, upd_same]
    · rw [upd_ne e2, upd_ne e, upd_ne e, upd_ne e2]
theorem All.nes (Z : All H C p ls t dx dv dO m lv lo n c kv ko vs os) : Nes p ls t dv dO m lv lo := by
  obtain ⟨i, x, s, q, h1, _⟩ := Z.st.ex
  obtain ⟨ns, h2⟩ := Z.st.ls
  obtain ⟨kvs, h3, _⟩ := Z.mo.md
  have h4 := Z.mo.hv
  have h5 := Z.mo.ho
  have h6 := Z.tb.ob
  have h7 := Z.tb.ver
  have h8 := Z.tb.own
  have k : ∀ {a b : Addr} {o o' : HO}, H a = some o → H b = some o' → o ≠ o' → a ≠ b := fun e1 e2 ne => ne_of e1 e2 ne
  exact ⟨k h1 h6 (by intro z; cases z), k h1 h3 (by intro z; cases z), k h1 h7 (by intro z; cases z), k h1 h8 (by intro z; cases z), Z.n1, Z.n2, k h2 h6 (by intro z; cases z), k h2 h3 (by intro z; cases z), k h2 h7 (by intro z; cases z), k h2 h8 (by intro z; cases z), Z.n3, Z.n4,
    k h4 h6 (by intro z; cases z), k h4 h3 (by intro z; cases z), k h4 h7 (by intro z; cases z), k h4 h8 (by intro z; cases z), Z.mo.ne, k h5 h6 (by intro z; cases z), k h5 h3 (by intro z; cases z), k h5 h7 (by intro z; cases z), k h5 h8 (by intro z; cases z),
    k h6 h3 (by intro z; cases z), k h6 h7 (by intro z; cases z), k h6 h8 (by intro z; cases z), Z.n5, Z.n6, Z.tb.ne⟩
theorem own_put {k j : Int} {x : V} : ownOf (putK ko (.inl k : Key) x) j = if j = k then x else ownOf ko j := by
  unfold ownOf
  rw [valV_put]
  by_cases e : j = k
  · rw [if_pos e, if_pos (by rw [e])]
    rfl
  · rw [if_neg e, if_neg (fun z => e (Sum.inl.inj z))]
theorem ver_put {k j : Int} {x : V} : verOf (putK kv (.inl k : Key) x) j = if j = k then x else verOf kv j := by
  unfold verOf
  rw [valV_put]
  by_cases e : j = k
  · rw [if_pos e, if_pos (by rw [e])]
    rfl
  · rw [if_neg e, if_neg (fun z => e (Sum.inl.inj z))]
theorem StateAt.to (S : StateAt H p ls) (h1 : H' p = H p) (h2 : H' ls = H ls) : StateAt H' p ls := by
  obtain ⟨⟨i, x, s, q, h, h0⟩, ns, k⟩ := S
  exact ⟨⟨i, x, s, q, h1.trans h, h0⟩, ns, h2.trans k⟩
theorem All.tick {kvs : List (Key × V)} (Z : All H C p ls t dx dv dO m lv lo n c kv ko vs os) (hm : H m = some (.dK kvs)) (m1 : valV kvs (.inr "clock" : Key) = some (.int c)) (m2 : valV kvs (.inr "versions" : Key) = some (.ref lv)) (m3 : valV kvs (.inr "owners" : Key) = some (.ref lo)) (m4 : kvs.length ≤ 3) :
    All (upd (upd H m (.dK (putK kvs (.inr "clock" : Key) (.int (c + 1))))) t (.ins C dx (flds n (c + 1) dv dO))) C p ls t dx dv dO m lv lo n (c + 1) kv ko vs os := by
  obtain ⟨a1, a2, a3, a4, a5, a6, b1, b2, b3, b4, b5, b6, c1, c2, c3, c4, c5, d1, d2, d3, d4, e1, e2, e3, e4, e5, e6⟩ := Z.nes
  refine ⟨Z.st.to (by walk_at "up") (by walk_at "up"), ⟨by walk_at "up", ?_, ?_, e6⟩, ⟨⟨putK kvs (.inr "clock" : Key) (.int (c + 1)), by walk_at "up", ?_, ?_, ?_, ?_⟩, ?_, ?_, c5⟩, Z.nv, Z.no, Z.rel, a5, a6, b5, b6, e4, e5⟩
  · walk_at "up"
    exact Z.tb.ver
  · walk_at "up"
    exact Z.tb.own
  · exact (valV_put _ _ _ _).trans (if_pos rfl)
  · exact (valV_put _ _ _ _).trans ((if_neg (by decide +kernel)).trans m2)
  · exact (valV_put _ _ _ _).trans ((if_neg (by decide +kernel)).trans m3)
  · rw [put_len m1]
    exact m4
  · walk_at "up"
    exact Z.mo.hv
  · walk_at "up"
    exact Z.mo.ho
theorem All.own {i : Nat} {x : V} (Z : All H C p ls t dx dv dO m lv lo n c kv ko vs os) (hi : i < n) (hx : isOwn x = true) :
    All (upd (upd H dO (.dK (putK ko (.inl (i : Int) : Key) x))) lo (.lst (os.set i x))) C p ls t dx dv dO m lv lo n c kv (putK ko (.inl (i : Int) : Key) x) vs (os.set i x) := by
  obtain ⟨a1, a2, a3, a4, a5, a6, b1, b2, b3, b4, b5, b6, c1, c2, c3, c4, c5, d1, d2, d3, d4, e1, e2, e3, e4, e5, e6⟩ := Z.nes
  obtain ⟨kvs, hm, m1, m2, m3, m4⟩ := Z.mo.md
  refine ⟨Z.st.to (by walk_at "up") (by walk_at "up"), ⟨?_, ?_, by walk_at "up", e6⟩, ⟨⟨kvs, ?_, m1, m2, m3, m4⟩, ?_, by walk_at "up", c5⟩, Z.nv, by rw [List.length_set]; exact Z.no, fun j hj => ?_, a5, a6, b5, b6, e4, e5⟩
  · walk_at "up"
    exact Z.tb.ob
  · walk_at "up"
    exact Z.tb.ver
  · walk_at "up"
    exact hm
  · walk_at "up"
    exact Z.mo.hv
  · obtain ⟨r, o, h1, h2, h3, h4, h5⟩ := Z.rel j hj
    by_cases e : j = i
    · subst e
      refine ⟨r, x, h1, ?_, h3, by rw [own_put, if_pos rfl], hx⟩
      rw [List.getElem?_set_self (by rw [Z.no]; exact hj)]
    · refine ⟨r, o, h1, ?_, h3, by rw [own_put, if_neg (by omega)]; exact h4, h5⟩
      rw [List.getElem?_set_ne (fun z => e z.symm)]
      exact h2
theorem All.ver {i : Nat} {v : Int} (Z : All H C p ls t dx dv dO m lv lo n c kv ko vs os) (hi : i < n) :
    All (upd (upd H dv (.dK (putK kv (.inl (i : Int) : Key) (.int v)))) lv (.lst ((vs.set i v).map V.int))) C p ls t dx dv dO m lv lo n c (putK kv (.inl (i : Int) : Key) (.int v)) ko (vs.set i v) os := by
  obtain ⟨a1, a2, a3, a4, a5, a6, b1, b2, b3, b4, b5, b6, c1, c2, c3, c4, c5, d1, d2, d3, d4, e1, e2, e3, e4, e5, e6⟩ := Z.nes
  obtain ⟨kvs, hm, m1, m2, m3, m4⟩ := Z.mo.md
  refine ⟨Z.st.to (by walk_at "up") (by walk_at "up"), ⟨?_, by walk_at "up", ?_, e6⟩, ⟨⟨kvs, ?_, m1, m2, m3, m4⟩, by walk_at "up", ?_, c5⟩, by rw [List.length_set]; exact Z.nv, Z.no, fun j hj => ?_, a5, a6, b5, b6, e4, e5⟩
  · walk_at "up"
    exact Z.tb.ob
  · walk_at "up"
    exact Z.tb.own
  · walk_at "up"
    exact hm
  · walk_at "up"
    exact Z.mo.ho
  · obtain ⟨r, o, h1, h2, h3, h4, h5⟩ := Z.rel j hj
    by_cases e : j = i
    · subst e
      refine ⟨v, o, ?_, h2, by rw [ver_put, if_pos rfl], h4, h5⟩
      rw [List.getElem?_set_self (by rw [Z.nv]; exact hj)]
    · refine ⟨r, o, ?_, h2, by rw [ver_put, if_neg (by omega)]; exact h3, h4, h5⟩
      rw [List.getElem?_set_ne (fun z => e z.symm)]
      exact h1
end
/-- the turns' way through the choice of a deed: what stands behind it -/
theorem ok_law (T : Txt K mg A) : FnOk P w K mg base CX0 5 A.a_law A.d_law ["script"] (spLaw K) := by
  refine T.F_law.ok sc_law (fun vs H Q E ⟨_, _, e, _⟩ => by rw [e]; rfl) (fun cdv A' outer s H vs Q E hr h => ?_)
  obtain ⟨a, ns, rfl, hS, hlen, k⟩ := h
  refine ⟨_, pss_cons (ps_set (i := 1) sc_law.nd rfl (Or.inl rfl) (pe_call (ok_law_state T) (hr.mono (by decide)) rfl T.g__law_state T.F__law_state.kp T.b__law_state .nil pass0 (pa_cons (pv 0) pa_nil)))
  (pss_cons (ps_set (i := 2) sc_law.nd rfl (Or.inl rfl) (pe_op op_add (pe_int) (pe_call (ok_law_draw T) (hr.mono (by decide)) rfl T.g__law_draw T.F__law_draw.kp T.b__law_draw .nil pass0 (pa_cons (pv 1) (pa_cons (pe_int) pa_nil)))))
  (pss_cons (ps_set (i := 3) sc_law.nd rfl (Or.inl rfl) (pe_make T.mk_Stripes (ok_Stripes___init__ T) (hr.mono (by decide)) rfl T.g_Stripes T.b_Stripes___init__ .nil passL (pa_cons (pv 2) pa_nil)))
  (pss_cons (ps_set (i := 4) sc_law.nd rfl (Or.inl rfl) (pe_disp (pps_cons (pe_str) (pe_int) (pps_cons (pe_str) (pe_op op_rep (pe_lst (pa_cons (pe_int) pa_nil)) (pv 2)) (pps_cons (pe_str) (pe_op op_rep (pe_lst (pa_cons (pe_non) pa_nil)) (pv 2)) (pps_nil)))) (by rfl) (by rfl) (fun z => by cases z) (by decide)))
  (pss_cons (ps_for PassesOwn.never rfl (pi_range1 (by rfl) T.n_range (pa_cons (pe_call (ok_law_draw T) (hr.mono (by decide)) rfl T.g__law_draw T.F__law_draw.kp T.b__law_draw .nil pass0 (pa_cons (pv 1) (pa_cons (pe_int) pa_nil))) pa_nil)) (pg_name (i := 5) sc_law.nd rfl (Or.inl rfl))
  (pss_cons (ps_set (i := 6) sc_law.nd rfl (Or.inl rfl) (pe_call (ok_law_draw T) (hr.mono (by decide)) rfl T.g__law_draw T.F__law_draw.kp T.b__law_draw .nil pass0 (pa_cons (pv 1) (pa_cons (pe_int) pa_nil))))
  (pss_cons (ps_set (i := 7) sc_law.nd rfl (Or.inl rfl) (pe_call (ok_law_draw T) (hr.mono (by decide)) rfl T.g__law_draw T.F__law_draw.kp T.b__law_draw .nil pass0 (pa_cons (pv 1) (pa_cons (pv 2) pa_nil))))
  (pss_cons (ps_set (i := 8) sc_law.nd rfl (Or.inl rfl) (pe_call (ok_law_draw T) (hr.mono (by decide)) rfl T.g__law_draw T.F__law_draw.kp T.b__law_draw .nil pass0 (pa_cons (pv 1) (pa_cons (pe_int) pa_nil))))
  (pss_cons (ps_set (i := 9) sc_law.nd rfl (Or.inl rfl) (pe_call (ok_law_draw T) (hr.mono (by decide)) rfl T.g__law_draw T.F__law_draw.kp T.b__law_draw .nil pass0 (pa_cons (pv 1) (pa_cons (pe_int) pa_nil))))
  (C8.pss_cut (ps_if (pt_cmpR op_eq (pv 6) (pe_int) (nomark _))
  (pss_cons (ps_dput (hu_of hr) (pv 4) (pe_str) (pe_op op_add (pe_dget (hu_of hr) (pv 4) (pe_str) (fun _ _ => rfl)) (pe_int)) rfl)
  (pss_one (ps_if (pt_cmpR op_ne (pe_meth0 (pv 3) T.cl_Stripes T.m_Stripes_tick (ok_Stripes_tick T) (hr.mono (by decide)) T.b_Stripes_tick .nil pass0) (pe_dget (hu_of hr) (pv 4) (pe_str) (fun _ _ => rfl)) (nomark _))
  (pss_one (ps_ret (pe_bl)))
  (pss_nil))))
  (pss_one (ps_if (pt_cmpR op_lt (pv 6) (pe_int) (nomark _))
  (pss_cons (ps_set (i := 10) sc_law.nd rfl (Or.inl rfl) (pe_meth (pv 3) T.cl_Stripes T.m_Stripes_lock (ok_Stripes_lock T) (hr.mono (by decide)) T.b_Stripes_lock .nil pass0 (pa_cons (pv 7) (pa_cons (pv 8) pa_nil))))
  (pss_cons (ps_if (PW.pt (pw_or (pt_not (pt_val (pe_callB call_isi (by rfl) T.n_isinstance (by decide +kernel) (pa_cons (pv 10) (pa_cons (pe_bltn (v := .ty "bool") (by rfl) T.n_bool (by decide +kernel) rfl) pa_nil))))) (pw_or1 (pt_cmpR op_ne (pv 10) (pe_cmpR op_isN (pe_ix ix_list (pe_dget (hu_of hr) (pv 4) (pe_str) (fun _ _ => rfl)) (pv 7) (fun _ _ => rfl)) (pe_non) (nomark _)) (nomark _)))))
  (pss_one (ps_ret (pe_bl)))
  (pss_nil))
  (pss_one (ps_if (pt_val (pv 10))
  (pss_one (ps_asg (pv 8) (pg_sub (pe_dget (hu_of hr) (pv 4) (pe_str) (fun _ _ => rfl)) (pv 7) set_list)))
  (pss_nil)))))
  (pss_cons (ps_set (i := 11) sc_law.nd rfl (Or.inl rfl) (pe_ix ix_list (pe_lst (pa_cons (pe_str) (pa_cons (pe_str) (pa_cons (pe_str) pa_nil)))) (pe_op op_sub (pv 6) (pe_int)) (fun _ _ => rfl)))
  (pss_one (ps_if (pt_cmpR op_ne (pe_call (ok_law_told T) (hr.mono (by decide)) rfl T.g__law_told T.F__law_told.kp T.b__law_told .nil pass0 (pa_cons (pv 3) (pa_cons (pv 11) (pa_cons (pv 7) (pa_cons (pv 8) (pa_cons (pv 9) pa_nil)))))) (pe_call (ok_law_due T) (hr.mono (by decide)) rfl T.g__law_due T.F__law_due.kp T.b__law_due .nil pass0 (pa_cons (pv 4) (pa_cons (pv 11) (pa_cons (pv 7) (pa_cons (pv 8) (pa_cons (pv 9) pa_nil)))))) (nomark _))
  (pss_one (ps_ret (pe_bl)))
  (pss_nil)))))))
  (pss_one (ps_if (pt_not (pt_val (pe_call (ok_law_is_state T) (hr.mono (by decide)) rfl T.g__law_is_state T.F__law_is_state.kp T.b__law_is_state .nil pass0 (pa_cons (pv 1) (pa_cons (pv 3) (pa_cons (pv 4) pa_nil))))))
  (pss_one (ps_ret (pe_bl)))
  (pss_nil)))))))))
  (pss_cons (ps_for PassesOwn.never rfl (pi_list (pe_lst (pa_cons (pe_int) (pa_cons (pe_int) (pa_cons (pe_int) (pa_cons (pe_int) (pa_cons (pe_int) (pa_cons (pe_call (ok_law_draw T) (hr.mono (by decide)) rfl T.g__law_draw T.F__law_draw.kp T.b__law_draw .nil pass0 (pa_cons (pv 1) (pa_cons (pe_int) pa_nil))) pa_nil)))))))) (pg_name (i := 12) sc_law.nd rfl (Or.inl rfl))
  (pss_one (ps_if (pt_cmpR op_ne (pe_meth (pv 3) T.cl_Stripes T.m_Stripes_stripe_of (ok_Stripes_stripe_of T) (hr.mono (by decide)) T.b_Stripes_stripe_of .nil pass0 (pa_cons (pv 12) pa_nil)) (pe_op op_sub (pv 12) (pe_op op_mul (pv 2) (pe_op op_fdiv (pv 12) (pv 2)))) (nomark _))
  (pss_one (ps_ret (pe_bl)))
  (pss_nil))))
  (pss_one (ps_ret (pe_and (pe_call (ok_law_refused T) (hr.mono (by decide)) rfl T.g__law_refused T.F__law_refused.kp T.b__law_refused .nil pass0 (pa_cons (pe_int) pa_nil)) (pe_one (pe_call (ok_law_refused T) (hr.mono (by decide)) rfl T.g__law_refused T.F__law_refused.kp T.b__law_refused .nil pass0 (pa_cons (pe_op op_sub (pe_un un_neg pe_int) (pe_call (ok_law_draw T) (hr.mono (by decide)) rfl T.g__law_draw T.F__law_draw.kp T.b__law_draw .nil pass0 (pa_cons (pv 1) (pa_cons (pe_int) pa_nil)))) pa_nil))))))))))), ?_⟩
  have kf : ∀ H' : Hp, Q (.bl true) H' := k
  -- state
  refine asg_call (ta_cons (te_var rfl) ta_nil) ⟨a, ns, rfl, hS, fun ls p H1 S1 hp hls g1 => ?_⟩
  refine set_sl (σ' := [some (.ref a), some (.ref p), none, none, none, none, none, none, none, none, none, none, none]) rfl ?_
  -- count
  refine asg_opcall (ta_cons (te_var rfl) (ta_cons te_c ta_nil)) ⟨p, ls, 5, rfl, S1, by decide, by decide, fun r H2 r0 r1 g2 S2 => ⟨r, rfl, ?_⟩⟩
  obtain ⟨n, en⟩ : ∃ n : Nat, 1 + r = (n : Int) := ⟨(1 + r).toNat, by omega⟩
  have n1 : 1 ≤ n := by omega
  have n5 : n ≤ 5 := by omega
  rw [en]
  refine set_sl (σ' := [some (.ref a), some (.ref p), some (.int n), none, none, none, none, none, none, none, none, none, none]) rfl ?_
  -- table
  refine ⟨_, rfl, fun t dx ht hdx netd => ⟨t, dx, n, rfl, upd_same, .inl ⟨by omega, fun dv dO H3 B3 hdv hdO g3 => ⟨rfl, ?_⟩⟩⟩⟩
  refine set_sl (σ' := [some (.ref a), some (.ref p), some (.int n), some (.ref t), none, none, none, none, none, none, none, none, none]) rfl ?_
  have g23 : ∀ b o, H2 b = some o → H3 b = some o := fun b o e => g3 b o (by rw [upd_ne (ne_of_none e ht), upd_ne (ne_of_none e hdx)]; exact e) (ne_of_none e ht)
  have S3 : StateAt H3 p ls := S2.mono g23
  -- model
  refine fun m hm => ?_
  have sm : Same H3 (upd H3 m (.dK [])) := Same.upd hm
  have um : (upd H3 m (.dK [])) m = some (.dK []) := upd_same
  generalize upd H3 m (HO.dK []) = H4 at sm um ⊢
  refine ⟨by show 1 ≤ sizeLine; decide, fun l1 hl1 => ?_⟩
  have s1 : Same H4 (upd H4 l1 (.lst [.int 0])) := Same.upd hl1
  have u1 : (upd H4 l1 (.lst [.int 0])) l1 = some (.lst [.int 0]) := upd_same
  generalize upd H4 l1 (HO.lst [.int 0]) = H5 at s1 u1 ⊢
  refine ⟨_, rfl, l1, n, _, rfl, rfl, u1, by omega, by omega, by show 1 * _ ≤ sizeLine; rw [sizeLine_eq]; omega, fun lv hlv => ?_⟩
  rw [Int.toNat_natCast, rep_one]
  have s2 : Same H5 (upd H5 lv (.lst (List.replicate n (.int 0)))) := Same.upd hlv
  have u2 : (upd H5 lv (.lst (List.replicate n (.int 0)))) lv = some (.lst (List.replicate n (.int 0))) := upd_same
  generalize upd H5 lv (HO.lst (List.replicate n (.int 0))) = H6 at s2 u2 ⊢
  refine ⟨by show 1 ≤ sizeLine; decide, fun l2 hl2 => ?_⟩
  have s3 : Same H6 (upd H6 l2 (.lst [.non])) := Same.upd hl2
  have u3 : (upd H6 l2 (.lst [.non])) l2 = some (.lst [.non]) := upd_same
  generalize upd H6 l2 (HO.lst [.non]) = H7 at s3 u3 ⊢
  refine ⟨_, rfl, l2, n, _, rfl, rfl, u3, by omega, by omega, by show 1 * _ ≤ sizeLine; rw [sizeLine_eq]; omega, fun lo hlo => ?_⟩
  rw [Int.toNat_natCast, rep_one]
  have s4 : Same H7 (upd H7 lo (.lst (List.replicate n .non))) := Same.upd hlo
  have u4 : (upd H7 lo (.lst (List.replicate n .non))) lo = some (.lst (List.replicate n .non)) := upd_same
  generalize upd H7 lo (HO.lst (List.replicate n .non)) = H8 at s4 u4 ⊢
  have s48 : Same H4 H8 := fun b o e => s4 _ _ (s3 _ _ (s2 _ _ (s1 _ _ e)))
  refine ⟨s48 _ _ um, mkv 0 lv lo, rfl, by show 3 ≤ 15; decide, ?_⟩
  rw [merge_mkv]
  have nmv : m ≠ lv := ne_of_none (s1 _ _ um) hlv
  have nmo : m ≠ lo := ne_of_none (s3 _ _ (s2 _ _ (s1 _ _ um))) hlo
  have nvo : lv ≠ lo := ne_of_none (s3 _ _ u2) hlo
  have s38 : Same H3 H8 := fun b o e => s48 _ _ (sm _ _ e)
  have s39 : Same H3 (upd H8 m (.dK (mk0 lv lo))) := Same.wr s38 hm
  have u5 : (upd H8 m (.dK (mk0 lv lo))) m = some (.dK (mk0 lv lo)) := upd_same
  have u6 : (upd H8 m (.dK (mk0 lv lo))) lv = some (.lst (List.replicate n (.int 0))) := by
    rw [upd_ne nmv.symm]
    exact s4 _ _ (s3 _ _ u2)
  have u7 : (upd H8 m (.dK (mk0 lv lo))) lo = some (.lst (List.replicate n .non)) := by
    rw [upd_ne nmo.symm]
    exact u4
  generalize upd H8 m (HO.dK (mk0 lv lo)) = H9 at s39 u5 u6 u7 ⊢
  have nn : ∀ b o, H3 b = some o → b ≠ lv ∧ b ≠ lo ∧ b ≠ m := fun b o e => ⟨ne_of_none (s1 _ _ (sm _ _ e)) hlv, ne_of_none (s3 _ _ (s2 _ _ (s1 _ _ (sm _ _ e)))) hlo, ne_of_none e hm⟩
  have S9 : StateAt H9 p ls := S3.mono s39
  obtain ⟨pi, px, psd, pn, hp3, _⟩ := S3.ex
  obtain ⟨lns, hls3⟩ := S3.ls
  have Z0 : All H9 A.a_Stripes p ls t dx dv dO m lv lo n 0 [] [] (List.replicate n 0) (List.replicate n .non) := by
    refine ⟨S9, ⟨s39 _ _ B3.ob, s39 _ _ B3.ver, s39 _ _ B3.own, B3.ne⟩, ⟨⟨_, u5, ?_, ?_, ?_, ?_⟩, by rw [List.map_replicate]; exact u6, u7, nvo⟩, List.length_replicate, List.length_replicate, fun i hi => ⟨0, .non, ?_, ?_, rfl, rfl, rfl⟩, (nn _ _ hp3).1, (nn _ _ hp3).2.1, (nn _ _ hls3).1, (nn _ _ hls3).2.1, (nn _ _ B3.ver).2.2.symm, (nn _ _ B3.own).2.2.symm⟩
    · exact (valV_put _ _ _ _).trans ((if_neg (by decide +kernel)).trans ((valV_put _ _ _ _).trans ((if_neg (by decide +kernel)).trans ((valV_put _ _ _ _).trans (if_pos rfl)))))
    · exact (valV_put _ _ _ _).trans ((if_neg (by decide +kernel)).trans ((valV_put _ _ _ _).trans (if_pos rfl)))
    · exact (valV_put _ _ _ _).trans (if_pos rfl)
    · exact Nat.le_trans (put_le _ _ _) (Nat.succ_le_succ (Nat.le_trans (put_le _ _ _) (Nat.succ_le_succ (put_le [] _ _))))
    · rw [List.getElem?_replicate, if_pos hi]
    · rw [List.getElem?_replicate, if_pos hi]
  dsimp only [gName]
  refine set_sl (σ' := [some (.ref a), some (.ref p), some (.int n), some (.ref t), some (.ref m), none, none, none, none, none, none, none, none]) rfl ?_
  clear u5 u6 u7 s39 s38 nmv nmo nvo s48 u4 s4 hlo u3 s3 hl2 u2 s2 hlv u1 s1 hl1 um sm nn
  -- the turns
  refine ⟨_, rfl, p, ls, 31, rfl, S9, by decide, by decide, fun turns H10 t0 t1 g10 S10 => ?_⟩
  obtain ⟨tn, etn⟩ : ∃ tn : Nat, turns = (tn : Int) := ⟨turns.toNat, by omega⟩
  subst etn
  refine ⟨(tn : Int), rfl, by omega, by omega, for_range (n := tn) (fun i σ H2 => ∃ (v5 v6 v7 v8 v9 v10 v11 v12 : Option V) (c : Int) (kv ko : List (Key × V)) (vs : List Int) (os : List V), σ = [some (.ref a), some (.ref p), some (.int n), some (.ref t), some (.ref m), v5, v6, v7, v8, v9, v10, v11, v12] ∧ All H2 A.a_Stripes p ls t dx dv dO m lv lo n c kv ko vs os ∧ kv.length ≤ i ∧ ko.length ≤ i)
    ⟨_, _, _, _, _, _, _, _, 0, [], [], _, _, rfl, Z0.drawn g10 S10, Nat.le_refl _, Nat.le_refl _⟩ ?_ ?_⟩
  · rintro i σ H2 hi ⟨v5, v6, v7, v8, v9, v10, v11, v12, c, kv, ko, vs, os, rfl, Z, lk, lo'⟩
    dsimp only [gName]
    refine set_sl (σ' := [some (.ref a), some (.ref p), some (.int n), some (.ref t), some (.ref m), some (.int (0 + (i : Int))), v6, v7, v8, v9, v10, v11, v12]) rfl ?_
    refine asg_call (ta_cons (te_var rfl) (ta_cons te_c ta_nil)) ⟨p, ls, 6, rfl, Z.st, by decide, by decide, fun pick H3 q0 q1 g3 S3 => ?_⟩
    replace Z := Z.drawn g3 S3
    dsimp only
    refine set_sl (σ' := [some (.ref a), some (.ref p), some (.int n), some (.ref t), some (.ref m), some (.int (0 + (i : Int))), some (.int pick), v7, v8, v9, v10, v11, v12]) rfl ?_
    refine asg_call (ta_cons (te_var rfl) (ta_cons (te_var rfl) ta_nil)) ⟨p, ls, n, rfl, S3, by omega, by omega, fun z H4 z0 z1 g4 S4 => ?_⟩
    replace Z := Z.drawn g4 S4
    obtain ⟨j, rfl⟩ : ∃ j : Nat, z = j := ⟨z.toNat, by omega⟩
    have hj : j < n := by omega
    dsimp only
    refine set_sl (σ' := [some (.ref a), some (.ref p), some (.int n), some (.ref t), some (.ref m), some (.int (0 + (i : Int))), some (.int pick), some (.int j), v8, v9, v10, v11, v12]) rfl ?_
    refine asg_call (ta_cons (te_var rfl) (ta_cons te_c ta_nil)) ⟨p, ls, 3, rfl, S4, by decide, by decide, fun th H5 t0 t1 g5 S5 => ?_⟩
    replace Z := Z.drawn g5 S5
    dsimp only
    refine set_sl (σ' := [some (.ref a), some (.ref p), some (.int n), some (.ref t), some (.ref m), some (.int (0 + (i : Int))), some (.int pick), some (.int j), some (.int th), v9, v10, v11, v12]) rfl ?_
    refine asg_call (ta_cons (te_var rfl) (ta_cons te_c ta_nil)) ⟨p, ls, 9, rfl, S5, by decide, by decide, fun ve H6 w0 w1 g6 S6 => ?_⟩
    replace Z := Z.drawn g6 S6
    dsimp only
    refine set_sl (σ' := [some (.ref a), some (.ref p), some (.int n), some (.ref t), some (.ref m), some (.int (0 + (i : Int))), some (.int pick), some (.int j), some (.int th), some (.int ve), v10, v11, v12]) rfl ?_
    clear g3 g4 g5 g6 S3 S4 S5 S6
    have big : ∀ l : List (Key × V), l.length ≤ i → l.length < sizeLine := fun l h => by rw [sizeLine_eq]; omega
    have put1 : ∀ (l : List (Key × V)) (k : Key) (x : V), l.length ≤ i → (putK l k x).length ≤ i + 1 := fun l k x h => Nat.le_trans (put_le l k x) (Nat.succ_le_succ h)
    refine ⟨fun σ H7 => ∃ (v10 v11 v12 : Option V) (c : Int) (kv ko : List (Key × V)) (vs : List Int) (os : List V), σ = [some (.ref a), some (.ref p), some (.int n), some (.ref t), some (.ref m), some (.int (0 + (i : Int))), some (.int pick), some (.int j), some (.int th), some (.int ve), v10, v11, v12] ∧ All H7 A.a_Stripes p ls t dx dv dO m lv lo n c kv ko vs os ∧ kv.length ≤ i + 1 ∧ ko.length ≤ i + 1, ?_, ?_⟩
    · obtain ⟨kvs, hm, m1, m2, m3, m4⟩ := Z.mo.md
      obtain ⟨r, o, x1, x2, x3, x4, x5⟩ := Z.rel j hj
      refine if_go (b := decide (V.int pick = .int 0)) (tt_test (te_eq (te_var rfl) te_c rfl)) (fun h => ?_) fun h => ?_
      · -- the clock
        refine sq_go (st_dputS (te_i0 (te_dgetS (te_var rfl) te_c hm m1) te_c) (te_var rfl) te_c hm (by rw [sizeLine_eq]; omega) ?_)
        have Z2 := Z.tick hm m1 m2 m3 m4
        obtain ⟨a1, a2, a3, a4, a5, a6, b1, b2, b3, b4, b5, b6, c1, c2, c3, c4, c5, d1, d2, d3, d4, e1, e2, e3, e4, e5, e6⟩ := Z.nes
        refine ⟨_, rfl, t, dx, flds n c dv dO, rfl, (by walk_at "up"; exact Z.tb.ob), fl_no (by decide +kernel) (by decide +kernel) (by decide +kernel) (by decide +kernel), ?_⟩
        refine ⟨t, dx, dv, dO, n, c, kv, ko, rfl, Z.tb.to (by walk_at "up") (by walk_at "up") (by walk_at "up"), ?_⟩
        refine (te_dgetS (te_var rfl) te_c (by walk_at "up") ((valV_put _ _ _ _).trans (if_pos rfl))) _ ⟨rfl, _, rfl, ?_⟩
        dsimp only
        rw [if_neg (by simp)]
        exact ⟨_, _, _, _, _, _, _, _, rfl, Z2, Nat.le_succ_of_le lk, Nat.le_succ_of_le lo'⟩
      · refine if_go (b := decide (pick < 3)) (tt_test (te_i0 (te_var rfl) te_c)) (fun h3 => ?_) fun h3 => ?_
        · -- a lock
          refine ⟨_, rfl, t, dx, _, rfl, Z.tb.ob, fl_no (by decide +kernel) (by decide +kernel) (by decide +kernel) (by decide +kernel), _, rfl, _, rfl, t, dx, dv, dO, n, c, j, th, kv, ko, rfl, Z.tb, big ko lo', fun q => ?_, fun q => ?_⟩
          · dsimp only [gName]
            refine set_sl (σ' := [some (.ref a), some (.ref p), some (.int n), some (.ref t), some (.ref m), some (.int (0 + (i : Int))), some (.int pick), some (.int j), some (.int th), some (.int ve), some (.bl true), v11, v12]) rfl ?_
            have Z2 := Z.own (x := .int th) hj rfl
            obtain ⟨a1, a2, a3, a4, a5, a6, b1, b2, b3, b4, b5, b6, c1, c2, c3, c4, c5, d1, d2, d3, d4, e1, e2, e3, e4, e5, e6⟩ := Z.nes
            have em : (upd H6 dO (.dK (putK ko (.inl (j : Int) : Key) (.int th)))) m = some (.dK kvs) := by walk_at "up"; exact hm
            have eo : (upd H6 dO (.dK (putK ko (.inl (j : Int) : Key) (.int th)))) lo = some (.lst os) := by walk_at "up"; exact Z.mo.ho
            have on : o = .non := x4.symm.trans q
            refine if_seq (b := (!true) || (!decide (V.bl true = .bl (decide (o = .non))))) (tt_or (tt_not (tt_b (te_isi (.base (.bl _)) (kit_ty (by decide +kernel)) (te_var rfl)))) fun _ => tt_test (te_ne (te_var rfl) (te_isN (te_ixL (te_dgetS (te_var rfl) te_c em m3) (te_var rfl) (SqL.of eo) (at1 x2))) rfl)) (fun h => ?_) fun _ => ?_
            · rw [on] at h
              simp at h
            · refine if_go (b := true) (tt_b (te_var rfl)) (fun _ => ?_) fun z => nomatch z
              refine (te_var rfl : Te _ _ _ (.int th)) _ ((te_dgetS (te_var rfl) te_c em m3 : Te _ _ _ _) _ ((te_var rfl : Te _ _ _ (.int j)) _ ⟨lo, _, _, j, rfl, rfl, eo, ixN_nat (by rw [Z.no]; exact hj), ?_⟩))
              exact ⟨_, _, _, _, _, _, _, _, rfl, Z2, Nat.le_succ_of_le lk, put1 _ _ _ lo'⟩
          · dsimp only [gName]
            refine set_sl (σ' := [some (.ref a), some (.ref p), some (.int n), some (.ref t), some (.ref m), some (.int (0 + (i : Int))), some (.int pick), some (.int j), some (.int th), some (.int ve), some (.bl false), v11, v12]) rfl ?_
            have on : o ≠ .non := fun e => q (x4.trans e)
            refine if_seq (b := (!true) || (!decide (V.bl false = .bl (decide (o = .non))))) (tt_or (tt_not (tt_b (te_isi (.base (.bl _)) (kit_ty (by decide +kernel)) (te_var rfl)))) fun _ => tt_test (te_ne (te_var rfl) (te_isN (te_ixL (te_dgetS (te_var rfl) te_c hm m3) (te_var rfl) (SqL.of Z.mo.ho) (at1 x2))) rfl)) (fun h => ?_) fun _ => ?_
            · simp [on] at h
            · refine if_go (b := false) (tt_b (te_var rfl)) (fun z => nomatch z) fun _ => ?_
              exact ⟨_, _, _, _, _, _, _, _, rfl, Z, Nat.le_succ_of_le lk, Nat.le_succ_of_le lo'⟩
        · -- freed, or stamped
          have p3 : 3 ≤ pick := by
            have q : ¬ pick < 3 := by simpa using h3
            omega
          refine ⟨by show 3 ≤ sizeLine; decide, fun l hl => ?_⟩
          have Zl := Z.mono (Same.upd (o := .lst [.str "free", .str "stamp", .str "stamp"]) hl)
          have ul : (upd H6 l (.lst [.str "free", .str "stamp", .str "stamp"])) l = some (.lst [.str "free", .str "stamp", .str "stamp"]) := upd_same
          generalize upd H6 l (HO.lst [.str "free", .str "stamp", .str "stamp"]) = H7 at Zl ul ⊢
          obtain ⟨wd, hw, hw2⟩ : ∃ wd : Str, atI [V.str "free", .str "stamp", .str "stamp"] (pick - 3) = some (.str wd) ∧ (wd = "free" ∨ wd = "stamp") := by
            have c : pick = 3 ∨ pick = 4 ∨ pick = 5 := by omega
            rcases c with rfl | rfl | rfl
            · exact ⟨"free", rfl, .inl rfl⟩
            · exact ⟨"stamp", rfl, .inr rfl⟩
            · exact ⟨"stamp", rfl, .inr rfl⟩
          refine (te_i0 (te_var rfl) te_c : Te _ _ _ _) _ ⟨l, _, _, _, rfl, rfl, SqL.of ul, hw, ?_⟩
          dsimp only [gName]
          refine set_sl (σ' := [some (.ref a), some (.ref p), some (.int n), some (.ref t), some (.ref m), some (.int (0 + (i : Int))), some (.int pick), some (.int j), some (.int th), some (.int ve), v10, some (.str wd), v12]) rfl ?_
          clear hm m1 m2 m3 m4 Z
          have Z := Zl
          obtain ⟨a1, a2, a3, a4, a5, a6, b1, b2, b3, b4, b5, b6, c1, c2, c3, c4, c5, d1, d2, d3, d4, e1, e2, e3, e4, e5, e6⟩ := Z.nes
          obtain ⟨kvs, hm, mm⟩ := Z.mo.md
          refine ⟨_, rfl, _, rfl, _, rfl, _, rfl, _, rfl, t, dx, dv, dO, n, c, j, th, ve, r, kv, ko, wd, rfl, Z.tb, big ko lo', big kv lk, by rw [x4]; exact x5, x3, hw2, fun q => ?_, fun q q2 => ?_, fun q q2 q3 => ?_, fun q q2 q3 => ?_⟩
          · rw [x4] at q
            refine ⟨_, rfl, _, rfl, _, rfl, _, rfl, _, rfl, m, lv, lo, c, th, ve, r, j, o, vs, os, wd, rfl, Z.mo, x1, x2, x5, hw2, fun _ => ?_, fun e => absurd e q, fun e => absurd e q, fun e => absurd e q⟩
            refine ⟨rfl, _, rfl, iteNS rfl ?_⟩
            exact ⟨_, _, _, _, _, _, _, _, rfl, Z, Nat.le_succ_of_le lk, Nat.le_succ_of_le lo'⟩
          · rw [x4] at q
            refine ⟨_, rfl, _, rfl, _, rfl, _, rfl, _, rfl, m, lv, lo, c, th, ve, r, j, o, vs, os, wd, rfl, Z.mo.to (by walk_at "up") (by walk_at "up") (by walk_at "up"), x1, x2, x5, hw2, fun e => absurd q e, fun _ _ => ?_, fun _ e => absurd q2 e, fun _ e => absurd q2 e⟩
            refine ⟨rfl, _, rfl, iteNS rfl ?_⟩
            exact ⟨_, _, _, _, _, _, _, _, rfl, Z.own hj rfl, Nat.le_succ_of_le lk, put1 _ _ _ lo'⟩
          · rw [x4] at q
            refine ⟨_, rfl, _, rfl, _, rfl, _, rfl, _, rfl, m, lv, lo, c, th, ve, r, j, o, vs, os, wd, rfl, Z.mo, x1, x2, x5, hw2, fun e => absurd q e, fun _ e => absurd e q2, fun _ _ _ => ?_, fun _ _ e => absurd e (by omega)⟩
            refine ⟨rfl, _, rfl, iteNS rfl ?_⟩
            exact ⟨_, _, _, _, _, _, _, _, rfl, Z, Nat.le_succ_of_le lk, Nat.le_succ_of_le lo'⟩
          · rw [x4] at q
            refine ⟨_, rfl, _, rfl, _, rfl, _, rfl, _, rfl, m, lv, lo, c, th, ve, r, j, o, vs, os, wd, rfl, Z.mo.to (by walk_at "up") (by walk_at "up") (by walk_at "up"), x1, x2, x5, hw2, fun e => absurd q e, fun _ e => absurd e q2, fun _ _ e => absurd e (by omega), fun _ _ _ => ?_⟩
            refine ⟨rfl, _, rfl, iteNS rfl ?_⟩
            have Z2 := (Z.ver (v := ve) hj).own (x := .non) hj rfl
            rw [upd_comm (p := lv) (q := dO) (fun e => c4 e)] at Z2
            exact ⟨_, _, _, _, _, _, _, _, rfl, Z2, put1 _ _ _ lk, put1 _ _ _ lo'⟩
    · rintro σ H7 ⟨v10, v11, v12, c, kv, ko, vs, os, rfl, Z, lk, lo'⟩
      refine if_notcall (ta_cons (te_var rfl) (ta_cons (te_var rfl) (ta_cons (te_var rfl) ta_nil))) ⟨p, ls, t, dx, dv, dO, m, lv, lo, n, c, kv, ko, vs, os, rfl, Z, by omega, fun H8 g8 S8 => ⟨true, rfl, fun _ => ?_, fun e => nomatch e⟩⟩
      exact ⟨_, _, _, _, _, _, _, _, _, _, _, _, _, rfl, Z.drawn g8 S8, lk, lo'⟩
  · rintro σ H2 ⟨v5, v6, v7, v8, v9, v10, v11, v12, c, kv, ko, vs, os, rfl, Z, lk, lo'⟩
    refine ⟨_, rfl, p, ls, 1000, rfl, Z.st, by decide, by decide, fun r H3 r0 r1 g3 S3 => ⟨by show 6 ≤ sizeLine; decide, fun l hl => ?_⟩⟩
    replace Z := (Z.drawn g3 S3).mono (Same.upd (o := .lst [.int 0, .int 1, .int 2, .int 3, .int 7, .int r]) hl)
    have ul : (upd H3 l (.lst [.int 0, .int 1, .int 2, .int 3, .int 7, .int r])) l = some (.lst [.int 0, .int 1, .int 2, .int 3, .int 7, .int r]) := upd_same
    generalize upd H3 l (HO.lst [.int 0, .int 1, .int 2, .int 3, .int 7, .int r]) = H4 at Z ul ⊢
    refine ⟨l, rfl, ⟨_, SqL.of ul⟩, for_list (K := K) (a := l) (xs := [.int 0, .int 1, .int 2, .int 3, .int 7, .int r]) (fun i σ H5 => ∃ (v12 : Option V), σ = [some (.ref a), some (.ref p), some (.int n), some (.ref t), some (.ref m), v5, v6, v7, v8, v9, v10, v11, v12] ∧ H5 = H4) ⟨_, rfl, rfl⟩ (fun i σ H5 _ ⟨_, _, e⟩ => by rw [e]; exact SqL.of ul) ?_ ?_⟩
    · rintro i y σ H5 hi ⟨v12, rfl, rfl⟩
      obtain ⟨z, rfl⟩ : ∃ z, y = V.int z := by
        have q := List.mem_of_getElem? hi
        simp only [List.mem_cons, List.mem_nil_iff, or_false] at q
        rcases q with rfl | rfl | rfl | rfl | rfl | rfl <;> exact ⟨_, rfl⟩
      dsimp only [gName]
      refine set_sl (σ' := [some (.ref a), some (.ref p), some (.int n), some (.ref t), some (.ref m), v5, v6, v7, v8, v9, v10, v11, some (.int z)]) rfl ?_
      have ts : Te (tMeth A.a_Stripes "stripe_of" (spStripe A) [] E0 (tVar 3) (tCons (tVar 12) tNil)) [some (.ref a), some (.ref p), some (.int n), some (.ref t), some (.ref m), v5, v6, v7, v8, v9, v10, v11, some (.int z)] H5 (.int (z % n)) :=
        te_meth (te_var rfl) Z.tb.ob (fl_no (by decide +kernel) (by decide +kernel) (by decide +kernel) (by decide +kernel)) (ta_cons (te_var rfl) ta_nil) fun Q q => ⟨t, dx, dv, dO, n, c, z, kv, ko, rfl, Z.tb, by omega, q⟩
      have cd : CDiv z n := ⟨by omega, by omega⟩
      have cm : CMul n (z / n) := .inl ⟨by omega, by omega⟩
      refine if_go (b := !decide (V.int (z % n) = .int (z - n * (z / n)))) (tt_test (te_ne ts (te_i0 (te_var rfl) (te_i (te_var rfl) (te_i (te_var rfl) (te_var rfl) cd) cm)) rfl)) (fun h => ?_) fun _ => ?_
      · rw [show z % (n : Int) = z - n * (z / n) from Int.emod_def _ _] at h
        simp at h
      · exact ⟨_, rfl, rfl⟩
    · rintro σ H5 ⟨v12, rfl, rfl⟩
      refine ⟨0, rfl, by decide, fun H6 s6 => ⟨true, rfl, ?_⟩⟩
      rw [if_pos rfl]
      replace Z := Z.mono s6
      refine ⟨_, rfl, _, rfl, p, ls, 5, rfl, Z.st, by decide, by decide, fun r H7 r0 r1 g7 S7 => ⟨_, _, rfl, rfl, _, rfl, by omega, fun H8 s8 => kf _⟩⟩
end
end K23

namespace K23
open PySem L2 YF
theorem all_mk {l : PySem.W.OpenLaw} {w : World} {K : PySem.W.Frag} {h : Heap} {mg : Str → Option Value} {fa : Addr} (X : K.In h) (G : h.Ns mainGlobals mg) (hfa : mg "law" = some (.ref fa))
    {C_Stripes : Addr}
    {f0 : Addr} {oc0 kV0 dc0 pm0 cd0 ct0 : Value} {od0 an0 : Option Addr} {sl0 : Array (Option Value)}
    {f1 : Addr} {oc1 kV1 dc1 pm1 cd1 ct1 : Value} {od1 an1 : Option Addr} {sl1 : Array (Option Value)}
    {f2 : Addr} {oc2 kV2 dc2 pm2 cd2 ct2 : Value} {od2 an2 : Option Addr} {sl2 : Array (Option Value)}
    {f3 : Addr} {oc3 kV3 dc3 pm3 cd3 ct3 : Value} {od3 an3 : Option Addr} {sl3 : Array (Option Value)}
    {f4 : Addr} {oc4 kV4 dc4 pm4 cd4 ct4 : Value} {od4 an4 : Option Addr} {sl4 : Array (Option Value)}
    {f5 : Addr} {oc5 kV5 dc5 pm5 cd5 ct5 : Value} {od5 an5 : Option Addr} {sl5 : Array (Option Value)}
    {f6 : Addr} {oc6 kV6 dc6 pm6 cd6 ct6 : Value} {od6 an6 : Option Addr} {sl6 : Array (Option Value)}
    {f7 : Addr} {oc7 kV7 dc7 pm7 cd7 ct7 : Value} {od7 an7 : Option Addr} {sl7 : Array (Option Value)}
    {f8 : Addr} {oc8 kV8 dc8 pm8 cd8 ct8 : Value} {od8 an8 : Option Addr} {sl8 : Array (Option Value)}
    {f9 : Addr} {oc9 kV9 dc9 pm9 cd9 ct9 : Value} {od9 an9 : Option Addr} {sl9 : Array (Option Value)}
    {f10 : Addr} {oc10 kV10 dc10 pm10 cd10 ct10 : Value} {od10 an10 : Option Addr} {sl10 : Array (Option Value)}
    {f11 : Addr} {oc11 kV11 dc11 pm11 cd11 ct11 : Value} {od11 an11 : Option Addr} {sl11 : Array (Option Value)}
    {f12 : Addr} {oc12 kV12 dc12 pm12 cd12 ct12 : Value} {od12 an12 : Option Addr} {sl12 : Array (Option Value)}
    {f13 : Addr} {oc13 kV13 dc13 pm13 cd13 ct13 : Value} {od13 an13 : Option Addr} {sl13 : Array (Option Value)}
    {f14 : Addr} {oc14 kV14 dc14 pm14 cd14 ct14 : Value} {od14 an14 : Option Addr} {sl14 : Array (Option Value)}
    {f15 : Addr} {oc15 kV15 dc15 pm15 cd15 ct15 : Value} {od15 an15 : Option Addr} {sl15 : Array (Option Value)}
    {C_HandshakerError : Addr}
    {C_InvalidCount : Addr}
    {C_NotOwner : Addr}
    {C_InvalidVersion : Addr}
    (aC_Stripes : PySem.W.nsIn K mainGlobals "Stripes" = some (some (.ref C_Stripes)))
    (a0 : PySem.W.nsIn K mainGlobals "_law_state" = some (some (.ref f0))) (l0 : K.lookup f0 = some ⟨oc0, od0, .func (PySem.W.fnOf "_law_state" "_law_state" (defArgs s_law_state) (defBody s_law_state) (defScope s_law_state) .none kV0 dc0 pm0 an0 cd0 ct0), sl0⟩) (c0 : PySem.W.codeIn K cd0 "_law_state" = true) (k0 : PySem.W.keepIn K (.ref f0) = true)
    (a1 : PySem.W.nsIn K mainGlobals "_law_draw" = some (some (.ref f1))) (l1 : K.lookup f1 = some ⟨oc1, od1, .func (PySem.W.fnOf "_law_draw" "_law_draw" (defArgs s_law_draw) (defBody s_law_draw) (defScope s_law_draw) .none kV1 dc1 pm1 an1 cd1 ct1), sl1⟩) (c1 : PySem.W.codeIn K cd1 "_law_draw" = true) (k1 : PySem.W.keepIn K (.ref f1) = true)
    (a2 : PySem.W.nsIn K mainGlobals "_law_told" = some (some (.ref f2))) (l2 : K.lookup f2 = some ⟨oc2, od2, .func (PySem.W.fnOf "_law_told" "_law_told" (defArgs s_law_told) (defBody s_law_told) (defScope s_law_told) .none kV2 dc2 pm2 an2 cd2 ct2), sl2⟩) (c2 : PySem.W.codeIn K cd2 "_law_told" = true) (k2 : PySem.W.keepIn K (.ref f2) = true)
    (a3 : PySem.W.nsIn K mainGlobals "_law_due" = some (some (.ref f3))) (l3 : K.lookup f3 = some ⟨oc3, od3, .func (PySem.W.fnOf "_law_due" "_law_due" (defArgs s_law_due) (defBody s_law_due) (defScope s_law_due) .none kV3 dc3 pm3 an3 cd3 ct3), sl3⟩) (c3 : PySem.W.codeIn K cd3 "_law_due" = true) (k3 : PySem.W.keepIn K (.ref f3) = true)
    (a4 : PySem.W.nsIn K mainGlobals "_law_is_state" = some (some (.ref f4))) (l4 : K.lookup f4 = some ⟨oc4, od4, .func (PySem.W.fnOf "_law_is_state" "_law_is_state" (defArgs s_law_is_state) (defBody s_law_is_state) (defScope s_law_is_state) .none kV4 dc4 pm4 an4 cd4 ct4), sl4⟩) (c4 : PySem.W.codeIn K cd4 "_law_is_state" = true) (k4 : PySem.W.keepIn K (.ref f4) = true)
    (a5 : PySem.W.nsIn K mainGlobals "_law_refused" = some (some (.ref f5))) (l5 : K.lookup f5 = some ⟨oc5, od5, .func (PySem.W.fnOf "_law_refused" "_law_refused" (defArgs s_law_refused) (defBody s_law_refused) (defScope s_law_refused) .none kV5 dc5 pm5 an5 cd5 ct5), sl5⟩) (c5 : PySem.W.codeIn K cd5 "_law_refused" = true) (k5 : PySem.W.keepIn K (.ref f5) = true)
    (a6 : PySem.W.nsIn K mainGlobals "law" = some (some (.ref f6))) (l6 : K.lookup f6 = some ⟨oc6, od6, .func (PySem.W.fnOf "law" "law" (defArgs s_law) (defBody s_law) (defScope s_law) .none kV6 dc6 pm6 an6 cd6 ct6), sl6⟩) (c6 : PySem.W.codeIn K cd6 "law" = true) (k6 : PySem.W.keepIn K (.ref f6) = true)
    (a7 : PySem.W.findIn K (.ref C_Stripes) "__init__" = some (some (.ref f7))) (i7 : PySem.W.isFn K (.ref f7) = true) (l7 : K.lookup f7 = some ⟨oc7, od7, .func (PySem.W.fnOf "__init__" "Stripes.__init__" (defArgs s_Stripes___init__) (defBody s_Stripes___init__) (defScope s_Stripes___init__) .none kV7 dc7 pm7 an7 cd7 ct7), sl7⟩) (c7 : PySem.W.codeIn K cd7 "Stripes.__init__" = true) (k7 : PySem.W.keepIn K (.ref f7) = true)
    (a8 : PySem.W.findIn K (.ref C_Stripes) "stripe_of" = some (some (.ref f8))) (i8 : PySem.W.isFn K (.ref f8) = true) (l8 : K.lookup f8 = some ⟨oc8, od8, .func (PySem.W.fnOf "stripe_of" "Stripes.stripe_of" (defArgs s_Stripes_stripe_of) (defBody s_Stripes_stripe_of) (defScope s_Stripes_stripe_of) .none kV8 dc8 pm8 an8 cd8 ct8), sl8⟩) (c8 : PySem.W.codeIn K cd8 "Stripes.stripe_of" = true) (k8 : PySem.W.keepIn K (.ref f8) = true)
    (a9 : PySem.W.findIn K (.ref C_Stripes) "version" = some (some (.ref f9))) (i9 : PySem.W.isFn K (.ref f9) = true) (l9 : K.lookup f9 = some ⟨oc9, od9, .func (PySem.W.fnOf "version" "Stripes.version" (defArgs s_Stripes_version) (defBody s_Stripes_version) (defScope s_Stripes_version) .none kV9 dc9 pm9 an9 cd9 ct9), sl9⟩) (c9 : PySem.W.codeIn K cd9 "Stripes.version" = true) (k9 : PySem.W.keepIn K (.ref f9) = true)
    (a10 : PySem.W.findIn K (.ref C_Stripes) "owner" = some (some (.ref f10))) (i10 : PySem.W.isFn K (.ref f10) = true) (l10 : K.lookup f10 = some ⟨oc10, od10, .func (PySem.W.fnOf "owner" "Stripes.owner" (defArgs s_Stripes_owner) (defBody s_Stripes_owner) (defScope s_Stripes_owner) .none kV10 dc10 pm10 an10 cd10 ct10), sl10⟩) (c10 : PySem.W.codeIn K cd10 "Stripes.owner" = true) (k10 : PySem.W.keepIn K (.ref f10) = true)
    (a11 : PySem.W.findIn K (.ref C_Stripes) "tick" = some (some (.ref f11))) (i11 : PySem.W.isFn K (.ref f11) = true) (l11 : K.lookup f11 = some ⟨oc11, od11, .func (PySem.W.fnOf "tick" "Stripes.tick" (defArgs s_Stripes_tick) (defBody s_Stripes_tick) (defScope s_Stripes_tick) .none kV11 dc11 pm11 an11 cd11 ct11), sl11⟩) (c11 : PySem.W.codeIn K cd11 "Stripes.tick" = true) (k11 : PySem.W.keepIn K (.ref f11) = true)
    (a12 : PySem.W.findIn K (.ref C_Stripes) "lock" = some (some (.ref f12))) (i12 : PySem.W.isFn K (.ref f12) = true) (l12 : K.lookup f12 = some ⟨oc12, od12, .func (PySem.W.fnOf "lock" "Stripes.lock" (defArgs s_Stripes_lock) (defBody s_Stripes_lock) (defScope s_Stripes_lock) .none kV12 dc12 pm12 an12 cd12 ct12), sl12⟩) (c12 : PySem.W.codeIn K cd12 "Stripes.lock" = true) (k12 : PySem.W.keepIn K (.ref f12) = true)
    (a13 : PySem.W.findIn K (.ref C_Stripes) "free" = some (some (.ref f13))) (i13 : PySem.W.isFn K (.ref f13) = true) (l13 : K.lookup f13 = some ⟨oc13, od13, .func (PySem.W.fnOf "free" "Stripes.free" (defArgs s_Stripes_free) (defBody s_Stripes_free) (defScope s_Stripes_free) .none kV13 dc13 pm13 an13 cd13 ct13), sl13⟩) (c13 : PySem.W.codeIn K cd13 "Stripes.free" = true) (k13 : PySem.W.keepIn K (.ref f13) = true)
    (a14 : PySem.W.findIn K (.ref C_Stripes) "stamp" = some (some (.ref f14))) (i14 : PySem.W.isFn K (.ref f14) = true) (l14 : K.lookup f14 = some ⟨oc14, od14, .func (PySem.W.fnOf "stamp" "Stripes.stamp" (defArgs s_Stripes_stamp) (defBody s_Stripes_stamp) (defScope s_Stripes_stamp) .none kV14 dc14 pm14 an14 cd14 ct14), sl14⟩) (c14 : PySem.W.codeIn K cd14 "Stripes.stamp" = true) (k14 : PySem.W.keepIn K (.ref f14) = true)
    (a15 : PySem.W.findIn K (.ref C_Stripes) "is_open" = some (some (.ref f15))) (i15 : PySem.W.isFn K (.ref f15) = true) (l15 : K.lookup f15 = some ⟨oc15, od15, .func (PySem.W.fnOf "is_open" "Stripes.is_open" (defArgs s_Stripes_is_open) (defBody s_Stripes_is_open) (defScope s_Stripes_is_open) .none kV15 dc15 pm15 an15 cd15 ct15), sl15⟩) (c15 : PySem.W.codeIn K cd15 "Stripes.is_open" = true) (k15 : PySem.W.keepIn K (.ref f15) = true)
    (pg_Stripes : PySem.W.plainGet K C_Stripes Str.empty = true) (hd_Stripes : PySem.W.hasDictIn K C_Stripes = true) (po_Stripes : PySem.W.plainOver K C_Stripes = true) (sa_Stripes : PySem.W.findIn K (.ref C_Stripes) "__setattr__" = some (some (.builtin "object.__setattr__"))) (mk_Stripes : PySem.W.makesIn K C_Stripes = true) (kc_Stripes : PySem.W.keepIn K (.ref C_Stripes) = true)
    (no_Stripes_count : PySem.W.findIn K (.ref C_Stripes) "count" = some none)
    (no_Stripes_clock : PySem.W.findIn K (.ref C_Stripes) "clock" = some none)
    (no_Stripes__versions : PySem.W.findIn K (.ref C_Stripes) "_versions" = some none)
    (no_Stripes__owners : PySem.W.findIn K (.ref C_Stripes) "_owners" = some none)
    (z_len : PySem.W.nsIn K mainGlobals "len" = some none)
    (z_int : PySem.W.nsIn K mainGlobals "int" = some none)
    (z_list : PySem.W.nsIn K mainGlobals "list" = some none)
    (z_range : PySem.W.nsIn K mainGlobals "range" = some none)
    (z_isinstance : PySem.W.nsIn K mainGlobals "isinstance" = some none)
    (z_bool : PySem.W.nsIn K mainGlobals "bool" = some none)
    (h_HandshakerError : PySem.W.nsIn K mainGlobals "HandshakerError" = some (some (.ref C_HandshakerError)))
    (h_InvalidCount : PySem.W.nsIn K mainGlobals "InvalidCount" = some (some (.ref C_InvalidCount)))
    (x_InvalidCount : PySem.W.excIn K C_InvalidCount [.type "ValueError", .type "Exception", .type "BaseException", .type "object"] "ValueError.__new__" = true)
    (k_InvalidCount : PySem.W.keepIn K (.ref C_InvalidCount) = true)
    (y_InvalidCount : PySem.W.subIn K (.ref C_InvalidCount) (.type "BaseException") = some true)
    (t_InvalidCount : PySem.W.typeIn K (.ref C_InvalidCount) = some (.type "type"))
    (i_InvalidCount : PySem.W.isClsIn K C_InvalidCount = true)
    (s_InvalidCount : PySem.W.subIn K (.ref C_InvalidCount) (.ref C_InvalidCount) = some true)
    (h_NotOwner : PySem.W.nsIn K mainGlobals "NotOwner" = some (some (.ref C_NotOwner)))
    (x_NotOwner : PySem.W.excIn K C_NotOwner [.type "ValueError", .type "Exception", .type "BaseException", .type "object"] "ValueError.__new__" = true)
    (k_NotOwner : PySem.W.keepIn K (.ref C_NotOwner) = true)
    (y_NotOwner : PySem.W.subIn K (.ref C_NotOwner) (.type "BaseException") = some true)
    (t_NotOwner : PySem.W.typeIn K (.ref C_NotOwner) = some (.type "type"))
    (i_NotOwner : PySem.W.isClsIn K C_NotOwner = true)
    (s_NotOwner : PySem.W.subIn K (.ref C_NotOwner) (.ref C_NotOwner) = some true)
    (h_InvalidVersion : PySem.W.nsIn K mainGlobals "InvalidVersion" = some (some (.ref C_InvalidVersion)))
    (x_InvalidVersion : PySem.W.excIn K C_InvalidVersion [.type "ValueError", .type "Exception", .type "BaseException", .type "object"] "ValueError.__new__" = true)
    (k_InvalidVersion : PySem.W.keepIn K (.ref C_InvalidVersion) = true)
    (y_InvalidVersion : PySem.W.subIn K (.ref C_InvalidVersion) (.type "BaseException") = some true)
    (t_InvalidVersion : PySem.W.typeIn K (.ref C_InvalidVersion) = some (.type "type"))
    (i_InvalidVersion : PySem.W.isClsIn K C_InvalidVersion = true)
    (s_InvalidVersion : PySem.W.subIn K (.ref C_InvalidVersion) (.ref C_InvalidVersion) = some true)
    (e_NN : PySem.W.exmOne K (.ref C_NotOwner) (.ref C_NotOwner) = some true)
    (e_VN : PySem.W.exmOne K (.ref C_InvalidVersion) (.ref C_NotOwner) = some false)
    (e_VV : PySem.W.exmOne K (.ref C_InvalidVersion) (.ref C_InvalidVersion) = some true)
    (e_CC : PySem.W.exmOne K (.ref C_InvalidCount) (.ref C_InvalidCount) = some true)
    : ∃ fd : FuncData, (∀ (s : Shared) (v : Value), BindsTo s fd ⟨[v], []⟩ [("script", v)]) ∧ ∀ base : Heap, K.In base → base.Ns mainGlobals mg → FnOk l.prog w K mg base CX0 5 fa fd ["script"] (spLaw K) := by
  have e := hfa.symm.trans (PySem.W.mg_of X G a6)
  cases e
  have F0 := fun_mk (st := s_law_state) l0 c0 k0
  have b0 := F0.binds (ps := ["script"]) fun _ _ _ _ _ _ us hl => match us, hl with | [_], _ => rfl
  have F1 := fun_mk (st := s_law_draw) l1 c1 k1
  have b1 := F1.binds (ps := ["state", "many"]) fun _ _ _ _ _ _ us hl => match us, hl with | [_, _], _ => rfl
  have F2 := fun_mk (st := s_law_told) l2 c2 k2
  have b2 := F2.binds (ps := ["table", "word", "stripe", "thread", "version"]) fun _ _ _ _ _ _ us hl => match us, hl with | [_, _, _, _, _], _ => rfl
  have F3 := fun_mk (st := s_law_due) l3 c3 k3
  have b3 := F3.binds (ps := ["model", "word", "stripe", "thread", "version"]) fun _ _ _ _ _ _ us hl => match us, hl with | [_, _, _, _, _], _ => rfl
  have F4 := fun_mk (st := s_law_is_state) l4 c4 k4
  have b4 := F4.binds (ps := ["state", "table", "model"]) fun _ _ _ _ _ _ us hl => match us, hl with | [_, _, _], _ => rfl
  have F5 := fun_mk (st := s_law_refused) l5 c5 k5
  have b5 := F5.binds (ps := ["count"]) fun _ _ _ _ _ _ us hl => match us, hl with | [_], _ => rfl
  have F6 := fun_mk (st := s_law) l6 c6 k6
  have b6 := F6.binds (ps := ["script"]) fun _ _ _ _ _ _ us hl => match us, hl with | [_], _ => rfl
  have F7 := fun_mk (st := s_Stripes___init__) l7 c7 k7
  have b7 := F7.binds (ps := ["self", "count"]) fun _ _ _ _ _ _ us hl => match us, hl with | [_, _], _ => rfl
  have F8 := fun_mk (st := s_Stripes_stripe_of) l8 c8 k8
  have b8 := F8.binds (ps := ["self", "cell"]) fun _ _ _ _ _ _ us hl => match us, hl with | [_, _], _ => rfl
  have F9 := fun_mk (st := s_Stripes_version) l9 c9 k9
  have b9 := F9.binds (ps := ["self", "stripe"]) fun _ _ _ _ _ _ us hl => match us, hl with | [_, _], _ => rfl
  have F10 := fun_mk (st := s_Stripes_owner) l10 c10 k10
  have b10 := F10.binds (ps := ["self", "stripe"]) fun _ _ _ _ _ _ us hl => match us, hl with | [_, _], _ => rfl
  have F11 := fun_mk (st := s_Stripes_tick) l11 c11 k11
  have b11 := F11.binds (ps := ["self"]) fun _ _ _ _ _ _ us hl => match us, hl with | [_], _ => rfl
  have F12 := fun_mk (st := s_Stripes_lock) l12 c12 k12
  have b12 := F12.binds (ps := ["self", "stripe", "thread"]) fun _ _ _ _ _ _ us hl => match us, hl with | [_, _, _], _ => rfl
  have F13 := fun_mk (st := s_Stripes_free) l13 c13 k13
  have b13 := F13.binds (ps := ["self", "stripe", "thread"]) fun _ _ _ _ _ _ us hl => match us, hl with | [_, _, _], _ => rfl
  have F14 := fun_mk (st := s_Stripes_stamp) l14 c14 k14
  have b14 := F14.binds (ps := ["self", "stripe", "thread", "version"]) fun _ _ _ _ _ _ us hl => match us, hl with | [_, _, _, _], _ => rfl
  have F15 := fun_mk (st := s_Stripes_is_open) l15 c15 k15
  have b15 := F15.binds (ps := ["self", "stripe", "thread", "version"]) fun _ _ _ _ _ _ us hl => match us, hl with | [_, _, _, _], _ => rfl
  let A : Adr := { a__law_state := f0, d__law_state := PySem.W.fnOf "_law_state" "_law_state" (defArgs s_law_state) (defBody s_law_state) (defScope s_law_state) .none kV0 dc0 pm0 an0 cd0 ct0, a__law_draw := f1, d__law_draw := PySem.W.fnOf "_law_draw" "_law_draw" (defArgs s_law_draw) (defBody s_law_draw) (defScope s_law_draw) .none kV1 dc1 pm1 an1 cd1 ct1, a__law_told := f2, d__law_told := PySem.W.fnOf "_law_told" "_law_told" (defArgs s_law_told) (defBody s_law_told) (defScope s_law_told) .none kV2 dc2 pm2 an2 cd2 ct2, a__law_due := f3, d__law_due := PySem.W.fnOf "_law_due" "_law_due" (defArgs s_law_due) (defBody s_law_due) (defScope s_law_due) .none kV3 dc3 pm3 an3 cd3 ct3, a__law_is_state := f4, d__law_is_state := PySem.W.fnOf "_law_is_state" "_law_is_state" (defArgs s_law_is_state) (defBody s_law_is_state) (defScope s_law_is_state) .none kV4 dc4 pm4 an4 cd4 ct4, a__law_refused := f5, d__law_refused := PySem.W.fnOf "_law_refused" "_law_refused" (defArgs s_law_refused) (defBody s_law_refused) (defScope s_law_refused) .none kV5 dc5 pm5 an5 cd5 ct5, a_law := fa, d_law := PySem.W.fnOf "law" "law" (defArgs s_law) (defBody s_law) (defScope s_law) .none kV6 dc6 pm6 an6 cd6 ct6, a_Stripes___init__ := f7, d_Stripes___init__ := PySem.W.fnOf "__init__" "Stripes.__init__" (defArgs s_Stripes___init__) (defBody s_Stripes___init__) (defScope s_Stripes___init__) .none kV7 dc7 pm7 an7 cd7 ct7, a_Stripes_stripe_of := f8, d_Stripes_stripe_of := PySem.W.fnOf "stripe_of" "Stripes.stripe_of" (defArgs s_Stripes_stripe_of) (defBody s_Stripes_stripe_of) (defScope s_Stripes_stripe_of) .none kV8 dc8 pm8 an8 cd8 ct8, a_Stripes_version := f9, d_Stripes_version := PySem.W.fnOf "version" "Stripes.version" (defArgs s_Stripes_version) (defBody s_Stripes_version) (defScope s_Stripes_version) .none kV9 dc9 pm9 an9 cd9 ct9, a_Stripes_owner := f10, d_Stripes_owner := PySem.W.fnOf "owner" "Stripes.owner" (defArgs s_Stripes_owner) (defBody s_Stripes_owner) (defScope s_Stripes_owner) .none kV10 dc10 pm10 an10 cd10 ct10, a_Stripes_tick := f11, d_Stripes_tick := PySem.W.fnOf "tick" "Stripes.tick" (defArgs s_Stripes_tick) (defBody s_Stripes_tick) (defScope s_Stripes_tick) .none kV11 dc11 pm11 an11 cd11 ct11, a_Stripes_lock := f12, d_Stripes_lock := PySem.W.fnOf "lock" "Stripes.lock" (defArgs s_Stripes_lock) (defBody s_Stripes_lock) (defScope s_Stripes_lock) .none kV12 dc12 pm12 an12 cd12 ct12, a_Stripes_free := f13, d_Stripes_free := PySem.W.fnOf "free" "Stripes.free" (defArgs s_Stripes_free) (defBody s_Stripes_free) (defScope s_Stripes_free) .none kV13 dc13 pm13 an13 cd13 ct13, a_Stripes_stamp := f14, d_Stripes_stamp := PySem.W.fnOf "stamp" "Stripes.stamp" (defArgs s_Stripes_stamp) (defBody s_Stripes_stamp) (defScope s_Stripes_stamp) .none kV14 dc14 pm14 an14 cd14 ct14, a_Stripes_is_open := f15, d_Stripes_is_open := PySem.W.fnOf "is_open" "Stripes.is_open" (defArgs s_Stripes_is_open) (defBody s_Stripes_is_open) (defScope s_Stripes_is_open) .none kV15 dc15 pm15 an15 cd15 ct15, a_Stripes := C_Stripes, a_HandshakerError := C_HandshakerError, a_InvalidCount := C_InvalidCount, a_NotOwner := C_NotOwner, a_InvalidVersion := C_InvalidVersion }
  have T : Txt K mg A := { F__law_state := (F0), b__law_state := (b0), g__law_state := (PySem.W.mg_of X G a0), F__law_draw := (F1), b__law_draw := (b1), g__law_draw := (PySem.W.mg_of X G a1), F__law_told := (F2), b__law_told := (b2), g__law_told := (PySem.W.mg_of X G a2), F__law_due := (F3), b__law_due := (b3), g__law_due := (PySem.W.mg_of X G a3), F__law_is_state := (F4), b__law_is_state := (b4), g__law_is_state := (PySem.W.mg_of X G a4), F__law_refused := (F5), b__law_refused := (b5), g__law_refused := (PySem.W.mg_of X G a5), F_law := (F6), b_law := (b6), g_law := (PySem.W.mg_of X G a6), F_Stripes___init__ := (F7), b_Stripes___init__ := (b7), mk_Stripes := ⟨mk_Stripes, a7, i7, kc_Stripes⟩, F_Stripes_stripe_of := (F8), b_Stripes_stripe_of := (b8), m_Stripes_stripe_of := ⟨a8, i8, k8⟩, F_Stripes_version := (F9), b_Stripes_version := (b9), m_Stripes_version := ⟨a9, i9, k9⟩, F_Stripes_owner := (F10), b_Stripes_owner := (b10), m_Stripes_owner := ⟨a10, i10, k10⟩, F_Stripes_tick := (F11), b_Stripes_tick := (b11), m_Stripes_tick := ⟨a11, i11, k11⟩, F_Stripes_lock := (F12), b_Stripes_lock := (b12), m_Stripes_lock := ⟨a12, i12, k12⟩, F_Stripes_free := (F13), b_Stripes_free := (b13), m_Stripes_free := ⟨a13, i13, k13⟩, F_Stripes_stamp := (F14), b_Stripes_stamp := (b14), m_Stripes_stamp := ⟨a14, i14, k14⟩, F_Stripes_is_open := (F15), b_Stripes_is_open := (b15), m_Stripes_is_open := ⟨a15, i15, k15⟩, cl_Stripes := ⟨pg_Stripes, hd_Stripes, po_Stripes, sa_Stripes⟩, g_Stripes := PySem.W.mg_of X G aC_Stripes, no_Stripes_count := no_Stripes_count, no_Stripes_clock := no_Stripes_clock, no_Stripes__versions := no_Stripes__versions, no_Stripes__owners := no_Stripes__owners, n_len := PySem.W.mg_none_of X G z_len, n_int := PySem.W.mg_none_of X G z_int, n_list := PySem.W.mg_none_of X G z_list, n_range := PySem.W.mg_none_of X G z_range, n_isinstance := PySem.W.mg_none_of X G z_isinstance, n_bool := PySem.W.mg_none_of X G z_bool, g_HandshakerError := PySem.W.mg_of X G h_HandshakerError, g_InvalidCount := PySem.W.mg_of X G h_InvalidCount, x_InvalidCount := x_InvalidCount, k_InvalidCount := k_InvalidCount, y_InvalidCount := y_InvalidCount, t_InvalidCount := t_InvalidCount, i_InvalidCount := i_InvalidCount, s_InvalidCount := s_InvalidCount, g_NotOwner := PySem.W.mg_of X G h_NotOwner, x_NotOwner := x_NotOwner, k_NotOwner := k_NotOwner, y_NotOwner := y_NotOwner, t_NotOwner := t_NotOwner, i_NotOwner := i_NotOwner, s_NotOwner := s_NotOwner, g_InvalidVersion := PySem.W.mg_of X G h_InvalidVersion, x_InvalidVersion := x_InvalidVersion, k_InvalidVersion := k_InvalidVersion, y_InvalidVersion := y_InvalidVersion, t_InvalidVersion := t_InvalidVersion, i_InvalidVersion := i_InvalidVersion, s_InvalidVersion := s_InvalidVersion, e_NN := e_NN, e_VN := e_VN, e_VV := e_VV, e_CC := e_CC }
  exact ⟨A.d_law, fun s v => .of_eq rfl, fun base _ _ => ok_law T⟩
theorem walk {l : PySem.W.OpenLaw} {q : Program} {loose : List Str} {XP : (Str → Option Value) → Heap → Prop} {YP : World → Heap → Prop} {d : DefRec} {K : Params → PySem.W.Frag} (hn : l.most = some 63) (hdf : d.params.defaults = [])
    (hY : ∀ (w : World) (h : Heap), YP w h → (K w.params).In h)
    (F : ∀ (w : World) (mg : Str → Option Value) (fa : Addr) (h : Heap), (K w.params).In h → h.Ns mainGlobals mg → mg d.name = some (.ref fa) →
      ∃ fd : FuncData, (∀ (s : Shared) (u : Value), BindsTo s fd ⟨[u], []⟩ [("script", u)]) ∧ ∀ base : Heap, (K w.params).In base → base.Ns mainGlobals mg → FnOk l.prog w (K w.params) mg base CX0 5 fa fd ["script"] (spLaw (K w.params))) :
    PySem.W.WalkO q loose XP YP l.row.toRowW d [] (fun f vs => PySem.call f vs) :=
  L2.walk_of (n := 63) (k := 5) (x := "script") (CX := fun _ => CX0) (sp := fun w => spLaw (K w.params)) hn (by decide) hdf ⟨rfl, by decide, by decide⟩ hY F (fun _ _ a ns hl _ hS => ⟨a, ns, rfl, hS, hl, fun _ => rfl⟩) fun _ _ _ _ _ z => z
end K23

open PySem PySem.W PyProof.Rows in
set_option maxRecDepth 100000 in
set_option maxHeartbeats 0 in
theorem PySem.Challenge.cw_handshaker_k23_stripes_of_a_table_holds : PySem.Challenge.rw_handshaker_k23_stripes_of_a_table.Holds := by
  w_on; o_law; k_head; (case hw => w_witness2)
  k_fill
  refine K23.walk (l := PySem.Challenge.rw_handshaker_k23_stripes_of_a_table) rfl rfl (fun w h Y => PySem.W.kIn_of Y) ?F
  case F =>
    intro w mg fa h KX G hmg
    refine' K23.all_mk KX G hmg ?aC_Stripes ?a0 ?l0 ?c0 ?k0 ?a1 ?l1 ?c1 ?k1 ?a2 ?l2 ?c2 ?k2 ?a3 ?l3 ?c3 ?k3 ?a4 ?l4 ?c4 ?k4 ?a5 ?l5 ?c5 ?k5 ?a6 ?l6 ?c6 ?k6 ?a7 ?i7 ?l7 ?c7 ?k7 ?a8 ?i8 ?l8 ?c8 ?k8 ?a9 ?i9 ?l9 ?c9 ?k9 ?a10 ?i10 ?l10 ?c10 ?k10 ?a11 ?i11 ?l11 ?c11 ?k11 ?a12 ?i12 ?l12 ?c12 ?k12 ?a13 ?i13 ?l13 ?c13 ?k13 ?a14 ?i14 ?l14 ?c14 ?k14 ?a15 ?i15 ?l15 ?c15 ?k15 ?pg_Stripes ?hd_Stripes ?po_Stripes ?sa_Stripes ?mk_Stripes ?kc_Stripes ?no_Stripes_count ?no_Stripes_clock ?no_Stripes__versions ?no_Stripes__owners ?z_len ?z_int ?z_list ?z_range ?z_isinstance ?z_bool ?h_HandshakerError ?h_InvalidCount ?x_InvalidCount ?k_InvalidCount ?y_InvalidCount ?t_InvalidCount ?i_InvalidCount ?s_InvalidCount ?h_NotOwner ?x_NotOwner ?k_NotOwner ?y_NotOwner ?t_NotOwner ?i_NotOwner ?s_NotOwner ?h_InvalidVersion ?x_InvalidVersion ?k_InvalidVersion ?y_InvalidVersion ?t_InvalidVersion ?i_InvalidVersion ?s_InvalidVersion ?e_NN ?e_VN ?e_VV ?e_CC
    (case aC_Stripes => k_is)
    (case a0 => k_is)
    (case l0 => k_is)
    (case c0 => k_is)
    (case k0 => k_is)
    (case a1 => k_is)
    (case l1 => k_is)
    (case c1 => k_is)
    (case k1 => k_is)
    (case a2 => k_is)
    (case l2 => k_is)
    (case c2 => k_is)
    (case k2 => k_is)
    (case a3 => k_is)
    (case l3 => k_is)
    (case c3 => k_is)
    (case k3 => k_is)
    (case a4 => k_is)
    (case l4 => k_is)
    (case c4 => k_is)
    (case k4 => k_is)
    (case a5 => k_is)
    (case l5 => k_is)
    (case c5 => k_is)
    (case k5 => k_is)
    (case a6 => k_is)
    (case l6 => k_is)
    (case c6 => k_is)
    (case k6 => k_is)
    (case a7 => k_is)
    (case i7 => k_is)
    (case l7 => k_is)
    (case c7 => k_is)
    (case k7 => k_is)
    (case a8 => k_is)
    (case i8 => k_is)
    (case l8 => k_is)
    (case c8 => k_is)
    (case k8 => k_is)
    (case a9 => k_is)
    (case i9 => k_is)
    (case l9 => k_is)
    (case c9 => k_is)
    (case k9 => k_is)
    (case a10 => k_is)
    (case i10 => k_is)
    (case l10 => k_is)
    (case c10 => k_is)
    (case k10 => k_is)
    (case a11 => k_is)
    (case i11 => k_is)
    (case l11 => k_is)
    (case c11 => k_is)
    (case k11 => k_is)
    (case a12 => k_is)
    (case i12 => k_is)
    (case l12 => k_is)
    (case c12 => k_is)
    (case k12 => k_is)
    (case a13 => k_is)
    (case i13 => k_is)
    (case l13 => k_is)
    (case c13 => k_is)
    (case k13 => k_is)
    (case a14 => k_is)
    (case i14 => k_is)
    (case l14 => k_is)
    (case c14 => k_is)
    (case k14 => k_is)
    (case a15 => k_is)
    (case i15 => k_is)
    (case l15 => k_is)
    (case c15 => k_is)
    (case k15 => k_is)
    (case pg_Stripes => k_is)
    (case hd_Stripes => k_is)
    (case po_Stripes => k_is)
    (case sa_Stripes => k_is)
    (case mk_Stripes => k_is)
    (case kc_Stripes => k_is)
    (case no_Stripes_count => k_is)
    (case no_Stripes_clock => k_is)
    (case no_Stripes__versions => k_is)
    (case no_Stripes__owners => k_is)
    (case z_len => k_is)
    (case z_int => k_is)
    (case z_list => k_is)
    (case z_range => k_is)
    (case z_isinstance => k_is)
    (case z_bool => k_is)
    (case h_HandshakerError => k_is)
    (case h_InvalidCount => k_is)
    (case x_InvalidCount => first | k_exc | k_is)
    (case k_InvalidCount => k_is)
    (case y_InvalidCount => k_is)
    (case t_InvalidCount => k_is)
    (case i_InvalidCount => k_is)
    (case s_InvalidCount => first | rfl | k_is)
    (case h_NotOwner => k_is)
    (case x_NotOwner => first | k_exc | k_is)
    (case k_NotOwner => k_is)
    (case y_NotOwner => k_is)
    (case t_NotOwner => k_is)
    (case i_NotOwner => k_is)
    (case s_NotOwner => first | rfl | k_is)
    (case h_InvalidVersion => k_is)
    (case x_InvalidVersion => first | k_exc | k_is)
    (case k_InvalidVersion => k_is)
    (case y_InvalidVersion => k_is)
    (case t_InvalidVersion => k_is)
    (case i_InvalidVersion => k_is)
    (case s_InvalidVersion => first | rfl | k_is)
    (case e_NN => first | k_is | rfl)
    (case e_VN => first | k_is | rfl)
    (case e_VV => first | k_is | rfl)
    (case e_CC => first | k_is | rfl)

