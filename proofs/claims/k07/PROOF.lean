import PyProof.Rows.All
import Wide.All
import OpenK.AllK
import Wide.FinOn
import HandS.ForMost
import HandS.Rev
import HandS.IsInst
import HandS.Exc
import HandS.ExcOwn
import HandS.TryOnly
import HandS.WordsExc
import HandS.ExcIs
import HandS.TupAny
import HandS.Codes
import PySem.Challenge.RW_handshaker_k07_library_cells_and_blocks
set_option Elab.async false
set_option maxRecDepth 100000
set_option maxHeartbeats 4000000
set_option linter.all false
/-! list(reversed(xs)) -/
namespace YF
open PySem PySem.Spec PyProof.Rows L2
section
variable {prog : Program} {w : World} {A : Around} {E : Value → Shared → Prop} {s : Shared} {R : Result → Shared → Prop} {it l S : Addr} {items : Array Value} {c₀ : Nat}
theorem rev_into (hh : A.handled = none) (hi : s.heap.IsRevIter it l ((items.size : Int) - 1)) (hl : s.heap.IsList l items) (nl : l ≠ it) (nS : S ≠ it) (nSl : S ≠ l) (hz : items.size ≤ sizeLine)
    (hS : s.heap.get? S = some { cls := .type "list", data := .seq #[] c₀ })
    (hR : ∀ (h' : Heap) (tk : Nat) (acc : Array Value) (c' : Nat), (∀ b o, b ≠ S → b ≠ it → s.heap.get? b = some o → h'.get? b = some o) → h'.get? S = some { cls := .type "list", dict := none, data := .seq acc c', slots := #[] } →
      ItemsOf (fun i v => items[items.size - 1 - i]? = some v) acc items.size → R (.ok (.ret .none)) { s with heap := h', toks := tk }) :
    wpAny (model prog w) A.in1 (Builtin.List.listExtendWith (.ref S) (.ref it) .none)
      (fun fin s' => match fin with | .done f => R (.ok f) s' | .again c' => c'.quiet = true ∧ codeAny (model prog w) A c' R s') (fun e s' => R (.error e) s') s := by
  have walk := (Walks.listRev (prog := prog) (w := w) (A := A.in1) hh it l nl items).toS
  have out : S ∉ [it, l] := fun m => by
    rcases List.mem_cons.mp m with e | m
    · exact nS e
    · exact nSl (List.mem_singleton.mp m)
  have ty : s.TypeIs (.ref it) "list_reverseiterator" := hi.typeIs
  have differ : Builtin.List.listSameRef (.ref S) (.ref it) = false := by simp [Builtin.List.listSameRef, nS]
  unfold Builtin.List.listExtendWith
  refine wpAny_bind (wpAny_typeOf ty ?_)
  rw [if_neg (by rw [differ]; decide)]
  refine wpAny_bind (wpAny_pyIter_revIter hi (wpAny_bind (wpAny_holding ?_)))
  unfold Builtin.List.listLengthHint
  refine wpAny_bind (wpAny_specialOf ty RT.nolen_lri ?_)
  show wpAny _ A.in1 (specialOf (.ref it) (Str.ofString "__length_hint__") >>= _) _ _ s
  refine wpAny_bind (wpAny_specialOf ty RT.hint_lri ?_)
  generalize same : ("list_reverseiterator.__length_hint__" : String) = nm
  wp_delta
  have sp : splitId nm = some ("list_reverseiterator", "__length_hint__") := by subst same; decide +kernel
  rw [sp]
  subst same
  refine wpAny_bind (wpAny_isInstance (b := true) ty (by rw [isSubtype_type]; kernel_rfl) ?_)
  refine wpAny_pure ?_
  rw [if_neg (by decide)]
  have start : ((items.size : Nat) : Int) - 1 - ((0 : Nat) : Int) = (items.size : Int) - 1 := by omega
  refine wpAny_pure ⟨plainId_quiet F.plain_extend_loop _, ?_⟩
  refine codeAny_extend_loopS walk hz S out .none items.size 0 s #[] c₀ rfl (Nat.zero_le _) ⟨Nat.zero_le _, start.symm ▸ hi, hl⟩ hS (ItemsOf.nil _) fun s' acc c' mv at' got => ?_
  rw [Moved.eq_with mv]
  refine hR s'.heap s'.toks acc c' (fun b o h1 h2 e => mv.heap b o (fun m => ?_) e) at' got
  rcases List.mem_cons.mp m with q | m
  · exact h1 q
  · exact h2 (List.mem_singleton.mp m)
theorem rev_init (hh : A.handled = none) (hi : s.heap.IsRevIter it l ((items.size : Int) - 1)) (hl : s.heap.IsList l items) (nl : l ≠ it) (nS : S ≠ it) (nSl : S ≠ l) (hz : items.size ≤ sizeLine)
    (hS : s.heap.get? S = some { cls := .type "list", data := .seq #[] })
    (hR : ∀ (h' : Heap) (tk : Nat) (acc : Array Value) (c' : Nat), (∀ b o, b ≠ S → b ≠ it → s.heap.get? b = some o → h'.get? b = some o) → h'.get? S = some { cls := .type "list", dict := none, data := .seq acc c', slots := #[] } →
      ItemsOf (fun i v => items[items.size - 1 - i]? = some v) acc items.size → R (.ok (.ret .none)) { s with heap := h', toks := tk }) :
    wpAny (model prog w) A.in1 (Builtin.«list.__init__» ⟨[.ref S, .ref it], []⟩)
      (fun fin s' => match fin with | .done f => R (.ok f) s' | .again c' => c'.quiet = true ∧ codeAny (model prog w) A c' R s') (fun e s' => R (.error e) s') s := by
  show wpAny _ A.in1 (do let old ← Builtin.List.listItems (.ref S)
                         Builtin.List.listUpdate (.ref S) (fun _ => #[])
                         letGo old.toList.reverse
                         Builtin.List.listExtendWith (.ref S) (.ref it) .none) _ _ s
  refine wpAny_bind ?_
  unfold Builtin.List.listItems
  refine wpAny_bind (wpAny_seqItems hS rfl (wpAny_pure ?_))
  show wpAny _ A.in1 (updateSeq S (fun _ => #[]) >>= fun _ =>
      letGo (#[] : Array Value).toList.reverse >>= fun _ => Builtin.List.listExtendWith (.ref S) (.ref it) .none) _ _ s
  refine wpAny_bind (wpAny_updateSeq hS rfl (wpAny_bind (wpAny_letGo ?_)))
  have there := Heap.get?_update_self (Obj.mapSeq (fun _ => (#[] : Array Value))) hS rfl
  have kept : ∀ b o, b ≠ S → s.heap.get? b = some o → (s.heap.update S (Obj.mapSeq (fun _ => (#[] : Array Value)))).get? b = some o := fun b o ne e => by
    rw [Heap.get?_update_other _ _ (Ne.symm ne)]
    exact e
  refine rev_into (s := { s with heap := s.heap.update S (Obj.mapSeq (fun _ => (#[] : Array Value))) }) hh (hi.at fun o e => kept it o nS.symm e) ?_ nl nS nSl hz there fun h' tk acc c' k at' got => ?_
  · obtain ⟨o, ho, r⟩ := hl
    exact ⟨o, kept l o nSl.symm ho, r⟩
  · exact hR h' tk acc c' (fun b o n1 n2 e => k b o n1 n2 (kept b o n1 e)) at' got
theorem list_of_rev {Q : Value → Shared → Prop} (hh : A.handled = none) (hi : s.heap.IsRevIter it l ((items.size : Int) - 1)) (hl : s.heap.IsList l items) (nl : l ≠ it) (hz : items.size ≤ sizeLine)
    (hQ : ∀ (h' : Heap) (tk : Nat) (acc : Array Value) (c' : Nat), (∀ b o, b ≠ it → s.heap.get? b = some o → h'.get? b = some o) → h'.get? s.heap.objs.size = some { cls := .type "list", dict := none, data := .seq acc c', slots := #[] } →
      ItemsOf (fun i v => items[items.size - 1 - i]? = some v) acc items.size → Q (.ref s.heap.objs.size) { s with heap := h', toks := tk }) :
    wpAny (model prog w) A (call (.type "list") [.ref it]) Q E s := by
  obtain ⟨oi, ei, _⟩ := id hi
  obtain ⟨ol, el, _⟩ := id hl
  refine callType_codes (Q₁ := fun obj s₁ => obj = .ref s.heap.objs.size ∧ s₁ = { s with heap := s.heap.push { cls := .type "list", data := .seq #[] } })
    F.called_list (F.typeCall_list_1 _) F.entry_list_init (code_list_new _ ⟨rfl, rfl⟩) fun obj s₁ h₁ => ?_
  obtain ⟨rfl, rfl⟩ := h₁
  have there : (s.heap.push { cls := .type "list", data := .seq #[] }).get? s.heap.objs.size = some { cls := .type "list", data := .seq #[] } := Heap.get?_push_size _ rfl
  refine ⟨⟨_, there, rfl⟩, F.args_list_init_2 _ _, ?_⟩
  refine rev_init (A := A.in1) (s := { s with heap := s.heap.push { cls := .type "list", data := .seq #[] } }) hh (hi.at fun o e => Heap.get?_push_of_some _ e) (hl.push _) nl (Nat.ne_of_gt (Heap.lt_size ei)) (Nat.ne_of_gt (Heap.lt_size el)) hz there fun h' tk acc c' k at' got => ?_
  exact ⟨rfl, hQ h' tk acc c' (fun b o ne e => k b o (Nat.ne_of_lt (Heap.lt_size e)) ne (Heap.get?_push_of_some _ e)) at' got⟩
end
/-- list(reversed(x)), x a list: a new list -/
def tLstRev (K : PySem.W.Frag) (te : TE) : TE := fun σ H Q => te σ H fun v H1 => ∃ (a : Addr) (xs : List V), v = .ref a ∧ SqL K H1 a xs ∧ ∀ q, H1 q = none → Q (.ref q) (upd H1 q (.lst xs.reverse))
theorem pe_lstRev {X : Cx} {e : Expr} {te : TE} {p p2 pos pos2 : Pos} (hc : X.calm = true) (hg : Gl X "list") (hm : X.mg "list" = none) (hg2 : Gl X "reversed") (hm2 : X.mg "reversed" = none) (he : PE X e te)
    (hs : starEach [e] X.env = (false, eval e X.env) :: starEach [] X.env := by rfl)
    (hs2 : starEach [.Call (.Name "reversed" p2) [e] [] pos2] X.env = (false, eval (.Call (.Name "reversed" p2) [e] [] pos2) X.env) :: starEach [] X.env := by rfl) :
    PE X (.Call (.Name "list" p) [.Call (.Name "reversed" p2) [e] [] pos2] [] pos) (tLstRev X.K te) := by
  refine ⟨fun pins s σ H Q I h => ?_⟩
  refine Call_ (ld_blt I hg hm boot_list (PyProof.Rows.callWith_type1 (args_cons (Call_ (ld_blt I hg2 hm2 PyProof.Rows.boot_reversed
    (PyProof.Rows.callWith_type1 (args_cons (thn (he.run pins s σ H _ I h) fun u s1 ⟨v, H1, J, r1, q1⟩ => args_nil ?_) hs) hs rfl))) hs2) hs2 rfl))
  obtain ⟨a, xs, ev, hq, q⟩ := q1
  subst ev
  obtain rfl : u = Value.ref a := r1
  obtain ⟨its, rv, pl, hz⟩ := J.list hq
  refine call_reversed_list pl.isList (args_nil ?_)
  obtain ⟨ol, el, _⟩ := id pl.isList
  have n0 : s1.heap.get? s1.heap.objs.size = none := by
    cases e : s1.heap.get? s1.heap.objs.size with
    | none => rfl
    | some o => exact absurd (Heap.lt_size e) (Nat.lt_irrefl _)
  have hz' : its.toArray.size ≤ sizeLine := by
    rw [List.size_toArray, ← rv.length]
    exact hz
  refine list_of_rev (s := { s1 with heap := s1.heap.push (revObj a ((its.toArray.size : Int) - 1)) }) (J.ok.hd hc) ⟨_, Heap.get?_push_size _ rfl, rfl, rfl⟩ (pl.isList.push _) (Nat.ne_of_lt (Heap.lt_size el)) hz' fun h' tk acc c' k there got => ?_
  have k1 : ∀ b o, s1.heap.get? b = some o → h'.get? b = some o := fun b o e => k b o (Nat.ne_of_lt (Heap.lt_size e)) (Heap.get?_push_of_some _ e)
  have big : s1.heap.objs.size ≤ (s1.heap.push (revObj a ((its.toArray.size : Int) - 1))).objs.size := by
    rw [Heap.size_push]
    exact Nat.le_succ _
  refine ⟨.ref _, upd H1 _ (.lst xs.reverse), J.laid (t' := tk) k1 big (show ObjOk X.prog X.w _ _ _ (.lst xs.reverse) from ⟨by rw [List.length_reverse]; exact hz, acc.toList, c', RT.vals_rev rv got, ?_⟩), rfl, q _ (J.hok.fresh big)⟩
  rw [Array.toArray_toList]
  exact there
end YF

/-! data as trees, how they lie in a heap, heaps that grow -/
namespace YF
open PySem PySem.Spec PyProof.Rows L2
abbrev St := L2.St

/-- a tree of data; a row of trees is a chain of cons -/
inductive D where
  | non | bl (b : Bool) | int (i : Int) | str (x : Str) | tup (ds : D) | lst (ds : D) | nil | cons (d ds : D)
  deriving DecidableEq
namespace D
def row : List D → D
  | [] => .nil
  | d :: r => .cons d (row r)
def isRow : D → Bool
  | .nil => true
  | .cons _ r => isRow r
  | _ => false
def dep : D → Nat
  | .tup ds => dep ds + 1
  | .lst ds => dep ds + 1
  | .cons d r => max (dep d) (dep r)
  | _ => 0
def len : D → Nat
  | .cons _ r => len r + 1
  | _ => 0
/-- a tree proper: rows stand in tuples and lists alone -/
def ok : D → Bool
  | .tup ds => isRow ds && ok ds
  | .lst ds => isRow ds && ok ds
  | .nil => true
  | .cons d r => !isRow d && ok d && isRow r && ok r
  | _ => true
end D
/-- the values vs are the trees of the row; of a tree that is no row: the one value -/
def Rp (K : PySem.W.Frag) (H : Hp) : D → List V → Prop
  | .non, vs => vs = [.non]
  | .bl b, vs => vs = [.bl b]
  | .int i, vs => vs = [.int i]
  | .str x, vs => vs = [.str x]
  | .tup ds, vs => ∃ a xs, vs = [.ref a] ∧ SqT K H a xs ∧ xs.length ≤ 100000 ∧ Rp K H ds xs
  | .lst ds, vs => ∃ a xs, vs = [.ref a] ∧ SqL K H a xs ∧ xs.length ≤ 100000 ∧ Rp K H ds xs
  | .nil, vs => vs = []
  | .cons d r, vs => ∃ x xs, vs = x :: xs ∧ Rp K H d [x] ∧ Rp K H r xs
section
variable {K : PySem.W.Frag} {H H' : Hp}
theorem Same.sqL {a : Addr} {xs : List V} (e : Same H H') (h : SqL K H a xs) : SqL K H' a xs := Same.seq e h
theorem Same.sqT {a : Addr} {xs : List V} (e : Same H H') (h : SqT K H a xs) : SqT K H' a xs := by
  rcases h with (h | ⟨o, h⟩) | h
  · exact .inl (.inl (e _ _ h))
  · exact .inl (.inr ⟨o, e _ _ h⟩)
  · exact .inr h
theorem Rp.mono (e : Same H H') : ∀ {d : D} {vs : List V}, Rp K H d vs → Rp K H' d vs
  | .non, _, h => h
  | .bl _, _, h => h
  | .int _, _, h => h
  | .str _, _, h => h
  | .tup _, _, ⟨a, xs, e1, h1, h2, h3⟩ => ⟨a, xs, e1, Same.sqT e h1, h2, Rp.mono e h3⟩
  | .lst _, _, ⟨a, xs, e1, h1, h2, h3⟩ => ⟨a, xs, e1, Same.sqL e h1, h2, Rp.mono e h3⟩
  | .nil, _, h => h
  | .cons _ _, _, ⟨x, xs, e1, h1, h2⟩ => ⟨x, xs, e1, Rp.mono e h1, Rp.mono e h2⟩
theorem Rp.row_len : ∀ {d : D} {vs : List V}, d.isRow = true → Rp K H d vs → vs.length = d.len
  | .nil, _, _, h => by
    have e : _ = [] := h
    rw [e]
    rfl
  | .cons _ r, _, q, ⟨x, xs, e1, _, h2⟩ => by
    subst e1
    have := Rp.row_len (d := r) q h2
    simp [D.len, this]
theorem Rp.at_ : ∀ {d : D} {vs ws : List V} {i : Nat} {v : V}, d.isRow = true → d.ok = true → Rp K H d vs → vs[i]? = some v → Rp K H d ws → ∃ (c : D) (u : V), ws[i]? = some u ∧ c.isRow = false ∧ c.ok = true ∧ c.dep ≤ d.dep ∧ Rp K H c [v] ∧ Rp K H c [u]
  | .nil, vs, ws, i, v, _, _, h, e, _ => by
    have h : vs = [] := h
    rw [h] at e
    cases i <;> cases e
  | .cons d r, vs, ws, 0, v, q, o, ⟨x, xs, e1, h1, h2⟩, e, ⟨y, ys, e2, k1, k2⟩ => by
    subst e1 e2
    simp only [D.ok, Bool.and_eq_true, Bool.not_eq_true'] at o
    have ev : x = v := by simpa using e
    rw [ev] at h1
    exact ⟨d, y, rfl, o.1.1.1, o.1.1.2, Nat.le_max_left _ _, h1, k1⟩
  | .cons d r, vs, ws, i + 1, v, q, o, ⟨x, xs, e1, h1, h2⟩, e, ⟨y, ys, e2, k1, k2⟩ => by
    subst e1 e2
    simp only [D.ok, Bool.and_eq_true, Bool.not_eq_true'] at o
    obtain ⟨c, u, g1, g2, g3, g4, g5, g6⟩ := Rp.at_ (d := r) (i := i) (v := v) q o.2 h2 (by simpa using e) k2
    exact ⟨c, u, by simpa using g1, g2, g3, Nat.le_trans g4 (Nat.le_max_right _ _), g5, g6⟩
end

/-! ### heaps that grow: B the part that stands, X what may be written -/
theorem Same.upd {H : Hp} {p : Addr} {o : HO} (h : H p = none) : Same H (upd H p o) := fun b u e => by
  rw [upd_ne (ne_of_none e h)]
  exact e
theorem Same.wr {B H : Hp} {p : Addr} {o : HO} (e : Same B H) (h : B p = none) : Same B (L2.upd H p o) := fun b u q => by
  rw [upd_ne (ne_of_none q h)]
  exact e b u q
structure Grow (X : List Addr) (B H N H' : Hp) : Prop where
  bn : Same B N
  nh : Same N H'
  keep : ∀ a o, a ∉ X → H a = some o → H' a = some o
  there : ∀ a o, H a = some o → ∃ o', H' a = some o'
  frs : ∀ a o, N a = some o → B a = some o ∨ H a = none
/-- every address of X holds a list of ints -/
def Ints (X : List Addr) (H : Hp) : Prop := ∀ p ∈ X, ∃ ns : List Int, H p = some (.lst (ns.map V.int))
def Off (X : List Addr) (B : Hp) : Prop := ∀ p ∈ X, B p = none
section
variable {X : List Addr} {B H N H' N' H'' : Hp}
theorem Grow.refl (e : Same B H) : Grow X B H B H := ⟨Same.refl B, e, fun _ _ _ h => h, fun _ o h => ⟨o, h⟩, fun _ _ h => .inl h⟩
theorem Grow.trans (g : Grow X B H N H') (k : Grow X N H' N' H'') : Grow X B H N' H'' :=
  ⟨g.bn.trans k.bn, k.nh, fun a o n h => k.keep a o n (g.keep a o n h), fun a o h => by
    obtain ⟨o', h'⟩ := g.there a o h
    exact k.there a o' h', fun a o h => by
    rcases k.frs a o h with q | q
    · exact g.frs a o q
    · right
      cases e : H a with
      | none => rfl
      | some u =>
        obtain ⟨o', h'⟩ := g.there a u e
        rw [q] at h'
        cases h'⟩
theorem Grow.more {Y : List Addr} (g : Grow X B H N H') (s : ∀ p ∈ X, p ∈ Y) : Grow Y B H N H' := ⟨g.bn, g.nh, fun a o n h => g.keep a o (fun m => n (s a m)) h, g.there, g.frs⟩
theorem Grow.same (g : Grow [] B H N H') : Same H H' := fun a o h => g.keep a o (by simp) h
/-- a new object, known from now on -/
theorem Grow.new {p : Addr} {o : HO} (e : Same B H) (h : H p = none) : Grow X B H (upd B p o) (upd H p o) := by
  have hb : B p = none := e.free h
  refine ⟨Same.upd hb, fun a u q => ?_, fun a u _ q => Same.upd h a u q, fun a u q => ⟨u, Same.upd h a u q⟩, fun a u q => ?_⟩
  · by_cases z : a = p
    · subst z
      rw [upd_same] at q ⊢
      exact q
    · rw [upd_ne z] at q ⊢
      exact e a u q
  · by_cases z : a = p
    · subst z
      exact .inr h
    · rw [upd_ne z] at q
      exact .inl q
/-- a new object, not known (it may be written later) -/
theorem Grow.new0 {p : Addr} {o : HO} (e : Same B H) (h : H p = none) : Grow X B H B (upd H p o) :=
  ⟨Same.refl B, Same.wr e (e.free h), fun a u _ q => Same.upd h a u q, fun a u q => ⟨u, Same.upd h a u q⟩, fun _ _ q => .inl q⟩
/-- an object of X is written -/
theorem Grow.wr {p : Addr} {o : HO} (e : Same B H) (m : p ∈ X) (h : B p = none) : Grow X B H B (upd H p o) :=
  ⟨Same.refl B, Same.wr e h, fun a u n q => by rw [upd_ne (fun z => n (by rw [z]; exact m))]; exact q, fun a u q => by
    by_cases z : a = p
    · subst z
      exact ⟨o, upd_same⟩
    · exact ⟨u, by rw [upd_ne z]; exact q⟩, fun _ _ q => .inl q⟩
/-- what was made since the start comes to be known -/
theorem Grow.know {B0 H0 : Hp} {p : Addr} {o : HO} (g : Grow X B0 H0 N H') (h0 : H0 p = none) (h : H' p = some o) : Grow X B0 H0 (upd N p o) H' := by
  refine ⟨fun a u q => ?_, fun a u q => ?_, g.keep, g.there, fun a u q => ?_⟩
  · by_cases z : a = p
    · subst z
      have w := g.nh a u (g.bn a u q)
      rw [h] at w
      cases w
      exact upd_same
    · rw [upd_ne z]
      exact g.bn a u q
  · by_cases z : a = p
    · subst z
      rw [upd_same] at q
      cases q
      exact h
    · rw [upd_ne z] at q
      exact g.nh a u q
  · by_cases z : a = p
    · subst z
      exact .inr h0
    · rw [upd_ne z] at q
      exact g.frs a u q
/-- an object that was made since the start, and is not known, is written -/
theorem Grow.wrNew {p : Addr} {o : HO} (g : Grow X B H N H') (h0 : H p = none) (hN : N p = none) : Grow X B H N (upd H' p o) :=
  ⟨g.bn, Same.wr g.nh hN, fun a u n q => by rw [upd_ne (ne_of_none q h0)]; exact g.keep a u n q, fun a u q => by
    rw [upd_ne (ne_of_none q h0)]
    exact g.there a u q, g.frs⟩
theorem Grow.off {Y : List Addr} (g : Grow X B H N H') (hB : Off Y B) (hH : ∀ p ∈ Y, ∃ o, H p = some o) : Off Y N := fun p m => by
  cases e : N p with
  | none => rfl
  | some o =>
    rcases g.frs p o e with q | q
    · rw [hB p m] at q
      cases q
    · obtain ⟨u, hu⟩ := hH p m
      rw [q] at hu
      cases hu
theorem Grow.offI (g : Grow X B H N H') (hB : Off X B) (hI : Ints X H) : Off X N := g.off hB fun p m => by
  obtain ⟨ns, h⟩ := hI p m
  exact ⟨_, h⟩
end

/-! ### evaluation: an expression whose reading is te gives, in the slots σ and over the base B, some tree of which φ holds -/
def EvP (K : PySem.W.Frag) (X : List Addr) (B : Hp) (te : TE) (σ : St) (φ : D → Prop) : Prop :=
  ∀ H1, Same B H1 → Off X B → Ints X H1 → ∀ Q : VK, (∀ v d N H2, Grow X B H1 N H2 → Ints X H2 → φ d → Rp K N d [v] → Q v H2) → te σ H1 Q
def EvPs (K : PySem.W.Frag) (X : List Addr) (B : Hp) (ta : TA) (σ : St) (φ : D → Prop) : Prop :=
  ∀ H1, Same B H1 → Off X B → Ints X H1 → ∀ Q : List V → Hp → Prop, (∀ vs d N H2, Grow X B H1 N H2 → Ints X H2 → φ d → Rp K N d vs → Q vs H2) → ta σ H1 Q
section
variable {K : PySem.W.Frag} {X : List Addr} {B N : Hp} {σ : St} {te tb : TE} {ta : TA} {φ ψ : D → Prop}
theorem EvP.imp (h : EvP K X B te σ φ) (k : ∀ d, φ d → ψ d) : EvP K X B te σ ψ := fun H1 e o j Q q => h H1 e o j Q fun v d N H2 g j2 p r => q v d N H2 g j2 (k d p) r
theorem EvPs.imp (h : EvPs K X B ta σ φ) (k : ∀ d, φ d → ψ d) : EvPs K X B ta σ ψ := fun H1 e o j Q q => h H1 e o j Q fun v d N H2 g j2 p r => q v d N H2 g j2 (k d p) r
theorem EvP.val {v : V} {d : D} (r : Rp K B d [v]) : EvP K X B (tC v) σ (· = d) := fun H1 e _ j Q q => q v d B H1 (Grow.refl e) j rfl r
theorem EvP.var {i : Nat} {v : V} {d : D} (h : σ[i]? = some (some v)) (r : Rp K B d [v]) : EvP K X B (tVar i) σ (· = d) := fun H1 e _ j Q q => ⟨v, h, q v d B H1 (Grow.refl e) j rfl r⟩
theorem EvPs.nil : EvPs K X B tNil σ (· = .nil) := fun H1 e _ j Q q => q [] .nil B H1 (Grow.refl e) j rfl rfl
/-- the base may have grown since -/
theorem EvP.grown (h : ∀ N, Same B N → EvP K X N te σ φ) {H1 H2 : Hp} (g : Grow X B H1 N H2) (o : Off X B) (j1 : Ints X H1) (j : Ints X H2) {Q : VK} (q : ∀ v d N' H3, Grow X B H1 N' H3 → Ints X H3 → φ d → Same N N' → Rp K N' d [v] → Q v H3) : te σ H2 Q :=
  h N g.bn H2 g.nh (g.offI o j1) j Q fun v d N' H3 g2 j2 p r => q v d N' H3 (g.trans g2) j2 p g2.bn r
theorem EvPs.cons (h : EvP K X B te σ φ) (k : ∀ N, Same B N → EvPs K X N ta σ ψ) : EvPs K X B (tCons te ta) σ (fun d => ∃ x r, d = .cons x r ∧ φ x ∧ ψ r) := fun H1 e o j Q q =>
  h H1 e o j _ fun v d N H2 g j2 p r => k N g.bn H2 g.nh (g.offI o j) j2 _ fun vs ds N' H3 g2 j3 p2 r2 =>
    q (v :: vs) (.cons d ds) N' H3 (g.trans g2) j3 ⟨d, ds, rfl, p, p2⟩ ⟨v, vs, rfl, Rp.mono g2.bn r, r2⟩
theorem EvP.tup (h : EvPs K X B ta σ φ) (hl : ∀ d, φ d → d.isRow = true ∧ d.len ≤ 100000) : EvP K X B (tTup ta) σ (fun d => ∃ ds, d = .tup ds ∧ φ ds) := fun H1 e o j Q q =>
  h H1 e o j _ fun vs d N H2 g j2 p r => by
    obtain ⟨h1, h2⟩ := hl d p
    have h3 : vs.length ≤ 100000 := by rw [Rp.row_len h1 r]; exact h2
    refine ⟨Nat.le_trans h3 (by decide), fun a ha => ?_⟩
    have g2 : Grow X N H2 (upd N a (.tup vs)) (upd H2 a (.tup vs)) := Grow.new g.nh ha
    refine q (.ref a) (.tup d) _ _ (g.trans g2) (fun y m => ?_) ⟨d, rfl, p⟩ ⟨a, vs, rfl, SqT.of upd_same, h3, Rp.mono g2.bn r⟩
    obtain ⟨ns, hy⟩ := j2 y m
    exact ⟨ns, Same.upd ha y _ hy⟩
theorem EvP.lst (h : EvPs K X B ta σ φ) (hl : ∀ d, φ d → d.isRow = true ∧ d.len ≤ 100000) : EvP K X B (tLst ta) σ (fun d => ∃ ds, d = .lst ds ∧ φ ds) := fun H1 e o j Q q =>
  h H1 e o j _ fun vs d N H2 g j2 p r => by
    obtain ⟨h1, h2⟩ := hl d p
    have h3 : vs.length ≤ 100000 := by rw [Rp.row_len h1 r]; exact h2
    refine ⟨Nat.le_trans h3 (by decide), fun a ha => ?_⟩
    have g2 : Grow X N H2 (upd N a (.lst vs)) (upd H2 a (.lst vs)) := Grow.new g.nh ha
    refine q (.ref a) (.lst d) _ _ (g.trans g2) (fun y m => ?_) ⟨d, rfl, p⟩ ⟨a, vs, rfl, SqL.of upd_same, h3, Rp.mono g2.bn r⟩
    obtain ⟨ns, hy⟩ := j2 y m
    exact ⟨ns, Same.upd ha y _ hy⟩
/-! the same where the tree is told -/
theorem ed_nil : EvPs K X B tNil σ (· = .nil) := EvPs.nil
theorem ed_cons {d r : D} (h : EvP K X B te σ (· = d)) (k : ∀ N, Same B N → EvPs K X N ta σ (· = r)) : EvPs K X B (tCons te ta) σ (· = .cons d r) :=
  (EvPs.cons h k).imp fun _ ⟨_, _, e, e1, e2⟩ => by rw [e, e1, e2]
theorem ed_tup {ds : D} (h : EvPs K X B ta σ (· = ds)) (h1 : ds.isRow = true := by rfl) (h2 : ds.len ≤ 100000 := by decide) : EvP K X B (tTup ta) σ (· = .tup ds) :=
  (EvP.tup h fun d e => by rw [e]; exact ⟨h1, h2⟩).imp fun _ ⟨_, e, e1⟩ => by rw [e, e1]
theorem ed_lst {ds : D} (h : EvPs K X B ta σ (· = ds)) (h1 : ds.isRow = true := by rfl) (h2 : ds.len ≤ 100000 := by decide) : EvP K X B (tLst ta) σ (· = .lst ds) :=
  (EvP.lst h fun d e => by rw [e]; exact ⟨h1, h2⟩).imp fun _ ⟨_, e, e1⟩ => by rw [e, e1]
theorem ed_int {i : Int} : EvP K X B (tC (.int i)) σ (· = .int i) := EvP.val rfl
theorem ed_str {x : Str} : EvP K X B (tC (.str x)) σ (· = .str x) := EvP.val rfl
theorem ed_non : EvP K X B (tC .non) σ (· = .non) := EvP.val rfl
theorem ed_bl {b : Bool} : EvP K X B (tC (.bl b)) σ (· = .bl b) := EvP.val rfl
theorem ed_var {i : Nat} {v : V} {d : D} (h : σ[i]? = some (some v)) (r : Rp K B d [v]) {N : Hp} (e : Same B N) : EvP K X N (tVar i) σ (· = d) := EvP.var h (Rp.mono e r)
theorem ed_add {i j : Int} (h : EvP K X B te σ (· = .int i)) (k : ∀ N, Same B N → EvP K X N tb σ (· = .int j)) : EvP K X B (tOp (rI0 fun i j => .int (i + j)) te tb) σ (· = .int (i + j)) := fun H1 e o jj Q q =>
  h H1 e o jj _ fun v d N H2 g j2 p r => k N g.bn H2 g.nh (g.offI o jj) j2 _ fun u d' N' H3 g2 j3 p2 r2 => by
    subst p p2
    have e1 : v = .int i := by simpa [Rp] using r
    have e2 : u = .int j := by simpa [Rp] using r2
    exact ⟨i, j, e1, e2, q _ _ N' H3 (g.trans g2) j3 rfl rfl⟩
theorem ed_sub {i j : Int} (h : EvP K X B te σ (· = .int i)) (k : ∀ N, Same B N → EvP K X N tb σ (· = .int j)) : EvP K X B (tOp (rI0 fun i j => .int (i - j)) te tb) σ (· = .int (i - j)) := fun H1 e o jj Q q =>
  h H1 e o jj _ fun v d N H2 g j2 p r => k N g.bn H2 g.nh (g.offI o jj) j2 _ fun u d' N' H3 g2 j3 p2 r2 => by
    subst p p2
    have e1 : v = .int i := by simpa [Rp] using r
    have e2 : u = .int j := by simpa [Rp] using r2
    exact ⟨i, j, e1, e2, q _ _ N' H3 (g.trans g2) j3 rfl rfl⟩
end

/-! ### promises: a def that makes of trees a tree; one that pops from a list of ints besides -/
def SpD (K : PySem.W.Frag) (n : Nat) (pre : D → Prop) (post : D → D → Prop) : Sp := fun vs H Q _ => ∃ B ds, vs.length = n ∧ Same B H ∧ Rp K B ds vs ∧ pre ds ∧
  ∀ v d N H', Grow [] B H N H' → post ds d → Rp K N d [v] → Q v H'
def SpX (K : PySem.W.Frag) (n : Nat) (pre : D → Prop) (post : D → D → Prop) : Sp := fun vs H Q _ => ∃ B p us ds, vs = .ref p :: us ∧ us.length = n ∧ Same B H ∧ Off [p] B ∧ Ints [p] H ∧ Rp K B ds us ∧ pre ds ∧
  ∀ v d N H', Grow [p] B H N H' → Ints [p] H' → post ds d → Rp K N d [v] → Q v H'
section
variable {K : PySem.W.Frag} {X : List Addr} {B : Hp} {σ : St} {ta : TA} {φ : D → Prop} {pre : D → Prop} {post : D → D → Prop} {E : XK} {n : Nat}
theorem EvP.call (h : EvPs K X B ta σ φ) (hp : ∀ d, φ d → pre d ∧ d.isRow = true ∧ d.len = n) : EvP K X B (tCall (SpD K n pre post) [] E ta) σ (fun d => ∃ ds, φ ds ∧ post ds d) := fun H1 e o j Q q =>
  h H1 e o j _ fun vs ds N H2 g j2 p r => by
    obtain ⟨h1, h2, h3⟩ := hp ds p
    show SpD K n pre post (vs ++ []) H2 Q E
    rw [List.append_nil]
    refine ⟨N, ds, (Rp.row_len h2 r).trans h3, g.nh, r, h1, fun v d N' H' g2 p2 r2 => q v d N' H' (g.trans (g2.more (by simp))) (fun y m => ?_) ⟨ds, p, p2⟩ r2⟩
    obtain ⟨ns, hy⟩ := j2 y m
    exact ⟨ns, g2.same y _ hy⟩
theorem EvP.callX {p : Addr} {i : Nat} (hi : σ[i]? = some (some (.ref p))) (h : EvPs K [p] B ta σ φ) (hp : ∀ d, φ d → pre d ∧ d.isRow = true ∧ d.len = n) : EvP K [p] B (tCall (SpX K n pre post) [] E (tCons (tVar i) ta)) σ (fun d => ∃ ds, φ ds ∧ post ds d) := fun H1 e o j Q q =>
  ⟨.ref p, hi, h H1 e o j _ fun vs ds N H2 g j2 p1 r => by
    obtain ⟨h1, h2, h3⟩ := hp ds p1
    show SpX K n pre post ((.ref p :: vs) ++ []) H2 Q E
    rw [List.append_nil]
    exact ⟨N, p, vs, ds, rfl, (Rp.row_len h2 r).trans h3, g.nh, g.offI o j, j2, r, h1, fun v d N' H' g2 j3 p2 r2 => q v d N' H' (g.trans g2) j3 ⟨ds, p1, p2⟩ r2⟩⟩
end
end YF

/-! told trees: what an expression gives, over every base that has grown from B -/
namespace YF
open PySem PySem.Spec PyProof.Rows L2

def Ed (K : PySem.W.Frag) (X : List Addr) (B : Hp) (te : TE) (σ : St) (d : D) : Prop := ∀ N, Same B N → EvP K X N te σ (· = d)
def Eds (K : PySem.W.Frag) (X : List Addr) (B : Hp) (ta : TA) (σ : St) (d : D) : Prop := ∀ N, Same B N → EvPs K X N ta σ (· = d)
/-- what is known of values: their trees -/
def Env (K : PySem.W.Frag) (B : Hp) (l : List (V × D)) : Prop := ∀ p ∈ l, Rp K B p.2 [p.1]
section
variable {K : PySem.W.Frag} {X : List Addr} {B N H H2 : Hp} {σ : St} {te tb tl : TE} {ta : TA} {l : List (V × D)} {v : V} {d : D}
theorem Env.nil : Env K B [] := fun _ h => by cases h
theorem Env.add (e : Env K B l) (r : Rp K B d [v]) : Env K B ((v, d) :: l) := fun p h => by
  rcases List.mem_cons.mp h with h | h
  · rw [h]
    exact r
  · exact e p h
theorem Env.mono (e : Env K B l) (s : Same B N) : Env K N l := fun p h => Rp.mono s (e p h)
theorem Env.at_ (e : Env K B l) (i : Nat) (h : l[i]? = some (v, d)) : Rp K B d [v] := e _ (List.mem_of_getElem? h)
/-- a value's tree, at the i-th place -/
theorem ev_at (j : Nat) (e : Env K B l) {i : Nat} (hs : σ[i]? = some (some v)) (h : l[j]? = some (v, d)) : Ed K X B (tVar i) σ d := fun N s => EvP.var hs (Rp.mono s (e.at_ j h))
theorem ev_var {i : Nat} (hs : σ[i]? = some (some v)) (r : Rp K B d [v]) : Ed K X B (tVar i) σ d := fun N s => EvP.var hs (Rp.mono s r)
theorem ev_val (r : Rp K B d [v]) : Ed K X B (tC v) σ d := fun N s => EvP.val (Rp.mono s r)
theorem ev_int {i : Int} : Ed K X B (tC (.int i)) σ (.int i) := fun N s => ed_int
theorem ev_str {x : Str} : Ed K X B (tC (.str x)) σ (.str x) := fun N s => ed_str
theorem ev_non : Ed K X B (tC .non) σ .non := fun N s => ed_non
theorem ev_bl {b : Bool} : Ed K X B (tC (.bl b)) σ (.bl b) := fun N s => ed_bl
theorem ev_nil : Eds K X B tNil σ .nil := fun N s => EvPs.nil
theorem ev_cons {d r : D} (h : Ed K X B te σ d) (k : Eds K X B ta σ r) : Eds K X B (tCons te ta) σ (.cons d r) := fun N s => ed_cons (h N s) fun N' s' => k N' (s.trans s')
theorem ev_tup {ds : D} (h : Eds K X B ta σ ds) (h1 : ds.isRow = true := by rfl) (h2 : ds.len ≤ 100000 := by first | decide | simp [D.len]) : Ed K X B (tTup ta) σ (.tup ds) := fun N s => ed_tup (h N s) h1 h2
theorem ev_lst {ds : D} (h : Eds K X B ta σ ds) (h1 : ds.isRow = true := by rfl) (h2 : ds.len ≤ 100000 := by first | decide | simp [D.len]) : Ed K X B (tLst ta) σ (.lst ds) := fun N s => ed_lst (h N s) h1 h2
theorem ev_add {i j : Int} (h : Ed K X B te σ (.int i)) (k : Ed K X B tb σ (.int j)) : Ed K X B (tOp (rI0 fun i j => .int (i + j)) te tb) σ (.int (i + j)) := fun N s => ed_add (h N s) fun N' s' => k N' (s.trans s')
theorem ev_sub {i j : Int} (h : Ed K X B te σ (.int i)) (k : Ed K X B tb σ (.int j)) : Ed K X B (tOp (rI0 fun i j => .int (i - j)) te tb) σ (.int (i - j)) := fun N s => ed_sub (h N s) fun N' s' => k N' (s.trans s')
/-- an item of a tuple that stands -/
theorem ev_ixT {a : Addr} {xs : List V} {ds : D} {i : Int} {c : D} {u : V} (hv : Ed K X B te σ (.tup ds)) (hi : Ed K X B tb σ (.int i)) (h : ∀ N xs, Rp K N ds xs → ∃ u, atI xs i = some u ∧ Rp K N c [u]) : Ed K X B (tOp (rIxT K) te tb) σ c := fun N s H1 e o j Q q =>
  hv N s H1 e o j _ fun v d N2 H2 g j2 p r => hi N2 (s.trans g.bn) H2 g.nh (g.offI o j) j2 _ fun w d' N3 H3 g3 j3 p3 r3 => by
    subst p p3
    obtain ⟨a, xs, e1, r1, _, r2⟩ := r
    have e2 : w = .int i := by simpa [Rp] using r3
    obtain ⟨u, h1, h2⟩ := h N3 xs (Rp.mono g3.bn r2)
    exact ⟨a, xs, i, u, (List.cons.inj e1).1, e2, Same.sqT (g3.bn.trans g3.nh) r1, h1, q u c N3 H3 (g.trans g3) j3 rfl h2⟩
theorem ev_ixL {ds : D} {i : Int} {c : D} (hv : Ed K X B te σ (.lst ds)) (hi : Ed K X B tb σ (.int i)) (h : ∀ N xs, Rp K N ds xs → ∃ u, atI xs i = some u ∧ Rp K N c [u]) : Ed K X B (tOp (rIxL K) te tb) σ c := fun N s H1 e o j Q q =>
  hv N s H1 e o j _ fun v d N2 H2 g j2 p r => hi N2 (s.trans g.bn) H2 g.nh (g.offI o j) j2 _ fun w d' N3 H3 g3 j3 p3 r3 => by
    subst p p3
    obtain ⟨a, xs, e1, r1, _, r2⟩ := r
    have e2 : w = .int i := by simpa [Rp] using r3
    obtain ⟨u, h1, h2⟩ := h N3 xs (Rp.mono g3.bn r2)
    exact ⟨a, xs, i, u, (List.cons.inj e1).1, e2, Same.sqL (g3.bn.trans g3.nh) r1, h1, q u c N3 H3 (g.trans g3) j3 rfl h2⟩
/-- a def that makes of trees the tree that f says -/
def SpG (K : PySem.W.Frag) (n : Nat) (pre : D → Prop) (f : D → D) : Sp := SpD K n (fun ds => ds.isRow = true ∧ ds.len = n ∧ pre ds) (fun ds d => d = f ds)
theorem ev_call {ds d : D} {pre : D → Prop} {f : D → D} {E : XK} {n : Nat} (h : Eds K X B ta σ ds) (hp : pre ds) (h1 : ds.isRow = true := by rfl) (h2 : ds.len = n := by rfl) (h3 : f ds = d := by rfl) : Ed K X B (tCall (SpG K n pre f) [] E ta) σ d := fun N s =>
  (EvP.call (h N s) fun d e => by subst e; exact ⟨⟨h1, h2, hp⟩, h1, h2⟩).imp fun _ ⟨_, e, e1⟩ => by rw [e1, e, h3]
theorem ev_tupX {ds : D} (h : Eds K X B ta σ ds) (h1 : ds.isRow = true) (h2 : ds.len ≤ 100000) : Ed K X B (tTup ta) σ (.tup ds) := ev_tup h h1 h2
theorem ev_lstX {ds : D} (h : Eds K X B ta σ ds) (h1 : ds.isRow = true) (h2 : ds.len ≤ 100000) : Ed K X B (tLst ta) σ (.lst ds) := ev_lst h h1 h2
theorem ev_callX {ds d : D} {pre : D → Prop} {f : D → D} {E : XK} {n : Nat} (h : Eds K X B ta σ ds) (hp : pre ds) (h1 : ds.isRow = true) (h2 : ds.len = n) (h3 : f ds = d) : Ed K X B (tCall (SpG K n pre f) [] E ta) σ d := ev_call h hp h1 h2 h3

/-! statements -/
theorem Ed.go {Q : VK} (h : Ed K X B te σ d) (s : Same B H) (o : Off X B) (j : Ints X H) (k : ∀ v N H2, Grow X B H N H2 → Ints X H2 → Rp K N d [v] → Q v H2) : te σ H Q :=
  h B (Same.refl B) H s o j Q fun v d' N H2 g j2 p r => by subst p; exact k v N H2 g j2 r
variable {E : Ends} {rest : TS} {i : Nat}
theorem go_ret (h : Ed K X B te σ d) (s : Same B H) (o : Off X B) (j : Ints X H) (k : ∀ v N H2, Grow X B H N H2 → Ints X H2 → Rp K N d [v] → E.rt v H2) : tRet te E σ H := h.go s o j k
theorem go_asg (h : Ed K X B te σ d) (s : Same B H) (o : Off X B) (j : Ints X H) (e : Env K B l) (k : ∀ v N H2, Grow X B H N H2 → Ints X H2 → Env K N ((v, d) :: l) → rest E (σ.set i (some v)) H2) : tSeq (tAsg te (gName i)) rest E σ H :=
  h.go s o j fun v N H2 g j2 r => k v N H2 g j2 ((e.mono g.bn).add r)
theorem go_next (h : E.nx σ H) : tNext E σ H := h
theorem no_ints : Ints [] H := fun _ h => by cases h
theorem no_off : Off [] B := fun _ h => by cases h
/-- a def's arguments: a row of one, two, three trees -/
theorem row1 {ds : D} {vs : List V} (h : ds.isRow = true ∧ ds.len = 1) (r : Rp K B ds vs) : ∃ a v, ds = .cons a .nil ∧ vs = [v] ∧ Env K B [(v, a)] := by
  obtain ⟨h1, h2⟩ := h
  match ds, h1, h2, r with
  | .cons a .nil, _, _, ⟨v, us, e, r1, r2⟩ =>
    have e2 : us = [] := r2
    subst e e2
    exact ⟨a, v, rfl, rfl, Env.nil.add r1⟩
theorem row2 {ds : D} {vs : List V} (h : ds.isRow = true ∧ ds.len = 2) (r : Rp K B ds vs) : ∃ a b v w, ds = .cons a (.cons b .nil) ∧ vs = [v, w] ∧ Env K B [(v, a), (w, b)] := by
  obtain ⟨h1, h2⟩ := h
  match ds, h1, h2, r with
  | .cons a (.cons b .nil), _, _, ⟨v, us, e, r1, w, us', e', r1', r2⟩ =>
    have e2 : us' = [] := r2
    subst e e' e2
    exact ⟨a, b, v, w, rfl, rfl, (Env.nil.add r1').add r1⟩
theorem row3 {ds : D} {vs : List V} (h : ds.isRow = true ∧ ds.len = 3) (r : Rp K B ds vs) : ∃ a b c v w x, ds = .cons a (.cons b (.cons c .nil)) ∧ vs = [v, w, x] ∧ Env K B [(v, a), (w, b), (x, c)] := by
  obtain ⟨h1, h2⟩ := h
  match ds, h1, h2, r with
  | .cons a (.cons b (.cons c .nil)), _, _, ⟨v, us, e, r1, w, us', e', r1', x, us2, e3, r3, r2⟩ =>
    have e2 : us2 = [] := r2
    subst e e' e3 e2
    exact ⟨a, b, c, v, w, x, rfl, rfl, ((Env.nil.add r3).add r1').add r1⟩
/-- what a def's end asks -/
theorem SpD.len {n : Nat} {pre : D → Prop} {post : D → D → Prop} {vs : List V} {Q : VK} {E : XK} (h : SpD K n pre post vs H Q E) : vs.length = n := by
  obtain ⟨_, _, e, _⟩ := h
  exact e
end
end YF

namespace YF
open PySem PySem.Spec PyProof.Rows L2
section
variable {X : Cx} {C : Addr} {bmB : List Value} {B newId initId : String}
/-- X(), an own exception class without __init__, made of nothing -/
theorem pmk_none {x : Str} {p pos : Pos} (F : ExcBaseFacts B newId initId bmB) (q : PySem.W.excIn X.K C bmB newId = true) (gC : X.mg x = some (.ref C)) (kC : PySem.W.keepIn X.K (.ref C) = true) (r : Raises X (.ref C)) (hg : Gl X x)
    (hdb : (x == ("__debug__" : Str)) = false := by decide) : PMk X (.Call (.Name x p) [] [] pos) (fun _ H Q => Q (.ref C) none H) := fun pins s σ H Q I h => by
  refine wpAny_Call_Name_kw (ld_glob I hg gC (PySem.W.callWith_K0 I.kIn kC ?_) hdb)
  obtain ⟨bm, N, nm, qn, bs, hdct, sn, sub, ab, col, dd, k0, k1, k2, k3, k5, mN, h1, h2, h3, h4⟩ := exc_obj I.kIn q
  exact wpAny_call_exc_subT F h4 h1 h2 h3 (fun h' e hm => mk_of I hm r h (I.hok.gone hm.new)) (Nat.zero_le _)
end
/-- a call of what stands at a place of a list: the def is told by its address -/
def tCallE (te : TE) (S : Addr → Sp → Prop) (E : St → XK) (t : TA) : TE := fun σ H Q => te σ H fun v H1 => ∃ f sp, v = .ref f ∧ S f sp ∧ t σ H1 fun vs H2 => sp vs H2 Q (E σ)
theorem call_sub (e i : Expr) (p2 : Pos) (args : List Expr) (pos : Pos) (env : PySem.Env) : eval (.Call (.Subscript e i p2) args [] pos) env = (do
    callWith pos (← eval (.Subscript e i p2) env) [] (backTo pos (starEach args env)) (backToKw pos (keywordEach [] env))) := rfl
theorem pe_callE {X : Cx} {e0 i0 : Expr} {p2 pos : Pos} {te : TE} {S : Addr → Sp → Prop} {E : St → XK} {e : Expr} {es : List Expr} {t : TA} {CX : CXT} {k : Nat} (he : PE X (.Subscript e0 i0 p2) te)
    (hS : ∀ f sp, S f sp → ∃ (fd : FuncData) (ps : List Str), FnOk X.prog X.w X.K X.mg X.base CX k f fd ps sp ∧ PySem.W.keepIn X.K (.ref f) = true ∧ Binds X.K fd ps []) (hr : Room k X.A) (hx : ∀ σ, PassesAt CX X σ (E σ)) (ha : PA X (e :: es) t)
    (hst : starEach (e :: es) X.env = (false, eval e X.env) :: starEach es X.env := by rfl) (hpl : (backTo pos (starEach es X.env)).any (·.1) = false := by rfl) : PE X (.Call (.Subscript e0 i0 p2) (e :: es) [] pos) (tCallE te S E t) := by
  refine ⟨fun pins s σ H Q I h => ?_⟩
  rw [call_sub]
  refine wpAny_bind (thn (he.run pins s σ H _ I h) fun u s1 ⟨v, H1, I1, r1, f, sp, ev, hs, q⟩ => ?_)
  subst ev
  cases r1
  obtain ⟨fd, ps, F, hk, hb⟩ := hS f sp hs
  refine PySem.W.callWith_K (h₀ := X.base) I1.ok.mod.kin hk (thn (ha.run pos pins s1 σ H1 _ I1 q) fun us s2 ⟨vs, H2, I2, r2, q2⟩ => ⟨I2.kIn, ?_⟩) hst hpl
  exact run_fnS F hr hb (hx σ) I2 r2 q2
end YF

/-! readings that leave the heap as it is: Te gives a value, Tt a truth value -/
namespace YF
open PySem PySem.Spec PyProof.Rows L2
def Te (te : TE) (σ : St) (H : Hp) (v : V) : Prop := ∀ Q : VK, Q v H → te σ H Q
def Tt (t : TT) (σ : St) (H : Hp) (b : Bool) : Prop := ∀ Q : Bool → Hp → Prop, Q b H → t σ H Q
section
variable {K : PySem.W.Frag} {σ : St} {H : Hp} {ta tb te : TE} {t u : TT} {x y z v : V} {a b : Bool} {i j : Int}
theorem te_var {i : Nat} (h : σ[i]? = some (some v)) : Te (tVar i) σ H v := fun Q q => ⟨v, h, q⟩
theorem te_c : Te (tC v) σ H v := fun Q q => q
theorem te_i0 {g : Int → Int → V} (ha : Te ta σ H (.int i)) (hb : Te tb σ H (.int j)) : Te (tOp (rI0 g) ta tb) σ H (g i j) := fun Q q => ha _ (hb _ ⟨i, j, rfl, rfl, q⟩)
theorem te_i {C : Int → Int → Prop} {g : Int → Int → V} (ha : Te ta σ H (.int i)) (hb : Te tb σ H (.int j)) (hc : C i j) : Te (tOp (rI C g) ta tb) σ H (g i j) := fun Q q => ha _ (hb _ ⟨i, j, rfl, rfl, hc, q⟩)
theorem te_eq (ha : Te ta σ H x) (hb : Te tb σ H y) (hs : scal x y = true) : Te (tOp rEq ta tb) σ H (.bl (decide (x = y))) := fun Q q => ha _ (hb _ ⟨hs, q⟩)
theorem te_ne (ha : Te ta σ H x) (hb : Te tb σ H y) (hs : scal x y = true) : Te (tOp rNe ta tb) σ H (.bl (!decide (x = y))) := fun Q q => ha _ (hb _ ⟨hs, q⟩)
theorem te_len {p : Addr} {xs : List V} (ha : Te te σ H (.ref p)) (h : SqL K H p xs ∨ SqT K H p xs) : Te (tCB (fun vs H Q => ∃ p ys, vs = [.ref p] ∧ (SqL K H p ys ∨ SqT K H p ys) ∧ Q (.int ys.length) H) (tCons te tNil)) σ H (.int (xs.length : Int)) := fun Q q => ha _ ⟨p, xs, rfl, h, q⟩
theorem te_lens {w : Str} (ha : Te te σ H (.str w)) (h : w.length ≤ sizeLine) : Te (tCB (fun xs H Q => ∃ z, xs = [V.str z] ∧ z.length ≤ sizeLine ∧ Q (.int z.length) H) (tCons te tNil)) σ H (.int (w.length : Int)) := fun Q q => ha _ ⟨w, rfl, h, q⟩
theorem tt_test (h : Te te σ H (.bl b)) : Tt (tTest te) σ H b := fun Q q => h _ ⟨b, rfl, q⟩
theorem tt_b (h : Te te σ H (.bl b)) : Tt (tB te) σ H b := fun Q q => h _ ⟨b, rfl, q⟩
theorem tt_and (h1 : Tt t σ H a) (h2 : a = true → Tt u σ H b) : Tt (tAnd t u) σ H (a && b) := fun Q q => h1 _ (by
  cases a with
  | true => exact h2 rfl Q q
  | false => exact q)
theorem tt_or (h1 : Tt t σ H a) (h2 : a = false → Tt u σ H b) : Tt (tOr t u) σ H (a || b) := fun Q q => h1 _ (by
  cases a with
  | true => exact q
  | false => exact h2 rfl Q q)
theorem tt_not (h : Tt t σ H a) : Tt (tNot t) σ H (!a) := fun Q q => h _ q
variable {D : Ends} {tu tw rest : TS}
theorem if_go (h : Tt t σ H b) (h1 : b = true → tu D σ H) (h2 : b = false → tw D σ H) : tIfS t tu tw D σ H := h _ (by
  cases b with
  | true => exact h1 rfl
  | false => exact h2 rfl)
/-- if t: (leaves); then the rest -/
theorem if_seq (h : Tt t σ H b) (h1 : b = true → tu { D with nx := rest D } σ H) (h2 : b = false → rest D σ H) : tSeq (tIfS t tu tNext) rest D σ H := if_go h h1 h2
theorem ret_te (h : Te te σ H v) (k : D.rt v H) : tRet te D σ H := h _ k
theorem asg_te {i : Nat} (h : Te te σ H v) (k : rest D (σ.set i (some v)) H) : tSeq (tAsg te (gName i)) rest D σ H := h _ k
end
end YF

namespace K07
open PySem L2 YF
local macro_rules | `(tactic| walk_at "rd1") => `(tactic| first
  | refine ⟨_, _, rfl, rfl, ?_⟩
  | refine ⟨_, rfl, ?_⟩
  | refine ⟨(show CPow _ _ from ⟨by decide, by decide, by decide⟩), ?_⟩
  | refine ⟨(show CMul _ _ from Or.inr ⟨by decide, by decide⟩), ?_⟩
  | refine ⟨(show CDiv _ _ from ⟨by decide, by decide⟩), ?_⟩
  | refine ⟨(by show (0 : Int) < _; decide), ?_⟩
  | refine Or.inl ⟨_, rfl, ?_⟩)
local macro_rules | `(tactic| walk_at "rd") => `(tactic| repeat (walk_at "rd1"))
def topS (i : Nat) : Stmt := PySem.Challenge.pw_handshaker_k07_library_cells_and_blocks.main.body.getD i (.Pass ⟨0, 0, 0, 0⟩)
abbrev s_semaphore : Stmt := topS 7
theorem sc_semaphore : FnScope ["name", "n"] ["name", "n"] (defScope s_semaphore) := ⟨rfl, rfl, rfl, by decide +kernel, rfl, by decide +kernel, by decide +kernel⟩
abbrev s_barrier : Stmt := topS 8
theorem sc_barrier : FnScope ["name", "n"] ["name", "n"] (defScope s_barrier) := ⟨rfl, rfl, rfl, by decide +kernel, rfl, by decide +kernel, by decide +kernel⟩
abbrev s_channel : Stmt := topS 9
theorem sc_channel : FnScope ["name", "n"] ["name", "n"] (defScope s_channel) := ⟨rfl, rfl, rfl, by decide +kernel, rfl, by decide +kernel, by decide +kernel⟩
abbrev s_exchange : Stmt := topS 10
theorem sc_exchange : FnScope ["name"] ["name"] (defScope s_exchange) := ⟨rfl, rfl, rfl, by decide +kernel, rfl, by decide +kernel, by decide +kernel⟩
abbrev s_take : Stmt := topS 11
theorem sc_take : FnScope ["name", "cell"] ["name"] (defScope s_take) := ⟨rfl, rfl, rfl, by decide +kernel, rfl, by decide +kernel, by decide +kernel⟩
abbrev s_give : Stmt := topS 12
theorem sc_give : FnScope ["name"] ["name"] (defScope s_give) := ⟨rfl, rfl, rfl, by decide +kernel, rfl, by decide +kernel, by decide +kernel⟩
abbrev s_meet : Stmt := topS 13
theorem sc_meet : FnScope ["name", "n", "x", "come", "rounds", "last", "earlier"] ["name", "n", "x"] (defScope s_meet) := ⟨rfl, rfl, rfl, by decide +kernel, rfl, by decide +kernel, by decide +kernel⟩
abbrev s_send : Stmt := topS 14
theorem sc_send : FnScope ["name", "n", "expression", "place", "items"] ["name", "n", "expression"] (defScope s_send) := ⟨rfl, rfl, rfl, by decide +kernel, rfl, by decide +kernel, by decide +kernel⟩
abbrev s_receive : Stmt := topS 15
theorem sc_receive : FnScope ["name", "n", "x", "place", "items"] ["name", "n", "x"] (defScope s_receive) := ⟨rfl, rfl, rfl, by decide +kernel, rfl, by decide +kernel, by decide +kernel⟩
abbrev s_swap : Stmt := topS 16
theorem sc_swap : FnScope ["name", "x", "role", "stage", "wait", "come", "answered", "second"] ["name", "x", "role"] (defScope s_swap) := ⟨rfl, rfl, rfl, by decide +kernel, rfl, by decide +kernel, by decide +kernel⟩
abbrev s_block : Stmt := topS 17
theorem sc_block : FnScope ["body"] ["body"] (defScope s_block) := ⟨rfl, rfl, rfl, by decide +kernel, rfl, by decide +kernel, by decide +kernel⟩
abbrev s_retry_if : Stmt := topS 18
theorem sc_retry_if : FnScope ["expression"] ["expression"] (defScope s_retry_if) := ⟨rfl, rfl, rfl, by decide +kernel, rfl, by decide +kernel, by decide +kernel⟩
abbrev s_one_more : Stmt := topS 19
theorem sc_one_more : FnScope ["expression"] ["expression"] (defScope s_one_more) := ⟨rfl, rfl, rfl, by decide +kernel, rfl, by decide +kernel, by decide +kernel⟩
abbrev s_law_draws : Stmt := topS 21
theorem sc_law_draws : FnScope ["script", "draws", "cell", "number", "first", "k", "seed"] ["script"] (defScope s_law_draws) := ⟨rfl, rfl, rfl, by decide +kernel, rfl, by decide +kernel, by decide +kernel⟩
abbrev s_law_take : Stmt := topS 22
theorem sc_law_take : FnScope ["draws", "bound"] ["draws", "bound"] (defScope s_law_take) := ⟨rfl, rfl, rfl, by decide +kernel, rfl, by decide +kernel, by decide +kernel⟩
abbrev s_law_same : Stmt := topS 23
theorem sc_law_same : FnScope ["actual", "due", "k"] ["actual", "due"] (defScope s_law_same) := ⟨rfl, rfl, rfl, by decide +kernel, rfl, by decide +kernel, by decide +kernel⟩
abbrev s_law_keys : Stmt := topS 24
theorem sc_law_keys : FnScope ["words"] [] (defScope s_law_keys) := ⟨rfl, rfl, rfl, by decide +kernel, rfl, by decide +kernel, by decide +kernel⟩
abbrev s_law_names : Stmt := topS 25
theorem sc_law_names : FnScope ["draws", "many", "letters", "names", "k", "name", "j"] ["draws", "many"] (defScope s_law_names) := ⟨rfl, rfl, rfl, by decide +kernel, rfl, by decide +kernel, by decide +kernel⟩
abbrev s_law_number : Stmt := topS 26
theorem sc_law_number : FnScope ["draws"] ["draws"] (defScope s_law_number) := ⟨rfl, rfl, rfl, by decide +kernel, rfl, by decide +kernel, by decide +kernel⟩
abbrev s_law_exp : Stmt := topS 27
theorem sc_law_exp : FnScope ["draws", "variables", "cells", "depth", "kind", "name", "words", "first"] ["draws", "variables", "cells", "depth"] (defScope s_law_exp) := ⟨rfl, rfl, rfl, by decide +kernel, rfl, by decide +kernel, by decide +kernel⟩
abbrev s_law_cell : Stmt := topS 28
theorem sc_law_cell : FnScope ["name", "n"] ["name", "n"] (defScope s_law_cell) := ⟨rfl, rfl, rfl, by decide +kernel, rfl, by decide +kernel, by decide +kernel⟩
abbrev s_law_put : Stmt := topS 29
theorem sc_law_put : FnScope ["name", "n", "exp"] ["name", "n", "exp"] (defScope s_law_put) := ⟨rfl, rfl, rfl, by decide +kernel, rfl, by decide +kernel, by decide +kernel⟩
abbrev s_law_retry : Stmt := topS 30
theorem sc_law_retry : FnScope ["exp"] ["exp"] (defScope s_law_retry) := ⟨rfl, rfl, rfl, by decide +kernel, rfl, by decide +kernel, by decide +kernel⟩
abbrev s_law_plus : Stmt := topS 31
theorem sc_law_plus : FnScope ["exp", "n"] ["exp", "n"] (defScope s_law_plus) := ⟨rfl, rfl, rfl, by decide +kernel, rfl, by decide +kernel, by decide +kernel⟩
abbrev s_law_refused : Stmt := topS 32
theorem sc_law_refused : FnScope ["kind", "name", "n", "e"] ["kind", "name", "n"] (defScope s_law_refused) := ⟨rfl, rfl, rfl, by decide +kernel, rfl, by decide +kernel, by decide +kernel⟩
abbrev s_law : Stmt := topS 33
theorem sc_law : FnScope ["script", "draws", "names", "name", "n", "one", "cell", "body", "full", "come", "wait", "exp", "first", "many", "waits", "comes", "ends", "due", "k", "low"] ["script"] (defScope s_law) := ⟨rfl, rfl, rfl, by decide +kernel, rfl, by decide +kernel, by decide +kernel⟩
structure Adr where
  a_semaphore : Addr
  d_semaphore : FuncData
  a_barrier : Addr
  d_barrier : FuncData
  a_channel : Addr
  d_channel : FuncData
  a_exchange : Addr
  d_exchange : FuncData
  a_take : Addr
  d_take : FuncData
  a_give : Addr
  d_give : FuncData
  a_meet : Addr
  d_meet : FuncData
  a_send : Addr
  d_send : FuncData
  a_receive : Addr
  d_receive : FuncData
  a_swap : Addr
  d_swap : FuncData
  a__block : Addr
  d__block : FuncData
  a__retry_if : Addr
  d__retry_if : FuncData
  a__one_more : Addr
  d__one_more : FuncData
  a__law_draws : Addr
  d__law_draws : FuncData
  a__law_take : Addr
  d__law_take : FuncData
  a__law_same : Addr
  d__law_same : FuncData
  a__law_keys : Addr
  d__law_keys : FuncData
  a__law_names : Addr
  d__law_names : FuncData
  a__law_number : Addr
  d__law_number : FuncData
  a__law_exp : Addr
  d__law_exp : FuncData
  a__law_cell : Addr
  d__law_cell : FuncData
  a__law_put : Addr
  d__law_put : FuncData
  a__law_retry : Addr
  d__law_retry : FuncData
  a__law_plus : Addr
  d__law_plus : FuncData
  a__law_refused : Addr
  d__law_refused : FuncData
  a_law : Addr
  d_law : FuncData
  a_ZERO : Addr
  a_ONE : Addr
  a_TWO : Addr
  a_InvalidCount : Addr
structure Txt (K : PySem.W.Frag) (mg : Str → Option Value) (A : Adr) : Prop where
  F_semaphore : Fun K "semaphore" "semaphore" s_semaphore A.a_semaphore A.d_semaphore
  b_semaphore : Binds K A.d_semaphore ["name", "n"] []
  g_semaphore : mg "semaphore" = some (.ref A.a_semaphore)
  F_barrier : Fun K "barrier" "barrier" s_barrier A.a_barrier A.d_barrier
  b_barrier : Binds K A.d_barrier ["name", "n"] []
  g_barrier : mg "barrier" = some (.ref A.a_barrier)
  F_channel : Fun K "channel" "channel" s_channel A.a_channel A.d_channel
  b_channel : Binds K A.d_channel ["name", "n"] []
  g_channel : mg "channel" = some (.ref A.a_channel)
  F_exchange : Fun K "exchange" "exchange" s_exchange A.a_exchange A.d_exchange
  b_exchange : Binds K A.d_exchange ["name"] []
  g_exchange : mg "exchange" = some (.ref A.a_exchange)
  F_take : Fun K "take" "take" s_take A.a_take A.d_take
  b_take : Binds K A.d_take ["name"] []
  g_take : mg "take" = some (.ref A.a_take)
  F_give : Fun K "give" "give" s_give A.a_give A.d_give
  b_give : Binds K A.d_give ["name"] []
  g_give : mg "give" = some (.ref A.a_give)
  F_meet : Fun K "meet" "meet" s_meet A.a_meet A.d_meet
  b_meet : Binds K A.d_meet ["name", "n", "x"] []
  g_meet : mg "meet" = some (.ref A.a_meet)
  F_send : Fun K "send" "send" s_send A.a_send A.d_send
  b_send : Binds K A.d_send ["name", "n", "expression"] []
  g_send : mg "send" = some (.ref A.a_send)
  F_receive : Fun K "receive" "receive" s_receive A.a_receive A.d_receive
  b_receive : Binds K A.d_receive ["name", "n", "x"] []
  g_receive : mg "receive" = some (.ref A.a_receive)
  F_swap : Fun K "swap" "swap" s_swap A.a_swap A.d_swap
  b_swap : Binds K A.d_swap ["name", "x", "role"] []
  g_swap : mg "swap" = some (.ref A.a_swap)
  F__block : Fun K "_block" "_block" s_block A.a__block A.d__block
  b__block : Binds K A.d__block ["body"] []
  g__block : mg "_block" = some (.ref A.a__block)
  F__retry_if : Fun K "_retry_if" "_retry_if" s_retry_if A.a__retry_if A.d__retry_if
  b__retry_if : Binds K A.d__retry_if ["expression"] []
  g__retry_if : mg "_retry_if" = some (.ref A.a__retry_if)
  F__one_more : Fun K "_one_more" "_one_more" s_one_more A.a__one_more A.d__one_more
  b__one_more : Binds K A.d__one_more ["expression"] []
  g__one_more : mg "_one_more" = some (.ref A.a__one_more)
  F__law_draws : Fun K "_law_draws" "_law_draws" s_law_draws A.a__law_draws A.d__law_draws
  b__law_draws : Binds K A.d__law_draws ["script"] []
  g__law_draws : mg "_law_draws" = some (.ref A.a__law_draws)
  F__law_take : Fun K "_law_take" "_law_take" s_law_take A.a__law_take A.d__law_take
  b__law_take : Binds K A.d__law_take ["draws", "bound"] []
  g__law_take : mg "_law_take" = some (.ref A.a__law_take)
  F__law_same : Fun K "_law_same" "_law_same" s_law_same A.a__law_same A.d__law_same
  b__law_same : Binds K A.d__law_same ["actual", "due"] []
  g__law_same : mg "_law_same" = some (.ref A.a__law_same)
  F__law_keys : Fun K "_law_keys" "_law_keys" s_law_keys A.a__law_keys A.d__law_keys
  b__law_keys : Binds K A.d__law_keys [] []
  g__law_keys : mg "_law_keys" = some (.ref A.a__law_keys)
  F__law_names : Fun K "_law_names" "_law_names" s_law_names A.a__law_names A.d__law_names
  b__law_names : Binds K A.d__law_names ["draws", "many"] []
  g__law_names : mg "_law_names" = some (.ref A.a__law_names)
  F__law_number : Fun K "_law_number" "_law_number" s_law_number A.a__law_number A.d__law_number
  b__law_number : Binds K A.d__law_number ["draws"] []
  g__law_number : mg "_law_number" = some (.ref A.a__law_number)
  F__law_exp : Fun K "_law_exp" "_law_exp" s_law_exp A.a__law_exp A.d__law_exp
  b__law_exp : Binds K A.d__law_exp ["draws", "variables", "cells", "depth"] []
  g__law_exp : mg "_law_exp" = some (.ref A.a__law_exp)
  F__law_cell : Fun K "_law_cell" "_law_cell" s_law_cell A.a__law_cell A.d__law_cell
  b__law_cell : Binds K A.d__law_cell ["name", "n"] []
  g__law_cell : mg "_law_cell" = some (.ref A.a__law_cell)
  F__law_put : Fun K "_law_put" "_law_put" s_law_put A.a__law_put A.d__law_put
  b__law_put : Binds K A.d__law_put ["name", "n", "exp"] []
  g__law_put : mg "_law_put" = some (.ref A.a__law_put)
  F__law_retry : Fun K "_law_retry" "_law_retry" s_law_retry A.a__law_retry A.d__law_retry
  b__law_retry : Binds K A.d__law_retry ["exp"] []
  g__law_retry : mg "_law_retry" = some (.ref A.a__law_retry)
  F__law_plus : Fun K "_law_plus" "_law_plus" s_law_plus A.a__law_plus A.d__law_plus
  b__law_plus : Binds K A.d__law_plus ["exp", "n"] []
  g__law_plus : mg "_law_plus" = some (.ref A.a__law_plus)
  F__law_refused : Fun K "_law_refused" "_law_refused" s_law_refused A.a__law_refused A.d__law_refused
  b__law_refused : Binds K A.d__law_refused ["kind", "name", "n"] []
  g__law_refused : mg "_law_refused" = some (.ref A.a__law_refused)
  F_law : Fun K "law" "law" s_law A.a_law A.d_law
  b_law : Binds K A.d_law ["script"] []
  g_law : mg "law" = some (.ref A.a_law)
  n_len : mg "len" = none
  n_abs : mg "abs" = none
  n_int : mg "int" = none
  n_list : mg "list" = none
  n_reversed : mg "reversed" = none
  n_range : mg "range" = none
  n_isinstance : mg "isinstance" = none
  n_tuple : mg "tuple" = none
  n_str : mg "str" = none
  n_bool : mg "bool" = none
  n_ValueError : mg "ValueError" = none
  g_ZERO : mg "ZERO" = some (.ref A.a_ZERO)
  g_ONE : mg "ONE" = some (.ref A.a_ONE)
  g_TWO : mg "TWO" = some (.ref A.a_TWO)
  z_ZERO : ∀ H, SqT K H A.a_ZERO [.str "number", .int 0]
  z_ONE : ∀ H, SqT K H A.a_ONE [.str "number", .int 1]
  z_TWO : ∀ H, SqT K H A.a_TWO [.str "number", .int 2]
  g_InvalidCount : mg "InvalidCount" = some (.ref A.a_InvalidCount)
  x_IC : PySem.W.excIn K A.a_InvalidCount [.type "ValueError", .type "Exception", .type "BaseException", .type "object"] "ValueError.__new__" = true
  k_IC : PySem.W.keepIn K (.ref A.a_InvalidCount) = true
  b_IC : PySem.W.subIn K (.ref A.a_InvalidCount) (.type "BaseException") = some true
  t_IC : PySem.W.typeIn K (.ref A.a_InvalidCount) = some (.type "type")
  i_IC : PySem.W.isClsIn K A.a_InvalidCount = true
  s_IC : PySem.W.subIn K (.ref A.a_InvalidCount) (.ref A.a_InvalidCount) = some true
  e_IC : ExcC K A.a_InvalidCount
  v_IC : PySem.W.kitOne K (.ref A.a_InvalidCount) (.type "ValueError") = some true
section
variable {P : Program} {w : World} {K : PySem.W.Frag} {mg : Str → Option Value} {base : Heap} {A : Adr}
/-! ### draws -/
def DrawAt (H0 H : Hp) (p : Addr) (n : Nat) : Prop := Same H0 H ∧ H0 p = none ∧ ∃ ms : List Int, H p = some (.lst (ms.map V.int)) ∧ ms.length ≤ n
theorem DrawAt.add {H0 H : Hp} {p : Addr} {n : Nat} (h : DrawAt H0 H p n) (z : Int) {R : Hp → Prop} (hn : n < 100000) (k : ∀ H', DrawAt H0 H' p (n + 1) → R H') :
    ∃ l xs y, V.ref p = .ref l ∧ [V.int z] = [y] ∧ H l = some (.lst xs) ∧ xs.length < sizeLine ∧ R (upd H l (.lst (xs ++ [y]))) := by
  obtain ⟨h1, h2, ms, h3, h4⟩ := h
  refine ⟨p, _, _, rfl, rfl, h3, ?_, k _ ⟨Same.wr h1 h2, h2, ms ++ [z], by rw [upd_same, List.map_append]; rfl, by rw [List.length_append]; simpa using h4⟩⟩
  rw [List.length_map]
  exact Nat.lt_of_le_of_lt h4 (Nat.lt_of_lt_of_le hn (by decide))
def spDraws (K : PySem.W.Frag) : Sp := fun vs H Q _ => ∃ (a : Addr) (ns : List Int), vs = [.ref a] ∧ SqL K H a (ns.map V.int) ∧ ns.length ≤ 63 ∧
  ∀ (p : Addr) (ms : List Int) (H' : Hp), Same H H' → H p = none → H' p = some (.lst (ms.map V.int)) → Q (.ref p) H'
theorem ok_law_draws (T : Txt K mg A) : FnOk P w K mg base CX0 1 A.a__law_draws A.d__law_draws ["script"] (spDraws K) := by
  refine T.F__law_draws.ok sc_law_draws (fun vs H Q E h => ?_) (fun cdv A' outer s H vs Q E hr h => ?_)
  · obtain ⟨a, ns, rfl, _⟩ := h
    rfl
  · obtain ⟨a, ns, rfl, hS, hlen, k⟩ := h
    refine ⟨_, pss_cons (ps_set (i := 1) sc_law_draws.nd rfl (Or.inl rfl) (pe_lst pa_nil))
  (pss_cons (ps_for PassesOwn.never rfl (pi_list (pv 0)) (pg_name (i := 2) sc_law_draws.nd rfl (Or.inl rfl))
  (pss_cons (ps_set (i := 3) sc_law_draws.nd rfl (Or.inl rfl) (pe_callB call_abs (by rfl) T.n_abs (by decide +kernel) (pa_cons (pv 2) pa_nil)))
  (C8.pss_cut (ps_if (pt_cmpR op_lt (pv 3) (pe_op op_pow (pe_int) (pe_int)) (nomark _))
  (pss_cons (ps_set (i := 4) sc_law_draws.nd rfl (Or.inl rfl) (pe_op op_mod (pe_callTy call_int1 (by rfl) T.n_int (by decide +kernel) (pa_cons (pe_op op_add (pe_op op_mul (pv 3) (pe_int)) (pe_int)) pa_nil)) (pe_int)))
  (pss_cons (ps_expr (pe_bm PySem.F.plainAttrs_list PySem.F.slot_list_append PySem.F.type_list_append mt_append (pv 1) (pa_cons (pe_op op_mod (pe_callTy call_int1 (by rfl) T.n_int (by decide +kernel) (pa_cons (pe_op op_add (pe_op op_mul (pv 4) (pe_int)) (pv 3)) pa_nil)) (pe_int)) pa_nil)))
  (pss_cons (ps_expr (pe_bm PySem.F.plainAttrs_list PySem.F.slot_list_append PySem.F.type_list_append mt_append (pv 1) (pa_cons (pe_op op_mod (pe_callTy call_int1 (by rfl) T.n_int (by decide +kernel) (pa_cons (pe_op op_add (pv 4) (pe_op op_fdiv (pv 3) (pe_int))) pa_nil)) (pe_int)) pa_nil)))
  (pss_one (ps_set (i := 3) sc_law_draws.nd rfl (Or.inl rfl) (pe_int))))))
  (pss_nil))
  (pss_one (ps_for PassesOwn.never rfl (pi_range1 (by rfl) T.n_range (pa_cons (pe_int) pa_nil)) (pg_name (i := 5) sc_law_draws.nd rfl (Or.inl rfl))
  (pss_one (ps_if (pt_cmpR op_gt (pv 3) (pe_int) (nomark _))
  (pss_cons (ps_expr (pe_bm PySem.F.plainAttrs_list PySem.F.slot_list_append PySem.F.type_list_append mt_append (pv 1) (pa_cons (pe_op op_mod (pe_callTy call_int1 (by rfl) T.n_int (by decide +kernel) (pa_cons (pv 3) pa_nil)) (pe_int)) pa_nil)))
  (pss_one (ps_set (i := 3) sc_law_draws.nd rfl (Or.inl rfl) (pe_op op_fdiv (pv 3) (pe_int)))))
  (pss_nil))))))))
  (pss_cons (ps_set (i := 6) sc_law_draws.nd rfl (Or.inl rfl) (pe_int))
  (C8.pss_cut (ps_if (pt_cmpR op_gt (pe_callB call_len_seq (by rfl) T.n_len (by decide +kernel) (pa_cons (pv 0) pa_nil)) (pe_int) (nomark _))
  (pss_one (ps_set (i := 6) sc_law_draws.nd rfl (Or.inl rfl) (pe_op op_add (pe_int) (pe_callB call_abs (by rfl) T.n_abs (by decide +kernel) (pa_cons (pe_ix ix_list (pv 0) (pe_int) (fun _ _ => rfl)) pa_nil)))))
  (pss_nil))
  (pss_cons (ps_for PassesOwn.never rfl (pi_range1 (by rfl) T.n_range (pa_cons (pe_int) pa_nil)) (pg_name (i := 5) sc_law_draws.nd rfl (Or.inl rfl))
  (pss_cons (ps_set (i := 6) sc_law_draws.nd rfl (Or.inl rfl) (pe_op op_mod (pe_callTy call_int1 (by rfl) T.n_int (by decide +kernel) (pa_cons (pe_op op_add (pe_op op_mul (pv 6) (pe_int)) (pe_int)) pa_nil)) (pe_int)))
  (pss_one (ps_expr (pe_bm PySem.F.plainAttrs_list PySem.F.slot_list_append PySem.F.type_list_append mt_append (pv 1) (pa_cons (pe_op op_fdiv (pv 6) (pe_int)) pa_nil))))))
  (pss_one (ps_ret (pe_lstRev rfl (by rfl) T.n_list (by rfl) T.n_reversed (pv 1)))))))), ?_⟩
    refine ⟨Nat.zero_le _, fun p hp => ?_⟩
    have d0 : DrawAt H (upd H p (.lst [])) p 0 := ⟨Same.upd hp, hp, [], upd_same, Nat.le_refl _⟩
    refine ⟨_, rfl, a, rfl, ⟨_, d0.1.seq hS⟩, for_list (K := K) (a := a) (xs := ns.map V.int) (fun i σ H' => ∃ v2 v3 v4 v5 : Option V, σ = [some (.ref a), some (.ref p), v2, v3, v4, v5, none] ∧ DrawAt H H' p (i * 62))
      ⟨_, _, _, _, rfl, d0⟩ (fun i σ H' _ ⟨_, _, _, _, _, R⟩ => R.1.seq hS) ?_ ?_⟩
    · rintro i y σ H' hi ⟨v2, v3, v4, v5, rfl, R⟩
      have hi63 : i < ns.length := by
        have q := (List.getElem?_eq_some_iff.mp hi).1
        rw [List.length_map] at q
        exact q
      obtain ⟨u, rfl⟩ : ∃ u, y = V.int u := by
        rw [List.getElem?_map] at hi
        cases e : ns[i]? with
        | none =>
          rw [e] at hi
          cases hi
        | some u =>
          rw [e] at hi
          exact ⟨u, (Option.some.inj hi).symm⟩
      -- number = abs(cell); if number < 10 ** 18
      refine ⟨_, rfl, _, rfl, ?_⟩
      generalize (if u < 0 then -u else u) = z
      refine ⟨fun σ H1 => ∃ (z : Int) (v4 : Option V), σ = [some (.ref a), some (.ref p), some (.int u), some (.int z), v4, v5, none] ∧ DrawAt H H1 p (i * 62 + 2), ?_, ?_⟩
      · walk_at "rd"
        refine ite2 (fun _ => ?_) (fun _ => ?_)
        · walk_at "rd"
          obtain ⟨_, _, ms, h3, _⟩ := id R
          refine ⟨.inl ⟨rfl, _, SqL.of h3⟩, ?_⟩
          walk_at "rd"
          refine R.add _ (by omega) fun H1 R1 => ?_
          walk_at "rd"
          obtain ⟨_, _, ms1, h4, _⟩ := id R1
          refine ⟨.inl ⟨rfl, _, SqL.of h4⟩, ?_⟩
          walk_at "rd"
          refine R1.add _ (by omega) fun H2 R2 => ?_
          exact ⟨_, _, rfl, R2⟩
        · exact ⟨z, _, rfl, R.1, R.2.1, by obtain ⟨ms, h3, h4⟩ := R.2.2; exact ⟨ms, h3, by omega⟩⟩
      · rintro σ H1 ⟨z, v4, rfl, R1⟩
        refine ⟨60, rfl, by decide, by decide, for_range (n := 60) (fun j σ H2 => ∃ (z : Int) (v5 : Option V), σ = [some (.ref a), some (.ref p), some (.int u), some (.int z), v4, v5, none] ∧ DrawAt H H2 p (i * 62 + 2 + j)) ⟨z, _, rfl, R1⟩ ?_ ?_⟩
        · rintro j σ H2 hj ⟨z, v5, rfl, R2⟩
          walk_at "rd"
          refine ite2 (fun _ => ?_) (fun _ => ?_)
          · obtain ⟨_, _, ms1, h4, _⟩ := id R2
            walk_at "rd"
            refine ⟨.inl ⟨rfl, _, SqL.of h4⟩, ?_⟩
            walk_at "rd"
            refine R2.add _ (by omega) fun H3 R3 => ?_
            walk_at "rd"
            exact ⟨_, _, rfl, R3⟩
          · exact ⟨z, _, rfl, R2.1, R2.2.1, by obtain ⟨ms, h3, h4⟩ := R2.2.2; exact ⟨ms, h3, by omega⟩⟩
        · rintro σ H2 ⟨z, v5, rfl, R2⟩
          exact ⟨_, _, _, _, rfl, R2.1, R2.2.1, by obtain ⟨ms, h3, h4⟩ := R2.2.2; exact ⟨ms, h3, by omega⟩⟩
    · rintro σ H1 ⟨v2, v3, v4, v5, rfl, R⟩
      have R0 : DrawAt H H1 p 4000 := ⟨R.1, R.2.1, by obtain ⟨ms, h3, h4⟩ := R.2.2; rw [List.length_map] at h4; exact ⟨ms, h3, by omega⟩⟩
      refine ⟨fun σ H2 => ∃ (z : Int), σ = [some (.ref a), some (.ref p), v2, v3, v4, v5, some (.int z)] ∧ DrawAt H H2 p 4000, ?_, ?_⟩
      · refine ⟨_, rfl, a, _, rfl, .inl (R0.1.seq hS), _, _, rfl, rfl, _, rfl, ite2 (fun hn => ?_) fun _ => ⟨_, rfl, R0⟩⟩
        have h0 : 0 < ns.length := by simpa using hn
        refine ⟨_, rfl, a, _, 0, .int ns[0], rfl, rfl, R0.1.seq hS, atI_nat (j := 0) (by simp [h0]), ?_⟩
        walk_at "rd"
        exact R0
      · rintro σ H2 ⟨z, rfl, R1⟩
        refine ⟨240, rfl, by decide, by decide, for_range (n := 240) (fun j σ H2 => ∃ (z : Int) (v5 : Option V), σ = [some (.ref a), some (.ref p), v2, v3, v4, v5, some (.int z)] ∧ DrawAt H H2 p (4000 + j)) ⟨z, _, rfl, R1⟩ ?_ ?_⟩
        · rintro j σ H2 hj ⟨z, v5, rfl, R2⟩
          walk_at "rd"
          obtain ⟨_, _, ms1, h4, _⟩ := id R2
          refine ⟨.inl ⟨rfl, _, SqL.of h4⟩, ?_⟩
          walk_at "rd"
          refine R2.add _ (by omega) fun H3 R3 => ?_
          exact ⟨_, _, rfl, R3⟩
        · rintro σ H2 ⟨z, v5, rfl, R2⟩
          obtain ⟨e1, e2, ms, h3, _⟩ := R2
          refine ⟨_, rfl, p, _, rfl, SqL.of h3, fun q hq => ?_⟩
          refine k q ms.reverse _ (e1.trans (Same.upd hq)) (e1.free hq) ?_
          rw [upd_same, List.map_reverse]
/-! ### one draw -/
def spTake (K : PySem.W.Frag) : Sp := fun vs H Q _ => ∃ (p : Addr) (ns : List Int) (b : Int), vs = [.ref p, .int b] ∧ H p = some (.lst (ns.map V.int)) ∧ 0 < b ∧
  ∀ (z : Int) (ms : List Int) (H' : Hp), 0 ≤ z → z < b → (H' = H ∨ H' = upd H p (.lst (ms.map V.int))) → Q (.int z) H'
theorem ok_law_take (T : Txt K mg A) : FnOk P w K mg base CX0 1 A.a__law_take A.d__law_take ["draws", "bound"] (spTake K) := by
  refine T.F__law_take.ok sc_law_take (fun vs H Q E h => ?_) (fun cdv A' outer s H vs Q E hr h => ?_)
  · obtain ⟨p, ns, b, rfl, _⟩ := h
    rfl
  · obtain ⟨p, ns, b, rfl, hp, hb, k⟩ := h
    refine ⟨_, pss_cons (ps_if (pt_cmpR op_eq (pe_callB call_len_seq (by rfl) T.n_len (by decide +kernel) (pa_cons (pv 0) pa_nil)) (pe_int) (nomark _))
  (pss_one (ps_ret (pe_int)))
  (pss_nil))
  (pss_one (ps_ret (pe_op op_mod (pe_callTy call_int1 (by rfl) T.n_int (by decide +kernel) (pa_cons (pe_bm0 PySem.F.plainAttrs_list PySem.F.slot_list_pop PySem.F.type_list_pop mt_pop (pv 0)) pa_nil)) (pv 1)))), ?_⟩
    refine ⟨_, rfl, p, _, rfl, .inl (SqL.of hp), rfl, _, rfl, ite2 (fun hn => ?_) fun hn => ?_⟩
    · exact k 0 [] H (Int.le_refl _) hb (.inl rfl)
    · have hl : ns.length ≠ 0 := fun e => hn (by simp [e])
      refine ⟨_, rfl, .inl ⟨rfl, _, SqL.of hp⟩, p, _, .int (ns[ns.length - 1]'(by omega)), rfl, rfl, hp, ?_, .inl ⟨_, rfl, _, rfl, _, _, rfl, rfl, hb, ?_⟩⟩
      · rw [List.length_map, List.getElem?_map, List.getElem?_eq_getElem (by omega)]
        rfl
      · refine k _ ns.dropLast _ (Int.emod_nonneg _ (by omega)) (Int.emod_lt_of_pos _ hb) (.inr ?_)
        rw [List.map_dropLast]
/-! ### two trees are the same -/
theorem tyx_tup {H : Hp} {a : Addr} {xs : List V} (h : SqT K H a xs) : TyX K H (.ref a) (.type "tuple") := by
  rcases h with (h | ⟨o, h⟩) | ⟨o, its, n, h, c, _⟩
  · exact .base (.tup h)
  · exact .fTuple h
  · exact .kTuple h c
theorem tyx_lst {H : Hp} {a : Addr} {xs : List V} (h : SqL K H a xs) : TyX K H (.ref a) (.type "list") := by
  rcases h with (h | ⟨o, h⟩) | ⟨o, its, n, h, c, _⟩
  · exact .base (.lst h)
  · exact .base (.frz h)
  · exact .kList h c
theorem ixs {H : Hp} {p : Addr} {xs : List V} {i : Nat} {v : V} {Q : VK} (h : SqL K H p xs ∨ SqT K H p xs) (e : xs[i]? = some v) (q : Q v H) : rIx K (.ref p) (.int (0 + (i : Int))) H Q := by
  have e' : atI xs (0 + (i : Int)) = some v := by
    rw [Int.zero_add]
    exact atI_nat e
  rcases h with h | h
  · exact .inl ⟨p, xs, _, v, rfl, rfl, h, e', q⟩
  · exact .inr (.inl ⟨p, xs, _, v, rfl, rfl, h, e', q⟩)
def tyN : D → String
  | .tup _ => "tuple"
  | .lst _ => "list"
  | .bl _ => "bool"
  | .int _ => "int"
  | .str _ => "str"
  | _ => "NoneType"
def seqD : D → Bool
  | .tup _ => true
  | .lst _ => true
  | _ => false
theorem kits (d : D) : ∃ t l b i s : Bool, PySem.W.kitOne K (.type (tyN d)) (.type "tuple") = some t ∧ PySem.W.kitOne K (.type (tyN d)) (.type "list") = some l ∧ PySem.W.kitOne K (.type (tyN d)) (.type "bool") = some b ∧
    PySem.W.kitOne K (.type (tyN d)) (.type "int") = some i ∧ PySem.W.kitOne K (.type (tyN d)) (.type "str") = some s ∧ (t || l) = seqD d := by
  have k1 : kitB "tuple" "tuple" = some true := by decide +kernel
  have k2 : kitB "tuple" "list" = some false := by decide +kernel
  have k3 : kitB "tuple" "bool" = some false := by decide +kernel
  have k4 : kitB "tuple" "int" = some false := by decide +kernel
  have k5 : kitB "tuple" "str" = some false := by decide +kernel
  have l1 : kitB "list" "tuple" = some false := by decide +kernel
  have l2 : kitB "list" "list" = some true := by decide +kernel
  have l3 : kitB "list" "bool" = some false := by decide +kernel
  have l4 : kitB "list" "int" = some false := by decide +kernel
  have l5 : kitB "list" "str" = some false := by decide +kernel
  have b1 : kitB "bool" "tuple" = some false := by decide +kernel
  have b2 : kitB "bool" "list" = some false := by decide +kernel
  have b3 : kitB "bool" "bool" = some true := by decide +kernel
  have b4 : kitB "bool" "int" = some true := by decide +kernel
  have b5 : kitB "bool" "str" = some false := by decide +kernel
  have i1 : kitB "int" "tuple" = some false := by decide +kernel
  have i2 : kitB "int" "list" = some false := by decide +kernel
  have i3 : kitB "int" "bool" = some false := by decide +kernel
  have i4 : kitB "int" "int" = some true := by decide +kernel
  have i5 : kitB "int" "str" = some false := by decide +kernel
  have s1 : kitB "str" "tuple" = some false := by decide +kernel
  have s2 : kitB "str" "list" = some false := by decide +kernel
  have s3 : kitB "str" "bool" = some false := by decide +kernel
  have s4 : kitB "str" "int" = some false := by decide +kernel
  have s5 : kitB "str" "str" = some true := by decide +kernel
  have n1 : kitB "NoneType" "tuple" = some false := by decide +kernel
  have n2 : kitB "NoneType" "list" = some false := by decide +kernel
  have n3 : kitB "NoneType" "bool" = some false := by decide +kernel
  have n4 : kitB "NoneType" "int" = some false := by decide +kernel
  have n5 : kitB "NoneType" "str" = some false := by decide +kernel
  cases d with
  | tup ds => exact ⟨_, _, _, _, _, kit_ty k1, kit_ty k2, kit_ty k3, kit_ty k4, kit_ty k5, rfl⟩
  | lst ds => exact ⟨_, _, _, _, _, kit_ty l1, kit_ty l2, kit_ty l3, kit_ty l4, kit_ty l5, rfl⟩
  | bl b => exact ⟨_, _, _, _, _, kit_ty b1, kit_ty b2, kit_ty b3, kit_ty b4, kit_ty b5, rfl⟩
  | int b => exact ⟨_, _, _, _, _, kit_ty i1, kit_ty i2, kit_ty i3, kit_ty i4, kit_ty i5, rfl⟩
  | str b => exact ⟨_, _, _, _, _, kit_ty s1, kit_ty s2, kit_ty s3, kit_ty s4, kit_ty s5, rfl⟩
  | _ => exact ⟨_, _, _, _, _, kit_ty n1, kit_ty n2, kit_ty n3, kit_ty n4, kit_ty n5, rfl⟩
theorem nil_of {H : Hp} {d : D} (r : Rp K H d []) : d = .nil := by
  cases d with
  | nil => rfl
  | tup ds =>
    obtain ⟨_, _, e, _⟩ := r
    cases e
  | lst ds =>
    obtain ⟨_, _, e, _⟩ := r
    cases e
  | cons a b =>
    obtain ⟨_, _, e, _⟩ := r
    cases e
  | _ => cases r
theorem no_cons {H : Hp} {a b : D} {x : V} (r : Rp K H (.cons a b) [x]) (h : (D.cons a b).isRow = false) : False := by
  obtain ⟨_, _, e, _, r2⟩ := r
  cases e
  rw [nil_of r2] at h
  cases h
theorem tyx_of {H : Hp} {d : D} {x : V} (r : Rp K H d [x]) (h : d.isRow = false) : TyX K H x (.type (tyN d)) := by
  cases d with
  | tup ds =>
    obtain ⟨p, xs, e1, r1, _⟩ := r
    cases e1
    exact tyx_tup r1
  | lst ds =>
    obtain ⟨p, xs, e1, r1, _⟩ := r
    cases e1
    exact tyx_lst r1
  | bl b =>
    cases r
    exact .base (.bl _)
  | int b =>
    cases r
    exact .base (.int _)
  | str b =>
    cases r
    exact .base (.str _)
  | non =>
    cases r
    exact .base .non
  | nil => cases h
  | cons a b => exact (no_cons r h).elim
theorem seq_of {H : Hp} {d : D} {x : V} (r : Rp K H d [x]) (h : seqD d = true) (o : d.ok = true) : ∃ (p : Addr) (xs : List V) (ds : D), x = .ref p ∧ (SqL K H p xs ∨ SqT K H p xs) ∧ xs.length ≤ 100000 ∧ Rp K H ds xs ∧ ds.isRow = true ∧ ds.ok = true ∧ d.dep = ds.dep + 1 ∧ (d = .tup ds ∨ d = .lst ds) := by
  cases d with
  | tup ds =>
    obtain ⟨p, xs, e1, r1, r2, r3⟩ := r
    cases e1
    simp only [D.ok, Bool.and_eq_true] at o
    exact ⟨p, xs, ds, rfl, .inr r1, r2, r3, o.1, o.2, rfl, .inl rfl⟩
  | lst ds =>
    obtain ⟨p, xs, e1, r1, r2, r3⟩ := r
    cases e1
    simp only [D.ok, Bool.and_eq_true] at o
    exact ⟨p, xs, ds, rfl, .inl r1, r2, r3, o.1, o.2, rfl, .inr rfl⟩
  | _ => cases h
theorem scal_of {H : Hp} {d : D} {x y : V} (r : Rp K H d [x]) (r2 : Rp K H d [y]) (h : seqD d = false) (o : d.isRow = false) : x = y ∧ scal x y = true := by
  cases d with
  | tup ds => cases h
  | lst ds => cases h
  | nil => cases o
  | cons a b => exact (no_cons r o).elim
  | _ =>
    cases r
    cases r2
    exact ⟨rfl, rfl⟩
def spSame (K : PySem.W.Frag) (n : Nat) : Sp := fun vs H Q _ => ∃ (x y : V) (d : D), vs = [x, y] ∧ Rp K H d [x] ∧ Rp K H d [y] ∧ d.isRow = false ∧ d.ok = true ∧ d.dep < n ∧ Q (.bl true) H
theorem ok_law_same (T : Txt K mg A) : ∀ n, FnOk P w K mg base CX0 n A.a__law_same A.d__law_same ["actual", "due"] (spSame K n) := by
  intro n
  induction n with
  | zero => exact ⟨fun vs H Q E ⟨_, _, _, _, _, _, _, _, h, _⟩ => absurd h (Nat.not_lt_zero _), fun _ _ _ _ _ _ _ _ _ _ _ _ _ ⟨_, _, _, _, _, _, _, _, h, _⟩ => absurd h (Nat.not_lt_zero _)⟩
  | succ n ih =>
    refine T.F__law_same.ok sc_law_same (fun vs H Q E h => ?_) (fun cdv A' outer s H vs Q E hr h => ?_)
    · obtain ⟨x, y, d, rfl, _⟩ := h
      rfl
    · obtain ⟨x, y, d, rfl, hx, hy, h1, h2, h3, k⟩ := h
      refine ⟨_, pss_cons (ps_if (PW.pt (pw_or (pt_val (pe_callB call_isi (by rfl) T.n_isinstance (by decide +kernel) (pa_cons (pv 1) (pa_cons (pe_bltn (v := .ty "tuple") (by rfl) T.n_tuple (by decide +kernel) rfl) pa_nil)))) (pw_or1 (pt_val (pe_callB call_isi (by rfl) T.n_isinstance (by decide +kernel) (pa_cons (pv 1) (pa_cons (pe_bltn (v := .ty "list") (by rfl) T.n_list (by decide +kernel) rfl) pa_nil)))))))
  (pss_cons (ps_if (PW.pt (pw_or (pt_cmpR op_ne (pe_callB call_isi (by rfl) T.n_isinstance (by decide +kernel) (pa_cons (pv 1) (pa_cons (pe_bltn (v := .ty "tuple") (by rfl) T.n_tuple (by decide +kernel) rfl) pa_nil))) (pe_callB call_isi (by rfl) T.n_isinstance (by decide +kernel) (pa_cons (pv 0) (pa_cons (pe_bltn (v := .ty "tuple") (by rfl) T.n_tuple (by decide +kernel) rfl) pa_nil))) (nomark _)) (pw_or1 (pt_cmpR op_ne (pe_callB call_isi (by rfl) T.n_isinstance (by decide +kernel) (pa_cons (pv 1) (pa_cons (pe_bltn (v := .ty "list") (by rfl) T.n_list (by decide +kernel) rfl) pa_nil))) (pe_callB call_isi (by rfl) T.n_isinstance (by decide +kernel) (pa_cons (pv 0) (pa_cons (pe_bltn (v := .ty "list") (by rfl) T.n_list (by decide +kernel) rfl) pa_nil))) (nomark _)))))
  (pss_one (ps_ret (pe_bl)))
  (pss_nil))
  (pss_cons (ps_if (pt_cmpR op_ne (pe_callB call_len_seq (by rfl) T.n_len (by decide +kernel) (pa_cons (pv 0) pa_nil)) (pe_callB call_len_seq (by rfl) T.n_len (by decide +kernel) (pa_cons (pv 1) pa_nil)) (nomark _))
  (pss_one (ps_ret (pe_bl)))
  (pss_nil))
  (pss_cons (ps_for PassesOwn.never rfl (pi_range1 (by rfl) T.n_range (pa_cons (pe_callB call_len_seq (by rfl) T.n_len (by decide +kernel) (pa_cons (pv 1) pa_nil)) pa_nil)) (pg_name (i := 2) sc_law_same.nd rfl (Or.inl rfl))
  (pss_one (ps_if (pt_not (pt_val (pe_call ih (hr.mono (by omega)) rfl T.g__law_same T.F__law_same.kp T.b__law_same .nil pass0 (pa_cons (pe_ix ix_seq (pv 0) (pv 2) (fun _ _ => rfl)) (pa_cons (pe_ix ix_seq (pv 1) (pv 2) (fun _ _ => rfl)) pa_nil)))))
  (pss_one (ps_ret (pe_bl)))
  (pss_nil))))
  (pss_one (ps_ret (pe_bl))))))
  (pss_nil))
  (pss_cons (ps_if (pt_cmpR op_ne (pe_callB call_isi (by rfl) T.n_isinstance (by decide +kernel) (pa_cons (pv 1) (pa_cons (pe_bltn (v := .ty "bool") (by rfl) T.n_bool (by decide +kernel) rfl) pa_nil))) (pe_callB call_isi (by rfl) T.n_isinstance (by decide +kernel) (pa_cons (pv 0) (pa_cons (pe_bltn (v := .ty "bool") (by rfl) T.n_bool (by decide +kernel) rfl) pa_nil))) (nomark _))
  (pss_one (ps_ret (pe_bl)))
  (pss_nil))
  (pss_cons (ps_if (PW.pt (pw_or (pt_cmpR op_ne (pe_callB call_isi (by rfl) T.n_isinstance (by decide +kernel) (pa_cons (pv 1) (pa_cons (pe_bltn (v := .ty "int") (by rfl) T.n_int (by decide +kernel) rfl) pa_nil))) (pe_callB call_isi (by rfl) T.n_isinstance (by decide +kernel) (pa_cons (pv 0) (pa_cons (pe_bltn (v := .ty "int") (by rfl) T.n_int (by decide +kernel) rfl) pa_nil))) (nomark _)) (pw_or1 (pt_cmpR op_ne (pe_callB call_isi (by rfl) T.n_isinstance (by decide +kernel) (pa_cons (pv 1) (pa_cons (pe_bltn (v := .ty "str") (by rfl) T.n_str (by decide +kernel) rfl) pa_nil))) (pe_callB call_isi (by rfl) T.n_isinstance (by decide +kernel) (pa_cons (pv 0) (pa_cons (pe_bltn (v := .ty "str") (by rfl) T.n_str (by decide +kernel) rfl) pa_nil))) (nomark _)))))
  (pss_one (ps_ret (pe_bl)))
  (pss_nil))
  (pss_one (ps_ret (pe_cmpR op_eq (pv 0) (pv 1) (nomark _)))))), ?_⟩
      obtain ⟨t, l, b, i, z, kt, kl, kb, ki, kz, e⟩ := kits (K := K) d
      have tx := tyx_of hx h1
      have ty := tyx_of hy h1
      cases hs : seqD d with
      | true =>
        rw [hs] at e
        obtain ⟨p, xs, ds, rfl, r1, l1, g1, w1, o1, e1, c1⟩ := seq_of hx hs h2
        obtain ⟨q, ys, ds', rfl, r2, l2, g2, w2, o2, e2, c2⟩ := seq_of hy hs h2
        have eds : ds' = ds := by
          rcases c1 with c1 | c1 <;> rcases c2 with c2 | c2 <;> rw [c1] at c2 <;> first | (cases c2; rfl) | cases c2
        subst eds
        have el : ys.length = xs.length := by rw [Rp.row_len w1 g1, Rp.row_len w1 g2]
        have hS1 : ∀ {i : Nat} {v : V}, xs[i]? = some v → ∃ c u, ys[i]? = some u ∧ c.isRow = false ∧ c.ok = true ∧ c.dep ≤ ds'.dep ∧ Rp K H c [v] ∧ Rp K H c [u] := fun {i v} e => Rp.at_ w1 o1 g1 e g2
        have fin : Q (.bl true) H := k
        cases t with
        | true =>
          refine ⟨_, rfl, _, _, _, _, _, rfl, .ty _, ty, kt, _, rfl, iteT ?_⟩
          refine ⟨_, rfl, _, _, _, _, _, rfl, .ty _, ty, kt, _, rfl, _, _, _, _, _, rfl, .ty _, tx, kt, rfl, _, rfl, iteNS rfl ?_⟩
          refine ⟨_, rfl, _, _, _, _, _, rfl, .ty _, ty, kl, _, rfl, _, _, _, _, _, rfl, .ty _, tx, kl, rfl, _, rfl, iteNS rfl ?_⟩
          refine ⟨_, rfl, _, _, rfl, r1, _, rfl, _, _, rfl, r2, rfl, _, rfl, iteNS (by rw [el]) ?_⟩
          refine ⟨_, rfl, _, _, rfl, r2, _, rfl, by omega, by omega, for_range (n := ys.length) (fun i σ H' => ∃ v : Option V, σ = [some (.ref p), some (.ref q), v] ∧ H' = H) ⟨_, rfl, rfl⟩ ?_ ?_⟩
          · rintro i σ H' hi ⟨v, rfl, rfl⟩
            have hj : i < xs.length := by omega
            obtain ⟨c, u, a1, a2, a3, a4, a5, a6⟩ := hS1 (i := i) (List.getElem?_eq_getElem hj)
            refine ⟨_, rfl, _, rfl, ixs r1 (List.getElem?_eq_getElem hj) ⟨_, rfl, _, rfl, ixs r2 a1 ?_⟩⟩
            refine ⟨_, _, c, rfl, a5, a6, a2, a3, by omega, _, rfl, ?_⟩
            exact iteF ⟨_, rfl, rfl⟩
          · rintro σ H' ⟨v, rfl, rfl⟩
            exact fin
        | false =>
          obtain rfl : l = true := by simpa using e
          refine ⟨_, rfl, _, _, _, _, _, rfl, .ty _, ty, kt, _, rfl, iteF ⟨_, rfl, _, _, _, _, _, rfl, .ty _, ty, kl, _, rfl, iteT ?_⟩⟩
          refine ⟨_, rfl, _, _, _, _, _, rfl, .ty _, ty, kt, _, rfl, _, _, _, _, _, rfl, .ty _, tx, kt, rfl, _, rfl, iteNS rfl ?_⟩
          refine ⟨_, rfl, _, _, _, _, _, rfl, .ty _, ty, kl, _, rfl, _, _, _, _, _, rfl, .ty _, tx, kl, rfl, _, rfl, iteNS rfl ?_⟩
          refine ⟨_, rfl, _, _, rfl, r1, _, rfl, _, _, rfl, r2, rfl, _, rfl, iteNS (by rw [el]) ?_⟩
          refine ⟨_, rfl, _, _, rfl, r2, _, rfl, by omega, by omega, for_range (n := ys.length) (fun i σ H' => ∃ v : Option V, σ = [some (.ref p), some (.ref q), v] ∧ H' = H) ⟨_, rfl, rfl⟩ ?_ ?_⟩
          · rintro i σ H' hi ⟨v, rfl, rfl⟩
            have hj : i < xs.length := by omega
            obtain ⟨c, u, a1, a2, a3, a4, a5, a6⟩ := hS1 (i := i) (List.getElem?_eq_getElem hj)
            refine ⟨_, rfl, _, rfl, ixs r1 (List.getElem?_eq_getElem hj) ⟨_, rfl, _, rfl, ixs r2 a1 ?_⟩⟩
            refine ⟨_, _, c, rfl, a5, a6, a2, a3, by omega, _, rfl, ?_⟩
            exact iteF ⟨_, rfl, rfl⟩
          · rintro σ H' ⟨v, rfl, rfl⟩
            exact fin
      | false =>
        rw [hs] at e
        obtain ⟨rfl, rfl⟩ : t = false ∧ l = false := by simpa using e
        obtain ⟨rfl, hsc⟩ := scal_of hx hy hs h1
        refine ⟨_, rfl, _, _, _, _, _, rfl, .ty _, ty, kt, _, rfl, iteF ⟨_, rfl, _, _, _, _, _, rfl, .ty _, ty, kl, _, rfl, iteF ?_⟩⟩
        refine ⟨_, rfl, _, _, _, _, _, rfl, .ty _, ty, kb, _, rfl, _, _, _, _, _, rfl, .ty _, tx, kb, rfl, _, rfl, iteNS rfl ?_⟩
        refine ⟨_, rfl, _, _, _, _, _, rfl, .ty _, ty, ki, _, rfl, _, _, _, _, _, rfl, .ty _, tx, ki, rfl, _, rfl, iteNS rfl ?_⟩
        refine ⟨_, rfl, _, _, _, _, _, rfl, .ty _, ty, kz, _, rfl, _, _, _, _, _, rfl, .ty _, tx, kz, rfl, _, rfl, iteNS rfl ?_⟩
        refine ⟨_, rfl, _, rfl, hsc, ?_⟩
        rw [decide_eq_true rfl]
        exact k
end
end K07

namespace K07
open PySem L2 YF
section
variable {P : Program} {w : World} {K : PySem.W.Frag} {mg : Str → Option Value} {base : Heap} {A : Adr}
/-! ### the pieces of the library -/
def t2 (a b : D) : D := .tup (.cons a (.cons b .nil))
def d_ZERO : D := t2 (.str "number") (.int 0)
def d_ONE : D := t2 (.str "number") (.int 1)
def d_TWO : D := t2 (.str "number") (.int 2)
theorem zero_rp (T : Txt K mg A) (B : Hp) : Rp K B d_ZERO [.ref A.a_ZERO] := ⟨_, _, rfl, T.z_ZERO _, by decide, ⟨.str "number", _, rfl, rfl, .int 0, _, rfl, rfl, rfl⟩⟩
theorem one_rp (T : Txt K mg A) (B : Hp) : Rp K B d_ONE [.ref A.a_ONE] := ⟨_, _, rfl, T.z_ONE _, by decide, ⟨.str "number", _, rfl, rfl, .int 1, _, rfl, rfl, rfl⟩⟩
theorem two_rp (T : Txt K mg A) (B : Hp) : Rp K B d_TWO [.ref A.a_TWO] := ⟨_, _, rfl, T.z_TWO _, by decide, ⟨.str "number", _, rfl, rfl, .int 2, _, rfl, rfl, rfl⟩⟩
local macro_rules | `(tactic| walk_at "ed1") => `(tactic| first
  | exact ev_int | exact ev_str | exact ev_non | exact ev_bl | exact ev_nil
  | (apply ev_at 0
     · assumption
     · rfl
     · rfl)
  | (apply ev_at 1
     · assumption
     · rfl
     · rfl)
  | (apply ev_at 2
     · assumption
     · rfl
     · rfl)
  | (apply ev_at 3
     · assumption
     · rfl
     · rfl)
  | (apply ev_at 4
     · assumption
     · rfl
     · rfl)
  | (apply ev_at 5
     · assumption
     · rfl
     · rfl)
  | (apply ev_at 6
     · assumption
     · rfl
     · rfl)
  | (apply ev_at 7
     · assumption
     · rfl
     · rfl)
  | (apply ev_at 8
     · assumption
     · rfl
     · rfl)
  | (apply ev_at 9
     · assumption
     · rfl
     · rfl)
  | (apply ev_at 10
     · assumption
     · rfl
     · rfl)
  | (apply ev_at 11
     · assumption
     · rfl
     · rfl)
  | (apply ev_val (zero_rp (mg := mg) _ _); assumption)
  | (apply ev_val (one_rp (mg := mg) _ _); assumption)
  | (apply ev_val (two_rp (mg := mg) _ _); assumption)
  | (apply ev_callX
     · walk_at "ed"
     · first | exact trivial | exact ⟨_, rfl⟩ | exact ⟨_, _, rfl⟩ | exact ⟨_, _, _, rfl⟩
     · rfl
     · rfl
     · rfl)
  | (apply ev_cons
     · walk_at "ed"
     · walk_at "ed")
  | (apply ev_tupX
     · walk_at "ed"
     · rfl
     · first | decide | simp [D.len])
  | (apply ev_lstX
     · walk_at "ed"
     · rfl
     · first | decide | simp [D.len])
  | (apply ev_add
     · walk_at "ed"
     · walk_at "ed")
  | (apply ev_sub
     · walk_at "ed"
     · walk_at "ed"))
local macro_rules | `(tactic| walk_at "ed") => `(tactic| walk_at "ed1")
def f_block : D → D
  | (.cons p_body .nil) => (.tup (.cons (.str "block") (.cons .non (.cons p_body (.cons (.lst .nil) .nil)))))
  | _ => .non
def pre_block : D → Prop := fun _ => True
theorem ok_block (T : Txt K mg A) : FnOk P w K mg base CX0 1 A.a__block A.d__block ["body"] (SpG K 1 pre_block f_block) := by
  refine T.F__block.ok sc_block (fun vs H Q E h => h.len) (fun cdv A' outer s H vs Q E hr h => ?_)
  obtain ⟨B, ds, _, sBH, r, ⟨hr1, hr2, hp⟩, k⟩ := h
  obtain ⟨p_body, v0, rfl, rfl, e⟩ := row1 ⟨hr1, hr2⟩ r
  refine ⟨_, pss_one (ps_ret (pe_tup (pa_cons (pe_str) (pa_cons (pe_non) (pa_cons (pv 0) (pa_cons (pe_lst pa_nil) pa_nil)))))), ?_⟩
  refine go_ret (d := f_block (.cons p_body .nil)) (X := []) (K := K) ?_ sBH no_off no_ints fun v N H2 g j r => k v _ N H2 g rfl r
  walk_at "ed"
def f_retry_if : D → D
  | (.cons p_expression .nil) => (.tup (.cons (.str "if") (.cons p_expression (.cons (.lst (.cons (.tup (.cons (.str "retry") .nil)) .nil)) (.cons (.lst .nil) .nil)))))
  | _ => .non
def pre_retry_if : D → Prop := fun _ => True
theorem ok_retry_if (T : Txt K mg A) : FnOk P w K mg base CX0 1 A.a__retry_if A.d__retry_if ["expression"] (SpG K 1 pre_retry_if f_retry_if) := by
  refine T.F__retry_if.ok sc_retry_if (fun vs H Q E h => h.len) (fun cdv A' outer s H vs Q E hr h => ?_)
  obtain ⟨B, ds, _, sBH, r, ⟨hr1, hr2, hp⟩, k⟩ := h
  obtain ⟨p_expression, v0, rfl, rfl, e⟩ := row1 ⟨hr1, hr2⟩ r
  refine ⟨_, pss_one (ps_ret (pe_tup (pa_cons (pe_str) (pa_cons (pv 0) (pa_cons (pe_lst (pa_cons (pe_tup (pa_cons (pe_str) pa_nil)) pa_nil)) (pa_cons (pe_lst pa_nil) pa_nil)))))), ?_⟩
  refine go_ret (d := f_retry_if (.cons p_expression .nil)) (X := []) (K := K) ?_ sBH no_off no_ints fun v N H2 g j r => k v _ N H2 g rfl r
  walk_at "ed"
def f_one_more : D → D
  | (.cons p_expression .nil) => (.tup (.cons (.str "plus") (.cons p_expression (.cons d_ONE .nil))))
  | _ => .non
def pre_one_more : D → Prop := fun _ => True
theorem ok_one_more (T : Txt K mg A) : FnOk P w K mg base CX0 1 A.a__one_more A.d__one_more ["expression"] (SpG K 1 pre_one_more f_one_more) := by
  refine T.F__one_more.ok sc_one_more (fun vs H Q E h => h.len) (fun cdv A' outer s H vs Q E hr h => ?_)
  obtain ⟨B, ds, _, sBH, r, ⟨hr1, hr2, hp⟩, k⟩ := h
  obtain ⟨p_expression, v0, rfl, rfl, e⟩ := row1 ⟨hr1, hr2⟩ r
  refine ⟨_, pss_one (ps_ret (pe_tup (pa_cons (pe_str) (pa_cons (pv 0) (pa_cons (pe_glob (v := .ref A.a_ONE) rfl T.g_ONE rfl) pa_nil))))), ?_⟩
  refine go_ret (d := f_one_more (.cons p_expression .nil)) (X := []) (K := K) ?_ sBH no_off no_ints fun v N H2 g j r => k v _ N H2 g rfl r
  walk_at "ed"
def f_exchange : D → D
  | (.cons p_name .nil) => (.tup (.cons p_name (.cons (.int 3) (.cons (.int 0) .nil))))
  | _ => .non
def pre_exchange : D → Prop := fun _ => True
theorem ok_exchange (T : Txt K mg A) : FnOk P w K mg base CX0 1 A.a_exchange A.d_exchange ["name"] (SpG K 1 pre_exchange f_exchange) := by
  refine T.F_exchange.ok sc_exchange (fun vs H Q E h => h.len) (fun cdv A' outer s H vs Q E hr h => ?_)
  obtain ⟨B, ds, _, sBH, r, ⟨hr1, hr2, hp⟩, k⟩ := h
  obtain ⟨p_name, v0, rfl, rfl, e⟩ := row1 ⟨hr1, hr2⟩ r
  refine ⟨_, pss_one (ps_ret (pe_tup (pa_cons (pv 0) (pa_cons (pe_int) (pa_cons (pe_int) pa_nil))))), ?_⟩
  refine go_ret (d := f_exchange (.cons p_name .nil)) (X := []) (K := K) ?_ sBH no_off no_ints fun v N H2 g j r => k v _ N H2 g rfl r
  walk_at "ed"
def f_take : D → D
  | (.cons p_name .nil) => (.lst (.cons (f_block (.cons (.lst (.cons (f_retry_if (.cons (.tup (.cons (.str "less") (.cons (.tup (.cons (.str "cell") (.cons p_name (.cons d_ZERO .nil)))) (.cons d_ONE .nil)))) .nil)) (.cons (.tup (.cons (.str "put") (.cons p_name (.cons d_ZERO (.cons (.tup (.cons (.str "minus") (.cons (.tup (.cons (.str "cell") (.cons p_name (.cons d_ZERO .nil)))) (.cons d_ONE .nil)))) .nil))))) .nil))) .nil)) .nil))
  | _ => .non
def pre_take : D → Prop := fun _ => True
theorem ok_take (T : Txt K mg A) : FnOk P w K mg base CX0 2 A.a_take A.d_take ["name"] (SpG K 1 pre_take f_take) := by
  refine T.F_take.ok sc_take (fun vs H Q E h => h.len) (fun cdv A' outer s H vs Q E hr h => ?_)
  obtain ⟨B, ds, _, sBH, r, ⟨hr1, hr2, hp⟩, k⟩ := h
  obtain ⟨p_name, v0, rfl, rfl, e⟩ := row1 ⟨hr1, hr2⟩ r
  refine ⟨_, pss_cons (ps_set (i := 1) sc_take.nd rfl (Or.inl rfl) (pe_tup (pa_cons (pe_str) (pa_cons (pv 0) (pa_cons (pe_glob (v := .ref A.a_ZERO) rfl T.g_ZERO rfl) pa_nil)))))
  (pss_one (ps_ret (pe_lst (pa_cons (pe_call (ok_block T) (hr.mono (by decide)) rfl T.g__block T.F__block.kp T.b__block .nil pass0 (pa_cons (pe_lst (pa_cons (pe_call (ok_retry_if T) (hr.mono (by decide)) rfl T.g__retry_if T.F__retry_if.kp T.b__retry_if .nil pass0 (pa_cons (pe_tup (pa_cons (pe_str) (pa_cons (pv 1) (pa_cons (pe_glob (v := .ref A.a_ONE) rfl T.g_ONE rfl) pa_nil)))) pa_nil)) (pa_cons (pe_tup (pa_cons (pe_str) (pa_cons (pv 0) (pa_cons (pe_glob (v := .ref A.a_ZERO) rfl T.g_ZERO rfl) (pa_cons (pe_tup (pa_cons (pe_str) (pa_cons (pv 1) (pa_cons (pe_glob (v := .ref A.a_ONE) rfl T.g_ONE rfl) pa_nil)))) pa_nil))))) pa_nil))) pa_nil)) pa_nil)))), ?_⟩
  refine go_asg (d := (.tup (.cons (.str "cell") (.cons p_name (.cons d_ZERO .nil))))) (X := []) (K := K) ?_ sBH no_off no_ints e fun w1 N1 H1 g1 j1 e1 => ?_
  · walk_at "ed"
  refine go_ret (d := f_take (.cons p_name .nil)) (X := []) (K := K) ?_ g1.nh no_off no_ints fun v N H2 g j r => k v _ N H2 ((g1).trans g) rfl r
  walk_at "ed"
def f_give : D → D
  | (.cons p_name .nil) => (.lst (.cons (f_block (.cons (.lst (.cons (.tup (.cons (.str "put") (.cons p_name (.cons d_ZERO (.cons (f_one_more (.cons (.tup (.cons (.str "cell") (.cons p_name (.cons d_ZERO .nil)))) .nil)) .nil))))) .nil)) .nil)) .nil))
  | _ => .non
def pre_give : D → Prop := fun _ => True
theorem ok_give (T : Txt K mg A) : FnOk P w K mg base CX0 2 A.a_give A.d_give ["name"] (SpG K 1 pre_give f_give) := by
  refine T.F_give.ok sc_give (fun vs H Q E h => h.len) (fun cdv A' outer s H vs Q E hr h => ?_)
  obtain ⟨B, ds, _, sBH, r, ⟨hr1, hr2, hp⟩, k⟩ := h
  obtain ⟨p_name, v0, rfl, rfl, e⟩ := row1 ⟨hr1, hr2⟩ r
  refine ⟨_, pss_one (ps_ret (pe_lst (pa_cons (pe_call (ok_block T) (hr.mono (by decide)) rfl T.g__block T.F__block.kp T.b__block .nil pass0 (pa_cons (pe_lst (pa_cons (pe_tup (pa_cons (pe_str) (pa_cons (pv 0) (pa_cons (pe_glob (v := .ref A.a_ZERO) rfl T.g_ZERO rfl) (pa_cons (pe_call (ok_one_more T) (hr.mono (by decide)) rfl T.g__one_more T.F__one_more.kp T.b__one_more .nil pass0 (pa_cons (pe_tup (pa_cons (pe_str) (pa_cons (pv 0) (pa_cons (pe_glob (v := .ref A.a_ZERO) rfl T.g_ZERO rfl) pa_nil)))) pa_nil)) pa_nil))))) pa_nil)) pa_nil)) pa_nil))), ?_⟩
  refine go_ret (d := f_give (.cons p_name .nil)) (X := []) (K := K) ?_ sBH no_off no_ints fun v N H2 g j r => k v _ N H2 g rfl r
  walk_at "ed"
def f_meet : D → D
  | (.cons p_name (.cons p_n (.cons p_x .nil))) => (.lst (.cons (f_block (.cons (.lst (.cons (.tup (.cons (.str "set") (.cons p_x (.cons (.tup (.cons (.str "cell") (.cons p_name (.cons d_ONE .nil)))) .nil)))) (.cons (.tup (.cons (.str "if") (.cons (.tup (.cons (.str "same") (.cons (f_one_more (.cons (.tup (.cons (.str "cell") (.cons p_name (.cons d_ZERO .nil)))) .nil)) (.cons (.tup (.cons (.str "number") (.cons p_n .nil))) .nil)))) (.cons (.lst (.cons (.tup (.cons (.str "put") (.cons p_name (.cons d_ZERO (.cons d_ZERO .nil))))) (.cons (.tup (.cons (.str "put") (.cons p_name (.cons d_ONE (.cons (f_one_more (.cons (.tup (.cons (.str "cell") (.cons p_name (.cons d_ONE .nil)))) .nil)) .nil))))) .nil))) (.cons (.lst (.cons (.tup (.cons (.str "put") (.cons p_name (.cons d_ZERO (.cons (f_one_more (.cons (.tup (.cons (.str "cell") (.cons p_name (.cons d_ZERO .nil)))) .nil)) .nil))))) .nil)) .nil))))) .nil))) .nil)) (.cons (f_block (.cons (.lst (.cons (f_retry_if (.cons (.tup (.cons (.str "same") (.cons (.tup (.cons (.str "cell") (.cons p_name (.cons d_ONE .nil)))) (.cons (.tup (.cons (.str "local") (.cons p_x .nil))) .nil)))) .nil)) .nil)) .nil)) .nil)))
  | _ => .non
def pre_meet : D → Prop := fun _ => True
theorem ok_meet (T : Txt K mg A) : FnOk P w K mg base CX0 2 A.a_meet A.d_meet ["name", "n", "x"] (SpG K 3 pre_meet f_meet) := by
  refine T.F_meet.ok sc_meet (fun vs H Q E h => h.len) (fun cdv A' outer s H vs Q E hr h => ?_)
  obtain ⟨B, ds, _, sBH, r, ⟨hr1, hr2, hp⟩, k⟩ := h
  obtain ⟨p_name, p_n, p_x, v0, v1, v2, rfl, rfl, e⟩ := row3 ⟨hr1, hr2⟩ r
  refine ⟨_, pss_cons (ps_set (i := 3) sc_meet.nd rfl (Or.inl rfl) (pe_tup (pa_cons (pe_str) (pa_cons (pv 0) (pa_cons (pe_glob (v := .ref A.a_ZERO) rfl T.g_ZERO rfl) pa_nil)))))
  (pss_cons (ps_set (i := 4) sc_meet.nd rfl (Or.inl rfl) (pe_tup (pa_cons (pe_str) (pa_cons (pv 0) (pa_cons (pe_glob (v := .ref A.a_ONE) rfl T.g_ONE rfl) pa_nil)))))
  (pss_cons (ps_set (i := 5) sc_meet.nd rfl (Or.inl rfl) (pe_lst (pa_cons (pe_tup (pa_cons (pe_str) (pa_cons (pv 0) (pa_cons (pe_glob (v := .ref A.a_ZERO) rfl T.g_ZERO rfl) (pa_cons (pe_glob (v := .ref A.a_ZERO) rfl T.g_ZERO rfl) pa_nil))))) (pa_cons (pe_tup (pa_cons (pe_str) (pa_cons (pv 0) (pa_cons (pe_glob (v := .ref A.a_ONE) rfl T.g_ONE rfl) (pa_cons (pe_call (ok_one_more T) (hr.mono (by decide)) rfl T.g__one_more T.F__one_more.kp T.b__one_more .nil pass0 (pa_cons (pv 4) pa_nil)) pa_nil))))) pa_nil))))
  (pss_cons (ps_set (i := 6) sc_meet.nd rfl (Or.inl rfl) (pe_lst (pa_cons (pe_tup (pa_cons (pe_str) (pa_cons (pv 0) (pa_cons (pe_glob (v := .ref A.a_ZERO) rfl T.g_ZERO rfl) (pa_cons (pe_call (ok_one_more T) (hr.mono (by decide)) rfl T.g__one_more T.F__one_more.kp T.b__one_more .nil pass0 (pa_cons (pv 3) pa_nil)) pa_nil))))) pa_nil)))
  (pss_one (ps_ret (pe_lst (pa_cons (pe_call (ok_block T) (hr.mono (by decide)) rfl T.g__block T.F__block.kp T.b__block .nil pass0 (pa_cons (pe_lst (pa_cons (pe_tup (pa_cons (pe_str) (pa_cons (pv 2) (pa_cons (pv 4) pa_nil)))) (pa_cons (pe_tup (pa_cons (pe_str) (pa_cons (pe_tup (pa_cons (pe_str) (pa_cons (pe_call (ok_one_more T) (hr.mono (by decide)) rfl T.g__one_more T.F__one_more.kp T.b__one_more .nil pass0 (pa_cons (pv 3) pa_nil)) (pa_cons (pe_tup (pa_cons (pe_str) (pa_cons (pv 1) pa_nil))) pa_nil)))) (pa_cons (pv 5) (pa_cons (pv 6) pa_nil))))) pa_nil))) pa_nil)) (pa_cons (pe_call (ok_block T) (hr.mono (by decide)) rfl T.g__block T.F__block.kp T.b__block .nil pass0 (pa_cons (pe_lst (pa_cons (pe_call (ok_retry_if T) (hr.mono (by decide)) rfl T.g__retry_if T.F__retry_if.kp T.b__retry_if .nil pass0 (pa_cons (pe_tup (pa_cons (pe_str) (pa_cons (pv 4) (pa_cons (pe_tup (pa_cons (pe_str) (pa_cons (pv 2) pa_nil))) pa_nil)))) pa_nil)) pa_nil)) pa_nil)) pa_nil)))))))), ?_⟩
  refine go_asg (d := (.tup (.cons (.str "cell") (.cons p_name (.cons d_ZERO .nil))))) (X := []) (K := K) ?_ sBH no_off no_ints e fun w1 N1 H1 g1 j1 e1 => ?_
  · walk_at "ed"
  refine go_asg (d := (.tup (.cons (.str "cell") (.cons p_name (.cons d_ONE .nil))))) (X := []) (K := K) ?_ g1.nh no_off no_ints e1 fun w2 N2 H2 g2 j2 e2 => ?_
  · walk_at "ed"
  refine go_asg (d := (.lst (.cons (.tup (.cons (.str "put") (.cons p_name (.cons d_ZERO (.cons d_ZERO .nil))))) (.cons (.tup (.cons (.str "put") (.cons p_name (.cons d_ONE (.cons (f_one_more (.cons (.tup (.cons (.str "cell") (.cons p_name (.cons d_ONE .nil)))) .nil)) .nil))))) .nil)))) (X := []) (K := K) ?_ g2.nh no_off no_ints e2 fun w3 N3 H3 g3 j3 e3 => ?_
  · walk_at "ed"
  refine go_asg (d := (.lst (.cons (.tup (.cons (.str "put") (.cons p_name (.cons d_ZERO (.cons (f_one_more (.cons (.tup (.cons (.str "cell") (.cons p_name (.cons d_ZERO .nil)))) .nil)) .nil))))) .nil))) (X := []) (K := K) ?_ g3.nh no_off no_ints e3 fun w4 N4 H4 g4 j4 e4 => ?_
  · walk_at "ed"
  refine go_ret (d := f_meet (.cons p_name (.cons p_n (.cons p_x .nil)))) (X := []) (K := K) ?_ g4.nh no_off no_ints fun v N H2 g j r => k v _ N H2 (((((g1).trans g2).trans g3).trans g4).trans g) rfl r
  walk_at "ed"
def f_send : D → D
  | (.cons p_name (.cons (.int p_n) (.cons p_expression .nil))) => (.lst (.cons (f_block (.cons (.lst (.cons (f_retry_if (.cons (.tup (.cons (.str "same") (.cons (.tup (.cons (.str "cell") (.cons p_name (.cons (.tup (.cons (.str "number") (.cons (.int (p_n + 1)) .nil))) .nil)))) (.cons (.tup (.cons (.str "number") (.cons (.int p_n) .nil))) .nil)))) .nil)) (.cons (.tup (.cons (.str "put") (.cons p_name (.cons (.tup (.cons (.str "rest") (.cons (.tup (.cons (.str "plus") (.cons (.tup (.cons (.str "cell") (.cons p_name (.cons (.tup (.cons (.str "number") (.cons (.int p_n) .nil))) .nil)))) (.cons (.tup (.cons (.str "cell") (.cons p_name (.cons (.tup (.cons (.str "number") (.cons (.int (p_n + 1)) .nil))) .nil)))) .nil)))) (.cons (.tup (.cons (.str "number") (.cons (.int p_n) .nil))) .nil)))) (.cons p_expression .nil))))) (.cons (.tup (.cons (.str "put") (.cons p_name (.cons (.tup (.cons (.str "number") (.cons (.int (p_n + 1)) .nil))) (.cons (f_one_more (.cons (.tup (.cons (.str "cell") (.cons p_name (.cons (.tup (.cons (.str "number") (.cons (.int (p_n + 1)) .nil))) .nil)))) .nil)) .nil))))) .nil)))) .nil)) .nil))
  | _ => .non
def pre_send : D → Prop := fun ds => ∃ p_name p_n p_expression, ds = (.cons p_name (.cons (.int p_n) (.cons p_expression .nil)))
theorem ok_send (T : Txt K mg A) : FnOk P w K mg base CX0 2 A.a_send A.d_send ["name", "n", "expression"] (SpG K 3 pre_send f_send) := by
  refine T.F_send.ok sc_send (fun vs H Q E h => h.len) (fun cdv A' outer s H vs Q E hr h => ?_)
  obtain ⟨B, ds, _, sBH, r, ⟨hr1, hr2, hp⟩, k⟩ := h
  obtain ⟨p_name, p_n, p_expression, rfl⟩ := hp
  obtain ⟨z0, z1, z2, v0, v1, v2, q1, rfl, e⟩ := row3 ⟨hr1, hr2⟩ r
  cases q1
  refine ⟨_, pss_cons (ps_set (i := 3) sc_send.nd rfl (Or.inl rfl) (pe_tup (pa_cons (pe_str) (pa_cons (pv 0) (pa_cons (pe_tup (pa_cons (pe_str) (pa_cons (pv 1) pa_nil))) pa_nil)))))
  (pss_cons (ps_set (i := 4) sc_send.nd rfl (Or.inl rfl) (pe_tup (pa_cons (pe_str) (pa_cons (pv 0) (pa_cons (pe_tup (pa_cons (pe_str) (pa_cons (pe_op op_add (pv 1) (pe_int)) pa_nil))) pa_nil)))))
  (pss_one (ps_ret (pe_lst (pa_cons (pe_call (ok_block T) (hr.mono (by decide)) rfl T.g__block T.F__block.kp T.b__block .nil pass0 (pa_cons (pe_lst (pa_cons (pe_call (ok_retry_if T) (hr.mono (by decide)) rfl T.g__retry_if T.F__retry_if.kp T.b__retry_if .nil pass0 (pa_cons (pe_tup (pa_cons (pe_str) (pa_cons (pv 4) (pa_cons (pe_tup (pa_cons (pe_str) (pa_cons (pv 1) pa_nil))) pa_nil)))) pa_nil)) (pa_cons (pe_tup (pa_cons (pe_str) (pa_cons (pv 0) (pa_cons (pe_tup (pa_cons (pe_str) (pa_cons (pe_tup (pa_cons (pe_str) (pa_cons (pv 3) (pa_cons (pv 4) pa_nil)))) (pa_cons (pe_tup (pa_cons (pe_str) (pa_cons (pv 1) pa_nil))) pa_nil)))) (pa_cons (pv 2) pa_nil))))) (pa_cons (pe_tup (pa_cons (pe_str) (pa_cons (pv 0) (pa_cons (pe_tup (pa_cons (pe_str) (pa_cons (pe_op op_add (pv 1) (pe_int)) pa_nil))) (pa_cons (pe_call (ok_one_more T) (hr.mono (by decide)) rfl T.g__one_more T.F__one_more.kp T.b__one_more .nil pass0 (pa_cons (pv 4) pa_nil)) pa_nil))))) pa_nil)))) pa_nil)) pa_nil))))), ?_⟩
  refine go_asg (d := (.tup (.cons (.str "cell") (.cons p_name (.cons (.tup (.cons (.str "number") (.cons (.int p_n) .nil))) .nil))))) (X := []) (K := K) ?_ sBH no_off no_ints e fun w1 N1 H1 g1 j1 e1 => ?_
  · walk_at "ed"
  refine go_asg (d := (.tup (.cons (.str "cell") (.cons p_name (.cons (.tup (.cons (.str "number") (.cons (.int (p_n + 1)) .nil))) .nil))))) (X := []) (K := K) ?_ g1.nh no_off no_ints e1 fun w2 N2 H2 g2 j2 e2 => ?_
  · walk_at "ed"
  refine go_ret (d := f_send (.cons p_name (.cons (.int p_n) (.cons p_expression .nil)))) (X := []) (K := K) ?_ g2.nh no_off no_ints fun v N H2 g j r => k v _ N H2 (((g1).trans g2).trans g) rfl r
  walk_at "ed"
def f_receive : D → D
  | (.cons p_name (.cons (.int p_n) (.cons p_x .nil))) => (.lst (.cons (f_block (.cons (.lst (.cons (f_retry_if (.cons (.tup (.cons (.str "same") (.cons (.tup (.cons (.str "cell") (.cons p_name (.cons (.tup (.cons (.str "number") (.cons (.int (p_n + 1)) .nil))) .nil)))) (.cons d_ZERO .nil)))) .nil)) (.cons (.tup (.cons (.str "set") (.cons p_x (.cons (.tup (.cons (.str "cell") (.cons p_name (.cons (.tup (.cons (.str "cell") (.cons p_name (.cons (.tup (.cons (.str "number") (.cons (.int p_n) .nil))) .nil)))) .nil)))) .nil)))) (.cons (.tup (.cons (.str "put") (.cons p_name (.cons (.tup (.cons (.str "number") (.cons (.int p_n) .nil))) (.cons (.tup (.cons (.str "rest") (.cons (f_one_more (.cons (.tup (.cons (.str "cell") (.cons p_name (.cons (.tup (.cons (.str "number") (.cons (.int p_n) .nil))) .nil)))) .nil)) (.cons (.tup (.cons (.str "number") (.cons (.int p_n) .nil))) .nil)))) .nil))))) (.cons (.tup (.cons (.str "put") (.cons p_name (.cons (.tup (.cons (.str "number") (.cons (.int (p_n + 1)) .nil))) (.cons (.tup (.cons (.str "minus") (.cons (.tup (.cons (.str "cell") (.cons p_name (.cons (.tup (.cons (.str "number") (.cons (.int (p_n + 1)) .nil))) .nil)))) (.cons d_ONE .nil)))) .nil))))) .nil))))) .nil)) .nil))
  | _ => .non
def pre_receive : D → Prop := fun ds => ∃ p_name p_n p_x, ds = (.cons p_name (.cons (.int p_n) (.cons p_x .nil)))
theorem ok_receive (T : Txt K mg A) : FnOk P w K mg base CX0 2 A.a_receive A.d_receive ["name", "n", "x"] (SpG K 3 pre_receive f_receive) := by
  refine T.F_receive.ok sc_receive (fun vs H Q E h => h.len) (fun cdv A' outer s H vs Q E hr h => ?_)
  obtain ⟨B, ds, _, sBH, r, ⟨hr1, hr2, hp⟩, k⟩ := h
  obtain ⟨p_name, p_n, p_x, rfl⟩ := hp
  obtain ⟨z0, z1, z2, v0, v1, v2, q1, rfl, e⟩ := row3 ⟨hr1, hr2⟩ r
  cases q1
  refine ⟨_, pss_cons (ps_set (i := 3) sc_receive.nd rfl (Or.inl rfl) (pe_tup (pa_cons (pe_str) (pa_cons (pv 0) (pa_cons (pe_tup (pa_cons (pe_str) (pa_cons (pv 1) pa_nil))) pa_nil)))))
  (pss_cons (ps_set (i := 4) sc_receive.nd rfl (Or.inl rfl) (pe_tup (pa_cons (pe_str) (pa_cons (pv 0) (pa_cons (pe_tup (pa_cons (pe_str) (pa_cons (pe_op op_add (pv 1) (pe_int)) pa_nil))) pa_nil)))))
  (pss_one (ps_ret (pe_lst (pa_cons (pe_call (ok_block T) (hr.mono (by decide)) rfl T.g__block T.F__block.kp T.b__block .nil pass0 (pa_cons (pe_lst (pa_cons (pe_call (ok_retry_if T) (hr.mono (by decide)) rfl T.g__retry_if T.F__retry_if.kp T.b__retry_if .nil pass0 (pa_cons (pe_tup (pa_cons (pe_str) (pa_cons (pv 4) (pa_cons (pe_glob (v := .ref A.a_ZERO) rfl T.g_ZERO rfl) pa_nil)))) pa_nil)) (pa_cons (pe_tup (pa_cons (pe_str) (pa_cons (pv 2) (pa_cons (pe_tup (pa_cons (pe_str) (pa_cons (pv 0) (pa_cons (pv 3) pa_nil)))) pa_nil)))) (pa_cons (pe_tup (pa_cons (pe_str) (pa_cons (pv 0) (pa_cons (pe_tup (pa_cons (pe_str) (pa_cons (pv 1) pa_nil))) (pa_cons (pe_tup (pa_cons (pe_str) (pa_cons (pe_call (ok_one_more T) (hr.mono (by decide)) rfl T.g__one_more T.F__one_more.kp T.b__one_more .nil pass0 (pa_cons (pv 3) pa_nil)) (pa_cons (pe_tup (pa_cons (pe_str) (pa_cons (pv 1) pa_nil))) pa_nil)))) pa_nil))))) (pa_cons (pe_tup (pa_cons (pe_str) (pa_cons (pv 0) (pa_cons (pe_tup (pa_cons (pe_str) (pa_cons (pe_op op_add (pv 1) (pe_int)) pa_nil))) (pa_cons (pe_tup (pa_cons (pe_str) (pa_cons (pv 4) (pa_cons (pe_glob (v := .ref A.a_ONE) rfl T.g_ONE rfl) pa_nil)))) pa_nil))))) pa_nil))))) pa_nil)) pa_nil))))), ?_⟩
  refine go_asg (d := (.tup (.cons (.str "cell") (.cons p_name (.cons (.tup (.cons (.str "number") (.cons (.int p_n) .nil))) .nil))))) (X := []) (K := K) ?_ sBH no_off no_ints e fun w1 N1 H1 g1 j1 e1 => ?_
  · walk_at "ed"
  refine go_asg (d := (.tup (.cons (.str "cell") (.cons p_name (.cons (.tup (.cons (.str "number") (.cons (.int (p_n + 1)) .nil))) .nil))))) (X := []) (K := K) ?_ g1.nh no_off no_ints e1 fun w2 N2 H2 g2 j2 e2 => ?_
  · walk_at "ed"
  refine go_ret (d := f_receive (.cons p_name (.cons (.int p_n) (.cons p_x .nil)))) (X := []) (K := K) ?_ g2.nh no_off no_ints fun v N H2 g j r => k v _ N H2 (((g1).trans g2).trans g) rfl r
  walk_at "ed"
def f_swap : D → D
  | (.cons p_name (.cons p_x (.cons p_role .nil))) => (.lst (.cons (f_block (.cons (.lst (.cons (f_retry_if (.cons (.tup (.cons (.str "same") (.cons (.tup (.cons (.str "cell") (.cons p_name (.cons d_ZERO .nil)))) (.cons d_TWO .nil)))) .nil)) (.cons (.tup (.cons (.str "if") (.cons (.tup (.cons (.str "same") (.cons (.tup (.cons (.str "cell") (.cons p_name (.cons d_ZERO .nil)))) (.cons d_ZERO .nil)))) (.cons (.lst (.cons (.tup (.cons (.str "set") (.cons p_role (.cons d_ONE .nil)))) (.cons (.tup (.cons (.str "put") (.cons p_name (.cons d_ZERO (.cons d_ONE .nil))))) (.cons (.tup (.cons (.str "put") (.cons p_name (.cons d_ONE (.cons (.tup (.cons (.str "local") (.cons p_x .nil))) .nil))))) .nil)))) (.cons (.lst (.cons (.tup (.cons (.str "set") (.cons p_role (.cons d_ZERO .nil)))) (.cons (.tup (.cons (.str "put") (.cons p_name (.cons d_TWO (.cons (.tup (.cons (.str "local") (.cons p_x .nil))) .nil))))) (.cons (.tup (.cons (.str "set") (.cons p_x (.cons (.tup (.cons (.str "cell") (.cons p_name (.cons d_ONE .nil)))) .nil)))) (.cons (.tup (.cons (.str "put") (.cons p_name (.cons d_ZERO (.cons d_TWO .nil))))) .nil))))) .nil))))) .nil))) .nil)) (.cons (.tup (.cons (.str "if") (.cons (.tup (.cons (.str "local") (.cons p_role .nil))) (.cons (.lst (.cons (f_block (.cons (.lst (.cons (f_retry_if (.cons (.tup (.cons (.str "not") (.cons (.tup (.cons (.str "same") (.cons (.tup (.cons (.str "cell") (.cons p_name (.cons d_ZERO .nil)))) (.cons d_TWO .nil)))) .nil))) .nil)) (.cons (.tup (.cons (.str "set") (.cons p_x (.cons (.tup (.cons (.str "cell") (.cons p_name (.cons d_TWO .nil)))) .nil)))) (.cons (.tup (.cons (.str "put") (.cons p_name (.cons d_ZERO (.cons d_ZERO .nil))))) .nil)))) .nil)) .nil)) (.cons (.lst .nil) .nil))))) .nil)))
  | _ => .non
def pre_swap : D → Prop := fun _ => True
theorem ok_swap (T : Txt K mg A) : FnOk P w K mg base CX0 2 A.a_swap A.d_swap ["name", "x", "role"] (SpG K 3 pre_swap f_swap) := by
  refine T.F_swap.ok sc_swap (fun vs H Q E h => h.len) (fun cdv A' outer s H vs Q E hr h => ?_)
  obtain ⟨B, ds, _, sBH, r, ⟨hr1, hr2, hp⟩, k⟩ := h
  obtain ⟨p_name, p_x, p_role, v0, v1, v2, rfl, rfl, e⟩ := row3 ⟨hr1, hr2⟩ r
  refine ⟨_, pss_cons (ps_set (i := 3) sc_swap.nd rfl (Or.inl rfl) (pe_tup (pa_cons (pe_str) (pa_cons (pv 0) (pa_cons (pe_glob (v := .ref A.a_ZERO) rfl T.g_ZERO rfl) pa_nil)))))
  (pss_cons (ps_set (i := 4) sc_swap.nd rfl (Or.inl rfl) (pe_lst (pa_cons (pe_tup (pa_cons (pe_str) (pa_cons (pv 2) (pa_cons (pe_glob (v := .ref A.a_ONE) rfl T.g_ONE rfl) pa_nil)))) (pa_cons (pe_tup (pa_cons (pe_str) (pa_cons (pv 0) (pa_cons (pe_glob (v := .ref A.a_ZERO) rfl T.g_ZERO rfl) (pa_cons (pe_glob (v := .ref A.a_ONE) rfl T.g_ONE rfl) pa_nil))))) (pa_cons (pe_tup (pa_cons (pe_str) (pa_cons (pv 0) (pa_cons (pe_glob (v := .ref A.a_ONE) rfl T.g_ONE rfl) (pa_cons (pe_tup (pa_cons (pe_str) (pa_cons (pv 1) pa_nil))) pa_nil))))) pa_nil)))))
  (pss_cons (ps_set (i := 5) sc_swap.nd rfl (Or.inl rfl) (pe_lst (pa_cons (pe_tup (pa_cons (pe_str) (pa_cons (pv 2) (pa_cons (pe_glob (v := .ref A.a_ZERO) rfl T.g_ZERO rfl) pa_nil)))) (pa_cons (pe_tup (pa_cons (pe_str) (pa_cons (pv 0) (pa_cons (pe_glob (v := .ref A.a_TWO) rfl T.g_TWO rfl) (pa_cons (pe_tup (pa_cons (pe_str) (pa_cons (pv 1) pa_nil))) pa_nil))))) (pa_cons (pe_tup (pa_cons (pe_str) (pa_cons (pv 1) (pa_cons (pe_tup (pa_cons (pe_str) (pa_cons (pv 0) (pa_cons (pe_glob (v := .ref A.a_ONE) rfl T.g_ONE rfl) pa_nil)))) pa_nil)))) (pa_cons (pe_tup (pa_cons (pe_str) (pa_cons (pv 0) (pa_cons (pe_glob (v := .ref A.a_ZERO) rfl T.g_ZERO rfl) (pa_cons (pe_glob (v := .ref A.a_TWO) rfl T.g_TWO rfl) pa_nil))))) pa_nil))))))
  (pss_cons (ps_set (i := 6) sc_swap.nd rfl (Or.inl rfl) (pe_tup (pa_cons (pe_str) (pa_cons (pv 3) (pa_cons (pe_glob (v := .ref A.a_TWO) rfl T.g_TWO rfl) pa_nil)))))
  (pss_cons (ps_set (i := 7) sc_swap.nd rfl (Or.inl rfl) (pe_call (ok_block T) (hr.mono (by decide)) rfl T.g__block T.F__block.kp T.b__block .nil pass0 (pa_cons (pe_lst (pa_cons (pe_call (ok_retry_if T) (hr.mono (by decide)) rfl T.g__retry_if T.F__retry_if.kp T.b__retry_if .nil pass0 (pa_cons (pe_tup (pa_cons (pe_str) (pa_cons (pv 6) pa_nil))) pa_nil)) (pa_cons (pe_tup (pa_cons (pe_str) (pa_cons (pv 1) (pa_cons (pe_tup (pa_cons (pe_str) (pa_cons (pv 0) (pa_cons (pe_glob (v := .ref A.a_TWO) rfl T.g_TWO rfl) pa_nil)))) pa_nil)))) (pa_cons (pe_tup (pa_cons (pe_str) (pa_cons (pv 0) (pa_cons (pe_glob (v := .ref A.a_ZERO) rfl T.g_ZERO rfl) (pa_cons (pe_glob (v := .ref A.a_ZERO) rfl T.g_ZERO rfl) pa_nil))))) pa_nil)))) pa_nil)))
  (pss_one (ps_ret (pe_lst (pa_cons (pe_call (ok_block T) (hr.mono (by decide)) rfl T.g__block T.F__block.kp T.b__block .nil pass0 (pa_cons (pe_lst (pa_cons (pe_call (ok_retry_if T) (hr.mono (by decide)) rfl T.g__retry_if T.F__retry_if.kp T.b__retry_if .nil pass0 (pa_cons (pv 6) pa_nil)) (pa_cons (pe_tup (pa_cons (pe_str) (pa_cons (pe_tup (pa_cons (pe_str) (pa_cons (pv 3) (pa_cons (pe_glob (v := .ref A.a_ZERO) rfl T.g_ZERO rfl) pa_nil)))) (pa_cons (pv 4) (pa_cons (pv 5) pa_nil))))) pa_nil))) pa_nil)) (pa_cons (pe_tup (pa_cons (pe_str) (pa_cons (pe_tup (pa_cons (pe_str) (pa_cons (pv 2) pa_nil))) (pa_cons (pe_lst (pa_cons (pv 7) pa_nil)) (pa_cons (pe_lst pa_nil) pa_nil))))) pa_nil))))))))), ?_⟩
  refine go_asg (d := (.tup (.cons (.str "cell") (.cons p_name (.cons d_ZERO .nil))))) (X := []) (K := K) ?_ sBH no_off no_ints e fun w1 N1 H1 g1 j1 e1 => ?_
  · walk_at "ed"
  refine go_asg (d := (.lst (.cons (.tup (.cons (.str "set") (.cons p_role (.cons d_ONE .nil)))) (.cons (.tup (.cons (.str "put") (.cons p_name (.cons d_ZERO (.cons d_ONE .nil))))) (.cons (.tup (.cons (.str "put") (.cons p_name (.cons d_ONE (.cons (.tup (.cons (.str "local") (.cons p_x .nil))) .nil))))) .nil))))) (X := []) (K := K) ?_ g1.nh no_off no_ints e1 fun w2 N2 H2 g2 j2 e2 => ?_
  · walk_at "ed"
  refine go_asg (d := (.lst (.cons (.tup (.cons (.str "set") (.cons p_role (.cons d_ZERO .nil)))) (.cons (.tup (.cons (.str "put") (.cons p_name (.cons d_TWO (.cons (.tup (.cons (.str "local") (.cons p_x .nil))) .nil))))) (.cons (.tup (.cons (.str "set") (.cons p_x (.cons (.tup (.cons (.str "cell") (.cons p_name (.cons d_ONE .nil)))) .nil)))) (.cons (.tup (.cons (.str "put") (.cons p_name (.cons d_ZERO (.cons d_TWO .nil))))) .nil)))))) (X := []) (K := K) ?_ g2.nh no_off no_ints e2 fun w3 N3 H3 g3 j3 e3 => ?_
  · walk_at "ed"
  refine go_asg (d := (.tup (.cons (.str "same") (.cons (.tup (.cons (.str "cell") (.cons p_name (.cons d_ZERO .nil)))) (.cons d_TWO .nil))))) (X := []) (K := K) ?_ g3.nh no_off no_ints e3 fun w4 N4 H4 g4 j4 e4 => ?_
  · walk_at "ed"
  refine go_asg (d := (f_block (.cons (.lst (.cons (f_retry_if (.cons (.tup (.cons (.str "not") (.cons (.tup (.cons (.str "same") (.cons (.tup (.cons (.str "cell") (.cons p_name (.cons d_ZERO .nil)))) (.cons d_TWO .nil)))) .nil))) .nil)) (.cons (.tup (.cons (.str "set") (.cons p_x (.cons (.tup (.cons (.str "cell") (.cons p_name (.cons d_TWO .nil)))) .nil)))) (.cons (.tup (.cons (.str "put") (.cons p_name (.cons d_ZERO (.cons d_ZERO .nil))))) .nil)))) .nil))) (X := []) (K := K) ?_ g4.nh no_off no_ints e4 fun w5 N5 H5 g5 j5 e5 => ?_
  · walk_at "ed"
  refine go_ret (d := f_swap (.cons p_name (.cons p_x (.cons p_role .nil)))) (X := []) (K := K) ?_ g5.nh no_off no_ints fun v N H2 g j r => k v _ N H2 ((((((g1).trans g2).trans g3).trans g4).trans g5).trans g) rfl r
  walk_at "ed"
def f_law_cell : D → D
  | (.cons p_name (.cons p_n .nil)) => (.tup (.cons (.str "cell") (.cons p_name (.cons (.tup (.cons (.str "number") (.cons p_n .nil))) .nil))))
  | _ => .non
def pre_law_cell : D → Prop := fun _ => True
theorem ok_law_cell (T : Txt K mg A) : FnOk P w K mg base CX0 1 A.a__law_cell A.d__law_cell ["name", "n"] (SpG K 2 pre_law_cell f_law_cell) := by
  refine T.F__law_cell.ok sc_law_cell (fun vs H Q E h => h.len) (fun cdv A' outer s H vs Q E hr h => ?_)
  obtain ⟨B, ds, _, sBH, r, ⟨hr1, hr2, hp⟩, k⟩ := h
  obtain ⟨p_name, p_n, v0, v1, rfl, rfl, e⟩ := row2 ⟨hr1, hr2⟩ r
  refine ⟨_, pss_one (ps_ret (pe_tup (pa_cons (pe_str) (pa_cons (pv 0) (pa_cons (pe_tup (pa_cons (pe_str) (pa_cons (pv 1) pa_nil))) pa_nil))))), ?_⟩
  refine go_ret (d := f_law_cell (.cons p_name (.cons p_n .nil))) (X := []) (K := K) ?_ sBH no_off no_ints fun v N H2 g j r => k v _ N H2 g rfl r
  walk_at "ed"
def f_law_put : D → D
  | (.cons p_name (.cons p_n (.cons p_exp .nil))) => (.tup (.cons (.str "put") (.cons p_name (.cons (.tup (.cons (.str "number") (.cons p_n .nil))) (.cons p_exp .nil)))))
  | _ => .non
def pre_law_put : D → Prop := fun _ => True
theorem ok_law_put (T : Txt K mg A) : FnOk P w K mg base CX0 1 A.a__law_put A.d__law_put ["name", "n", "exp"] (SpG K 3 pre_law_put f_law_put) := by
  refine T.F__law_put.ok sc_law_put (fun vs H Q E h => h.len) (fun cdv A' outer s H vs Q E hr h => ?_)
  obtain ⟨B, ds, _, sBH, r, ⟨hr1, hr2, hp⟩, k⟩ := h
  obtain ⟨p_name, p_n, p_exp, v0, v1, v2, rfl, rfl, e⟩ := row3 ⟨hr1, hr2⟩ r
  refine ⟨_, pss_one (ps_ret (pe_tup (pa_cons (pe_str) (pa_cons (pv 0) (pa_cons (pe_tup (pa_cons (pe_str) (pa_cons (pv 1) pa_nil))) (pa_cons (pv 2) pa_nil)))))), ?_⟩
  refine go_ret (d := f_law_put (.cons p_name (.cons p_n (.cons p_exp .nil)))) (X := []) (K := K) ?_ sBH no_off no_ints fun v N H2 g j r => k v _ N H2 g rfl r
  walk_at "ed"
def f_law_retry : D → D
  | (.cons p_exp .nil) => (.tup (.cons (.str "if") (.cons p_exp (.cons (.lst (.cons (.tup (.cons (.str "retry") .nil)) .nil)) (.cons (.lst .nil) .nil)))))
  | _ => .non
def pre_law_retry : D → Prop := fun _ => True
theorem ok_law_retry (T : Txt K mg A) : FnOk P w K mg base CX0 1 A.a__law_retry A.d__law_retry ["exp"] (SpG K 1 pre_law_retry f_law_retry) := by
  refine T.F__law_retry.ok sc_law_retry (fun vs H Q E h => h.len) (fun cdv A' outer s H vs Q E hr h => ?_)
  obtain ⟨B, ds, _, sBH, r, ⟨hr1, hr2, hp⟩, k⟩ := h
  obtain ⟨p_exp, v0, rfl, rfl, e⟩ := row1 ⟨hr1, hr2⟩ r
  refine ⟨_, pss_one (ps_ret (pe_tup (pa_cons (pe_str) (pa_cons (pv 0) (pa_cons (pe_lst (pa_cons (pe_tup (pa_cons (pe_str) pa_nil)) pa_nil)) (pa_cons (pe_lst pa_nil) pa_nil)))))), ?_⟩
  refine go_ret (d := f_law_retry (.cons p_exp .nil)) (X := []) (K := K) ?_ sBH no_off no_ints fun v N H2 g j r => k v _ N H2 g rfl r
  walk_at "ed"
def f_law_plus : D → D
  | (.cons p_exp (.cons p_n .nil)) => (.tup (.cons (.str "plus") (.cons p_exp (.cons (.tup (.cons (.str "number") (.cons p_n .nil))) .nil))))
  | _ => .non
def pre_law_plus : D → Prop := fun _ => True
theorem ok_law_plus (T : Txt K mg A) : FnOk P w K mg base CX0 1 A.a__law_plus A.d__law_plus ["exp", "n"] (SpG K 2 pre_law_plus f_law_plus) := by
  refine T.F__law_plus.ok sc_law_plus (fun vs H Q E h => h.len) (fun cdv A' outer s H vs Q E hr h => ?_)
  obtain ⟨B, ds, _, sBH, r, ⟨hr1, hr2, hp⟩, k⟩ := h
  obtain ⟨p_exp, p_n, v0, v1, rfl, rfl, e⟩ := row2 ⟨hr1, hr2⟩ r
  refine ⟨_, pss_one (ps_ret (pe_tup (pa_cons (pe_str) (pa_cons (pv 0) (pa_cons (pe_tup (pa_cons (pe_str) (pa_cons (pv 1) pa_nil))) pa_nil))))), ?_⟩
  refine go_ret (d := f_law_plus (.cons p_exp (.cons p_n .nil))) (X := []) (K := K) ?_ sBH no_off no_ints fun v N H2 g j r => k v _ N H2 g rfl r
  walk_at "ed"
end
end K07

namespace K07
open PySem L2 YF
section
variable {P : Program} {w : World} {K : PySem.W.Frag} {mg : Str → Option Value} {base : Heap} {A : Adr}
local macro_rules | `(tactic| walk_at "ed1") => `(tactic| first
  | exact ev_int | exact ev_str | exact ev_non | exact ev_bl | exact ev_nil
  | (apply ev_at 0
     · assumption
     · rfl
     · rfl)
  | (apply ev_at 1
     · assumption
     · rfl
     · rfl)
  | (apply ev_at 2
     · assumption
     · rfl
     · rfl)
  | (apply ev_at 3
     · assumption
     · rfl
     · rfl)
  | (apply ev_at 4
     · assumption
     · rfl
     · rfl)
  | (apply ev_at 5
     · assumption
     · rfl
     · rfl)
  | (apply ev_at 6
     · assumption
     · rfl
     · rfl)
  | (apply ev_at 7
     · assumption
     · rfl
     · rfl)
  | (apply ev_at 8
     · assumption
     · rfl
     · rfl)
  | (apply ev_at 9
     · assumption
     · rfl
     · rfl)
  | (apply ev_at 10
     · assumption
     · rfl
     · rfl)
  | (apply ev_at 11
     · assumption
     · rfl
     · rfl)
  | (apply ev_val (zero_rp (mg := mg) _ _); assumption)
  | (apply ev_val (one_rp (mg := mg) _ _); assumption)
  | (apply ev_val (two_rp (mg := mg) _ _); assumption)
  | (apply ev_callX
     · walk_at "ed"
     · first | exact trivial | exact ⟨_, rfl⟩ | exact ⟨_, _, rfl⟩ | exact ⟨_, _, _, rfl⟩
     · rfl
     · rfl
     · rfl)
  | (apply ev_cons
     · walk_at "ed"
     · walk_at "ed")
  | (apply ev_tupX
     · walk_at "ed"
     · rfl
     · first | decide | simp [D.len])
  | (apply ev_lstX
     · walk_at "ed"
     · rfl
     · first | decide | simp [D.len])
  | (apply ev_add
     · walk_at "ed"
     · walk_at "ed")
  | (apply ev_sub
     · walk_at "ed"
     · walk_at "ed"))
local macro_rules | `(tactic| walk_at "ed") => `(tactic| walk_at "ed1")

def SpR (K : PySem.W.Frag) (C : Addr) (lo hi : Int) (f : D → Int → D) : Sp := fun vs H Q E => ∃ (B : Hp) (nm : D) (v : V) (n : Int), vs = [v, .int n] ∧ Same B H ∧ Rp K B nm [v] ∧
  ((lo ≤ n ∧ n ≤ hi ∧ ∀ u N H', Grow [] B H N H' → Rp K N (f nm n) [u] → Q u H') ∨ (¬ (lo ≤ n ∧ n ≤ hi) ∧ E (.ref C) none H))
def f_semaphore (nm : D) (n : Int) : D := .tup (.cons nm (.cons (.int 1) (.cons (.int n) .nil)))
theorem ok_semaphore (T : Txt K mg A) : FnOk P w K mg base (L2.CX P w) 1 A.a_semaphore A.d_semaphore ["name", "n"] (SpR K A.a_InvalidCount 0 1000 f_semaphore) := by
  refine T.F_semaphore.okX sc_semaphore (fun vs H Q E ⟨_, _, _, _, e, _⟩ => by rw [e]; rfl) (fun cdv A' outer s H vs Q E hr h => ?_)
  obtain ⟨B, nm, v, n, rfl, sBH, r, h⟩ := h
  refine ⟨_, pss_cons (ps_if (PW.pt (pw_or (pt_cmpR op_lt (pv 1) (pe_int) (nomark _)) (pw_or1 (pt_cmpR op_gt (pv 1) (pe_int) (nomark _)))))
  (pss_one (ps_raise rfl (takes_of rfl rfl rfl rfl) (pmk_none PySem.F.excBase_ValueError T.x_IC T.g_InvalidCount T.k_IC (raises_own T.b_IC T.t_IC) (by exact rfl))))
  (pss_nil))
  (pss_one (ps_ret (pe_tup (pa_cons (pv 0) (pa_cons (pe_int) (pa_cons (pv 1) pa_nil)))))), ?_⟩
  have e : Env K B [(v, nm), (.int n, .int n)] := (Env.nil.add (d := .int n) rfl).add r
  have bad : (n < 0 ∨ n > 1000) → E (.ref A.a_InvalidCount) none H := fun h1 => by
    rcases h with ⟨h2, h3, _⟩ | ⟨_, k⟩
    · omega
    · exact k
  refine ⟨_, rfl, _, _, rfl, rfl, _, rfl, ite2 (fun h1 => ?_) fun h1 => ?_⟩
  · exact iteT (bad (.inl (of_decide_eq_true h1)))
  · have h1' : ¬ n < 0 := fun q => h1 (decide_eq_true q)
    refine ⟨_, rfl, _, _, rfl, rfl, _, rfl, ite2 (fun h2 => ?_) fun h2 => ?_⟩
    · exact bad (.inr (of_decide_eq_true h2))
    · have h2' : ¬ n > 1000 := fun q => h2 (decide_eq_true q)
      rcases h with ⟨_, _, k⟩ | ⟨h3, _⟩
      · refine go_next ?_; dsimp only
        refine go_ret (E := { nx := fun _ H' => Q .non H', rt := Q }) (d := f_semaphore nm n) (X := []) (K := K) ?_ sBH no_off no_ints fun v N H2 g j r => k v N H2 g r
        walk_at "ed"
      · exact absurd ⟨by omega, by omega⟩ h3
def f_barrier (nm : D) (n : Int) : D := .tup (.cons nm (.cons (.int 2) (.cons (.int 0) .nil)))
theorem ok_barrier (T : Txt K mg A) : FnOk P w K mg base (L2.CX P w) 1 A.a_barrier A.d_barrier ["name", "n"] (SpR K A.a_InvalidCount 1 6 f_barrier) := by
  refine T.F_barrier.okX sc_barrier (fun vs H Q E ⟨_, _, _, _, e, _⟩ => by rw [e]; rfl) (fun cdv A' outer s H vs Q E hr h => ?_)
  obtain ⟨B, nm, v, n, rfl, sBH, r, h⟩ := h
  refine ⟨_, pss_cons (ps_if (PW.pt (pw_or (pt_cmpR op_lt (pv 1) (pe_int) (nomark _)) (pw_or1 (pt_cmpR op_gt (pv 1) (pe_int) (nomark _)))))
  (pss_one (ps_raise rfl (takes_of rfl rfl rfl rfl) (pmk_none PySem.F.excBase_ValueError T.x_IC T.g_InvalidCount T.k_IC (raises_own T.b_IC T.t_IC) (by exact rfl))))
  (pss_nil))
  (pss_one (ps_ret (pe_tup (pa_cons (pv 0) (pa_cons (pe_int) (pa_cons (pe_int) pa_nil)))))), ?_⟩
  have e : Env K B [(v, nm), (.int n, .int n)] := (Env.nil.add (d := .int n) rfl).add r
  have bad : (n < 1 ∨ n > 6) → E (.ref A.a_InvalidCount) none H := fun h1 => by
    rcases h with ⟨h2, h3, _⟩ | ⟨_, k⟩
    · omega
    · exact k
  refine ⟨_, rfl, _, _, rfl, rfl, _, rfl, ite2 (fun h1 => ?_) fun h1 => ?_⟩
  · exact iteT (bad (.inl (of_decide_eq_true h1)))
  · have h1' : ¬ n < 1 := fun q => h1 (decide_eq_true q)
    refine ⟨_, rfl, _, _, rfl, rfl, _, rfl, ite2 (fun h2 => ?_) fun h2 => ?_⟩
    · exact bad (.inr (of_decide_eq_true h2))
    · have h2' : ¬ n > 6 := fun q => h2 (decide_eq_true q)
      rcases h with ⟨_, _, k⟩ | ⟨h3, _⟩
      · refine go_next ?_; dsimp only
        refine go_ret (E := { nx := fun _ H' => Q .non H', rt := Q }) (d := f_barrier nm n) (X := []) (K := K) ?_ sBH no_off no_ints fun v N H2 g j r => k v N H2 g r
        walk_at "ed"
      · exact absurd ⟨by omega, by omega⟩ h3
def f_channel (nm : D) (n : Int) : D := .tup (.cons nm (.cons (.int (n + 2)) (.cons (.int 0) .nil)))
theorem ok_channel (T : Txt K mg A) : FnOk P w K mg base (L2.CX P w) 1 A.a_channel A.d_channel ["name", "n"] (SpR K A.a_InvalidCount 1 10 f_channel) := by
  refine T.F_channel.okX sc_channel (fun vs H Q E ⟨_, _, _, _, e, _⟩ => by rw [e]; rfl) (fun cdv A' outer s H vs Q E hr h => ?_)
  obtain ⟨B, nm, v, n, rfl, sBH, r, h⟩ := h
  refine ⟨_, pss_cons (ps_if (PW.pt (pw_or (pt_cmpR op_lt (pv 1) (pe_int) (nomark _)) (pw_or1 (pt_cmpR op_gt (pv 1) (pe_int) (nomark _)))))
  (pss_one (ps_raise rfl (takes_of rfl rfl rfl rfl) (pmk_none PySem.F.excBase_ValueError T.x_IC T.g_InvalidCount T.k_IC (raises_own T.b_IC T.t_IC) (by exact rfl))))
  (pss_nil))
  (pss_one (ps_ret (pe_tup (pa_cons (pv 0) (pa_cons (pe_op op_add (pv 1) (pe_int)) (pa_cons (pe_int) pa_nil)))))), ?_⟩
  have e : Env K B [(v, nm), (.int n, .int n)] := (Env.nil.add (d := .int n) rfl).add r
  have bad : (n < 1 ∨ n > 10) → E (.ref A.a_InvalidCount) none H := fun h1 => by
    rcases h with ⟨h2, h3, _⟩ | ⟨_, k⟩
    · omega
    · exact k
  refine ⟨_, rfl, _, _, rfl, rfl, _, rfl, ite2 (fun h1 => ?_) fun h1 => ?_⟩
  · exact iteT (bad (.inl (of_decide_eq_true h1)))
  · have h1' : ¬ n < 1 := fun q => h1 (decide_eq_true q)
    refine ⟨_, rfl, _, _, rfl, rfl, _, rfl, ite2 (fun h2 => ?_) fun h2 => ?_⟩
    · exact bad (.inr (of_decide_eq_true h2))
    · have h2' : ¬ n > 10 := fun q => h2 (decide_eq_true q)
      rcases h with ⟨_, _, k⟩ | ⟨h3, _⟩
      · refine go_next ?_; dsimp only
        refine go_ret (E := { nx := fun _ H' => Q .non H', rt := Q }) (d := f_channel nm n) (X := []) (K := K) ?_ sBH no_off no_ints fun v N H2 g j r => k v N H2 g r
        walk_at "ed"
      · exact absurd ⟨by omega, by omega⟩ h3
/-- the same, where the number is in its range -/
def pre_cnt (lo hi : Int) : D → Prop := fun ds => ∃ nm n, ds = .cons nm (.cons (.int n) .nil) ∧ lo ≤ n ∧ n ≤ hi
def f_cnt (f : D → Int → D) : D → D
  | .cons nm (.cons (.int n) .nil) => f nm n
  | _ => .non
theorem cnt_imp {C : Addr} {lo hi : Int} {f : D → Int → D} (vs : List V) (H : Hp) (Q : VK) (E : XK) (h : SpG K 2 (pre_cnt lo hi) (f_cnt f) vs H Q E) : SpR K C lo hi f vs H Q E := by
  obtain ⟨B, ds, _, s, r, ⟨h1, h2, nm, n, rfl, h3, h4⟩, k⟩ := h
  obtain ⟨a, b, v, w, e, rfl, en⟩ := row2 ⟨h1, h2⟩ r
  cases e
  have e2 : w = .int n := by simpa [Rp] using en.at_ 1 (v := w) (d := .int n) rfl
  subst e2
  exact ⟨B, nm, v, n, rfl, s, en.at_ 0 rfl, .inl ⟨h3, h4, fun u N H' g r => k u _ N H' g rfl r⟩⟩
theorem go_semaphore (T : Txt K mg A) : FnOk P w K mg base (L2.CX P w) 1 A.a_semaphore A.d_semaphore ["name", "n"] (SpG K 2 (pre_cnt 0 1000) (f_cnt f_semaphore)) := (ok_semaphore T).imp cnt_imp
theorem go_barrier (T : Txt K mg A) : FnOk P w K mg base (L2.CX P w) 1 A.a_barrier A.d_barrier ["name", "n"] (SpG K 2 (pre_cnt 1 6) (f_cnt f_barrier)) := (ok_barrier T).imp cnt_imp
theorem go_channel (T : Txt K mg A) : FnOk P w K mg base (L2.CX P w) 1 A.a_channel A.d_channel ["name", "n"] (SpG K 2 (pre_cnt 1 10) (f_cnt f_channel)) := (ok_channel T).imp cnt_imp
end
end K07

namespace K07
open PySem L2 YF
local macro_rules | `(tactic| walk_at "rd1") => `(tactic| first
  | refine ⟨_, _, rfl, rfl, ?_⟩
  | refine ⟨_, rfl, ?_⟩
  | refine ⟨(show CPow _ _ from ⟨by decide, by decide, by decide⟩), ?_⟩
  | refine ⟨(show CMul _ _ from Or.inr ⟨by decide, by decide⟩), ?_⟩
  | refine ⟨(show CDiv _ _ from ⟨by decide, by decide⟩), ?_⟩
  | refine ⟨(by show (0 : Int) < _; decide), ?_⟩
  | refine Or.inl ⟨_, rfl, ?_⟩)
local macro_rules | `(tactic| walk_at "rd") => `(tactic| repeat (walk_at "rd1"))
local macro_rules | `(tactic| walk_at "ed1") => `(tactic| first
  | exact ev_int | exact ev_str | exact ev_non | exact ev_bl | exact ev_nil
  | (apply ev_at 0
     · assumption
     · rfl
     · rfl)
  | (apply ev_at 1
     · assumption
     · rfl
     · rfl)
  | (apply ev_at 2
     · assumption
     · rfl
     · rfl)
  | (apply ev_at 3
     · assumption
     · rfl
     · rfl)
  | (apply ev_at 4
     · assumption
     · rfl
     · rfl)
  | (apply ev_at 5
     · assumption
     · rfl
     · rfl)
  | (apply ev_at 6
     · assumption
     · rfl
     · rfl)
  | (apply ev_at 7
     · assumption
     · rfl
     · rfl)
  | (apply ev_at 8
     · assumption
     · rfl
     · rfl)
  | (apply ev_at 9
     · assumption
     · rfl
     · rfl)
  | (apply ev_at 10
     · assumption
     · rfl
     · rfl)
  | (apply ev_at 11
     · assumption
     · rfl
     · rfl)
  | (apply ev_val (zero_rp (mg := mg) _ _); assumption)
  | (apply ev_val (one_rp (mg := mg) _ _); assumption)
  | (apply ev_val (two_rp (mg := mg) _ _); assumption)
  | (apply ev_callX
     · walk_at "ed"
     · first | exact trivial | exact ⟨_, rfl⟩ | exact ⟨_, _, rfl⟩ | exact ⟨_, _, _, rfl⟩
     · rfl
     · rfl
     · rfl)
  | (apply ev_cons
     · walk_at "ed"
     · walk_at "ed")
  | (apply ev_tupX
     · walk_at "ed"
     · rfl
     · first | decide | simp [D.len])
  | (apply ev_lstX
     · walk_at "ed"
     · rfl
     · first | decide | simp [D.len])
  | (apply ev_add
     · walk_at "ed"
     · walk_at "ed")
  | (apply ev_sub
     · walk_at "ed"
     · walk_at "ed"))
local macro_rules | `(tactic| walk_at "ed") => `(tactic| walk_at "ed1")
section
variable {P : Program} {w : World} {K : PySem.W.Frag} {mg : Str → Option Value} {base : Heap} {A : Adr}
theorem take_go {B H : Hp} {d : Addr} {b : Int} {Q : VK} {E : XK} (s : Same B H) (o : Off [d] B) (j : Ints [d] H) (hb : 0 < b)
    (k : ∀ z H2, 0 ≤ z → z < b → Grow [d] B H B H2 → Ints [d] H2 → (∀ a, a ≠ d → H2 a = H a) → Q (.int z) H2) : spTake K [.ref d, .int b] H Q E := by
  obtain ⟨ns, h⟩ := j d (List.mem_singleton.mpr rfl)
  refine ⟨d, ns, b, rfl, h, hb, fun z ms H2 h1 h2 h3 => ?_⟩
  rcases h3 with rfl | rfl
  · exact k z _ h1 h2 (Grow.refl s) j fun _ _ => rfl
  · exact k z _ h1 h2 (Grow.wr s (List.mem_singleton.mpr rfl) (o d (List.mem_singleton.mpr rfl))) (fun p m => ⟨ms, by rw [List.mem_singleton.mp m]; exact upd_same⟩) fun a n => upd_ne n
theorem take_call {B H : Hp} {d : Addr} {b : Int} {i : Nat} {te : TE} {σ : L2.St} {Q : VK} {E : XK} (hi : σ[i]? = some (some (.ref d))) (hte : ∀ Q : VK, Q (.int b) H → te σ H Q) (s : Same B H) (o : Off [d] B) (j : Ints [d] H) (hb : 0 < b)
    (k : ∀ z H2, 0 ≤ z → z < b → Grow [d] B H B H2 → Ints [d] H2 → (∀ a, a ≠ d → H2 a = H a) → Q (.int z) H2) : tCall (spTake K) [] E (tCons (tVar i) (tCons te tNil)) σ H Q :=
  ⟨_, hi, hte _ (take_go (K := K) (E := E) s o j hb k)⟩
def spKeys (K : PySem.W.Frag) : Sp := fun vs H Q _ => vs = [] ∧ ∀ (p : Addr) (zs : List Str), H p = none → Q (.ref p) (upd H p (.lst (zs.map V.str)))
theorem ok_law_keys (T : Txt K mg A) : FnOk P w K mg base CX0 1 A.a__law_keys A.d__law_keys [] (spKeys K) := by
  refine T.F__law_keys.ok sc_law_keys (fun vs H Q E ⟨e, _⟩ => by rw [e]; rfl) (fun cdv A' outer s H vs Q E hr h => ?_)
  obtain ⟨rfl, k⟩ := h
  refine ⟨_, pss_cons (ps_set (i := 0) sc_law_keys.nd rfl (Or.inl rfl) (pe_str))
  (pss_one (ps_ret (pe_split (pe_op op_add_str (pv 0) (pe_str)) (pe_str)))), ?_⟩
  refine ⟨_, rfl, _, _, rfl, rfl, by decide +kernel, ⟨_, rfl⟩, _, _, rfl, rfl, by decide +kernel, ?_, fun p hp => k p _ hp⟩
  have e : sizeLine = 16777216 := sizeLine_eq
  rw [e]
  decide +kernel
theorem len_app (a b : Str) : (a ++ b).length = a.length + b.length := by
  show (a.cps ++ b.cps).size = a.cps.size + b.cps.size
  exact Array.size_append
def abc : Str := "abcdefghijklmnopqrstuvwxyz"
theorem abc_len : abc.length = 26 := by decide +kernel
theorem abc_at {i : Int} (h0 : 0 ≤ i) (h1 : i < 26) : ∃ c, atI abc.cps.toList i = some c := by
  have hl : abc.cps.toList.length = 26 := abc_len
  obtain ⟨n, rfl⟩ := Int.eq_ofNat_of_zero_le h0
  have hn : n < abc.cps.toList.length := by omega
  exact ⟨_, atI_nat (List.getElem?_eq_getElem hn)⟩
theorem flat_strs (zs : List Str) : (zs.map V.str).all flatV = true := by
  induction zs with
  | nil => rfl
  | cons a r ih =>
    rw [List.map_cons, List.all_cons, ih]
    rfl
def strRow (zs : List Str) : D := D.row (zs.map D.str)
theorem strRow_rp {N : Hp} : ∀ zs : List Str, Rp K N (strRow zs) (zs.map V.str)
  | [] => rfl
  | z :: r => ⟨_, _, rfl, rfl, strRow_rp r⟩
/-- drawn names stand at p -/
def NamesAt (B H H' : Hp) (d p : Addr) (n : Nat) : Prop := Grow [d] B H B H' ∧ Ints [d] H' ∧ H p = none ∧ ∃ zs : List Str, H' p = some (.lst (zs.map V.str)) ∧ zs.length = n
theorem NamesAt.new {B H H' : Hp} {d p q : Addr} {n : Nat} {u : HO} (h : NamesAt B H H' d p n) (hq : H' q = none) : NamesAt B H (upd H' q u) d p n := by
  obtain ⟨g, j, h0, zs, e1, e2⟩ := h
  exact ⟨g.trans (Grow.new0 g.nh hq), fun a m => by obtain ⟨ns, e⟩ := j a m; exact ⟨ns, Same.upd hq a _ e⟩, h0, zs, Same.upd hq p _ e1, e2⟩
def spNames (K : PySem.W.Frag) : Sp := fun vs H Q _ => ∃ (B : Hp) (d : Addr) (n : Nat), vs = [.ref d, .int n] ∧ n ≤ 26 ∧ Same B H ∧ Off [d] B ∧ Ints [d] H ∧
  ∀ (p : Addr) (zs : List Str) (H' : Hp), Grow [d] B H B H' → Ints [d] H' → H p = none → H' p = some (.lst (zs.map V.str)) → zs.length = n → Q (.ref p) H'
theorem ok_law_names (T : Txt K mg A) : FnOk P w K mg base CX0 2 A.a__law_names A.d__law_names ["draws", "many"] (spNames K) := by
  refine T.F__law_names.ok sc_law_names (fun vs H Q E ⟨_, _, _, e, _⟩ => by rw [e]; rfl) (fun cdv A' outer s H vs Q E hr h => ?_)
  obtain ⟨B, d, n, rfl, hn, sBH, o, j, k⟩ := h
  refine ⟨_, pss_cons (ps_set (i := 2) sc_law_names.nd rfl (Or.inl rfl) (pe_str))
  (pss_cons (ps_set (i := 3) sc_law_names.nd rfl (Or.inl rfl) (pe_lst pa_nil))
  (pss_cons (ps_for PassesOwn.never rfl (pi_range1 (by rfl) T.n_range (pa_cons (pv 1) pa_nil)) (pg_name (i := 4) sc_law_names.nd rfl (Or.inl rfl))
  (pss_cons (ps_set (i := 5) sc_law_names.nd rfl (Or.inl rfl) (pe_ix ix_str (pv 2) (pe_call (ok_law_take T) (hr.mono (by decide)) rfl T.g__law_take T.F__law_take.kp T.b__law_take .nil pass0 (pa_cons (pv 0) (pa_cons (pe_int) pa_nil))) (fun _ _ => rfl)))
  (pss_cons (ps_for PassesOwn.never rfl (pi_range1 (by rfl) T.n_range (pa_cons (pe_call (ok_law_take T) (hr.mono (by decide)) rfl T.g__law_take T.F__law_take.kp T.b__law_take .nil pass0 (pa_cons (pv 0) (pa_cons (pe_int) pa_nil))) pa_nil)) (pg_name (i := 6) sc_law_names.nd rfl (Or.inl rfl))
  (pss_one (ps_set (i := 5) sc_law_names.nd rfl (Or.inl rfl) (pe_op op_add_str (pv 5) (pe_ix ix_str (pv 2) (pe_call (ok_law_take T) (hr.mono (by decide)) rfl T.g__law_take T.F__law_take.kp T.b__law_take .nil pass0 (pa_cons (pv 0) (pa_cons (pe_int) pa_nil))) (fun _ _ => rfl))))))
  (pss_cons (ps_for PassesOwn.never rfl (pi_range1 (by rfl) T.n_range (pa_cons (pe_int) pa_nil)) (pg_name (i := 6) sc_law_names.nd rfl (Or.inl rfl))
  (pss_one (ps_if (PW.pt (pw_or (pt_cmpR op_in_seq (pv 5) (pv 3) (by rfl)) (pw_or1 (pt_cmpR op_in_seq (pv 5) (pe_call0 (ok_law_keys T) (hr.mono (by decide)) rfl T.g__law_keys T.F__law_keys.kp T.b__law_keys .nil pass0) (by rfl)))))
  (pss_one (ps_set (i := 5) sc_law_names.nd rfl (Or.inl rfl) (pe_op op_add_str (pv 5) (pe_ix ix_str (pv 2) (pv 4) (fun _ _ => rfl)))))
  (pss_nil))))
  (pss_one (ps_expr (pe_bm PySem.F.plainAttrs_list PySem.F.slot_list_append PySem.F.type_list_append mt_append (pv 3) (pa_cons (pv 5) pa_nil))))))))
  (pss_one (ps_ret (pv 3))))), ?_⟩
  refine ⟨Nat.zero_le _, fun p hp => ?_⟩
  obtain ⟨ns, hd⟩ := j d (List.mem_singleton.mpr rfl)
  have npd : p ≠ d := fun e => by rw [e, hd] at hp; cases hp
  have j0 : Ints [d] (upd H p (.lst [])) := fun q m => by
    rw [List.mem_singleton.mp m]
    exact ⟨ns, by rw [upd_ne npd.symm]; exact hd⟩
  have n0 : NamesAt B H (upd H p (.lst [])) d p 0 := ⟨Grow.new0 sBH hp, j0, hp, [], upd_same, rfl⟩
  refine ⟨_, rfl, n, rfl, by omega, by omega, for_range (n := n) (fun i σ H' => ∃ v4 v5 v6 : Option V, σ = [some (.ref d), some (.int n), some (.str abc), some (.ref p), v4, v5, v6] ∧ NamesAt B H H' d p i) ⟨_, _, _, rfl, n0⟩ ?_ ?_⟩
  · rintro i σ H1 hi ⟨v4, v5, v6, rfl, R⟩
    refine ⟨_, rfl, ?_⟩
    refine take_call (b := 26) rfl (fun _ h => h) R.1.nh o R.2.1 (by decide) fun z H2 z0 z1 g2 j2 same2 => ?_
    obtain ⟨c, hc⟩ := abc_at z0 z1
    refine ⟨abc, z, c, rfl, rfl, by decide +kernel, hc, ?_⟩
    have R2 : NamesAt B H H2 d p i := ⟨R.1.trans g2, j2, R.2.2.1, by obtain ⟨zs, e1, e2⟩ := R.2.2.2; exact ⟨zs, by rw [same2 p npd]; exact e1, e2⟩⟩
    -- for j in range(take 4)
    refine take_call (b := 4) rfl (fun _ h => h) R2.1.nh o R2.2.1 (by decide) fun m H3 m0 m1 g3 j3 same3 => ?_
    have R3 : NamesAt B H H3 d p i := ⟨R2.1.trans g3, j3, R2.2.2.1, by obtain ⟨zs, e1, e2⟩ := R2.2.2.2; exact ⟨zs, by rw [same3 p npd]; exact e1, e2⟩⟩
    refine ⟨m, rfl, by omega, by omega, for_range (n := m.toNat) (fun u σ H' => ∃ (nm : Str) (v6 : Option V), σ = [some (.ref d), some (.int n), some (.str abc), some (.ref p), some (.int (0 + (i : Int))), some (.str nm), v6] ∧ nm.length = 1 + u ∧ NamesAt B H H' d p i) ⟨_, _, rfl, rfl, R3⟩ ?_ ?_⟩
    · rintro u σ H4 hu ⟨nm, v6, rfl, hl, R4⟩
      refine ⟨_, rfl, _, rfl, ?_⟩
      refine take_call (b := 26) rfl (fun _ h => h) R4.1.nh o R4.2.1 (by decide) fun z H5 z0 z1 g5 j5 same5 => ?_
      obtain ⟨c, hc⟩ := abc_at z0 z1
      refine ⟨abc, z, c, rfl, rfl, by decide +kernel, hc, _, _, rfl, rfl, ?_, ?_⟩
      · rw [hl, sizeLine_eq]
        show 1 + u + 1 ≤ _
        omega
      · refine ⟨_, _, rfl, ?_, R4.1.trans g5, j5, R4.2.2.1, by obtain ⟨zs, e1, e2⟩ := R4.2.2.2; exact ⟨zs, by rw [same5 p npd]; exact e1, e2⟩⟩
        rw [len_app, hl]
        rfl
    · rintro σ H4 ⟨nm, v6, rfl, hl, R4⟩
      refine ⟨_, rfl, by decide, by decide, for_range (n := 8) (fun u σ H' => ∃ (nm : Str) (v6 : Option V), σ = [some (.ref d), some (.int n), some (.str abc), some (.ref p), some (.int (0 + (i : Int))), some (.str nm), v6] ∧ nm.length ≤ 4 + u ∧ NamesAt B H H' d p i) ⟨_, _, rfl, by omega, R4⟩ ?_ ?_⟩
      · rintro u σ H5 hu ⟨nm, v6, rfl, hl, R5⟩
        have add : ∀ H6, NamesAt B H H6 d p i → tAsg (tOp (fun x y H Q => ∃ i j, x = .str i ∧ y = .str j ∧ i.length + j.length ≤ sizeLine ∧ Q (.str (i ++ j)) H) (tVar 5) (tOp rIxS (tVar 2) (tVar 4))) (gName 5)
            { nx := fun σ H' => ∃ (nm : Str) (v6 : Option V), σ = [some (.ref d), some (.int n), some (.str abc), some (.ref p), some (.int (0 + (i : Int))), some (.str nm), v6] ∧ nm.length ≤ 4 + (u + 1) ∧ NamesAt B H H' d p i, rt := fun _ _ => False }
            [some (.ref d), some (.int n), some (.str abc), some (.ref p), some (.int (0 + (i : Int))), some (.str nm), some (.int (0 + (u : Int)))] H6 := fun H6 R6 => by
          obtain ⟨c, hc⟩ := abc_at (i := 0 + (i : Int)) (by omega) (by omega)
          refine ⟨_, rfl, _, rfl, _, rfl, abc, _, c, rfl, rfl, by decide +kernel, hc, _, _, rfl, rfl, ?_, ?_⟩
          · rw [sizeLine_eq]
            show nm.length + 1 ≤ _
            omega
          · refine ⟨_, _, rfl, ?_, R6⟩
            rw [len_app]
            show nm.length + 1 ≤ _
            omega
        obtain ⟨g5, j5, h5, zs, e1, e2⟩ := id R5
        refine ⟨_, rfl, _, rfl, p, _, rfl, .inl (SqL.of e1), rfl, flat_strs zs, _, rfl, ite2 (fun _ => ?_) fun _ => ?_⟩
        · exact add H5 R5
        · refine ⟨_, rfl, rfl, fun q ks hq => ⟨q, _, rfl, .inl (SqL.of upd_same), rfl, flat_strs ks, _, rfl, ite2 (fun _ => ?_) fun _ => ?_⟩⟩
          · exact add _ (R5.new hq)
          · exact ⟨nm, _, rfl, by omega, R5.new hq⟩
      · rintro σ H5 ⟨nm, v6, rfl, hl, R5⟩
        obtain ⟨g5, j5, h5, zs, e1, e2⟩ := id R5
        refine ⟨_, rfl, .inl ⟨rfl, _, SqL.of e1⟩, _, rfl, p, _, _, rfl, rfl, e1, ?_, ?_⟩
        · rw [List.length_map, sizeLine_eq]
          omega
        · have hB : B p = none := sBH.free h5
          refine ⟨_, _, _, rfl, g5.wrNew h5 hB, fun a m => ?_, h5, zs ++ [nm], by rw [upd_same, List.map_append]; rfl, by rw [List.length_append, e2]; rfl⟩
          · rw [List.mem_singleton.mp m, upd_ne npd.symm]
            exact j5 d (List.mem_singleton.mpr rfl)
  · rintro σ H1 ⟨v4, v5, v6, rfl, R⟩
    obtain ⟨g, j1, h1, zs, h2, h3⟩ := R
    exact ⟨_, rfl, k p zs H1 g j1 h1 h2 h3⟩
end
end K07

namespace K07
open PySem L2 YF
local macro_rules | `(tactic| walk_at "rd1") => `(tactic| first
  | refine ⟨_, _, rfl, rfl, ?_⟩
  | refine ⟨_, rfl, ?_⟩
  | refine ⟨(show CPow _ _ from ⟨by decide, by decide, by decide⟩), ?_⟩
  | refine ⟨(show CMul _ _ from Or.inr ⟨by decide, by decide⟩), ?_⟩
  | refine ⟨(show CDiv _ _ from ⟨by decide, by decide⟩), ?_⟩
  | refine ⟨(by show (0 : Int) < _; decide), ?_⟩
  | refine Or.inl ⟨_, rfl, ?_⟩)
local macro_rules | `(tactic| walk_at "rd") => `(tactic| repeat (walk_at "rd1"))
local macro_rules | `(tactic| walk_at "ed1") => `(tactic| first
  | exact ev_int | exact ev_str | exact ev_non | exact ev_bl | exact ev_nil
  | (apply ev_at 0
     · assumption
     · rfl
     · rfl)
  | (apply ev_at 1
     · assumption
     · rfl
     · rfl)
  | (apply ev_at 2
     · assumption
     · rfl
     · rfl)
  | (apply ev_at 3
     · assumption
     · rfl
     · rfl)
  | (apply ev_at 4
     · assumption
     · rfl
     · rfl)
  | (apply ev_at 5
     · assumption
     · rfl
     · rfl)
  | (apply ev_at 6
     · assumption
     · rfl
     · rfl)
  | (apply ev_at 7
     · assumption
     · rfl
     · rfl)
  | (apply ev_at 8
     · assumption
     · rfl
     · rfl)
  | (apply ev_at 9
     · assumption
     · rfl
     · rfl)
  | (apply ev_at 10
     · assumption
     · rfl
     · rfl)
  | (apply ev_at 11
     · assumption
     · rfl
     · rfl)
  | (apply ev_val (zero_rp (mg := mg) _ _); assumption)
  | (apply ev_val (one_rp (mg := mg) _ _); assumption)
  | (apply ev_val (two_rp (mg := mg) _ _); assumption)
  | (apply ev_callX
     · walk_at "ed"
     · first | exact trivial | exact ⟨_, rfl⟩ | exact ⟨_, _, rfl⟩ | exact ⟨_, _, _, rfl⟩
     · rfl
     · rfl
     · rfl)
  | (apply ev_cons
     · walk_at "ed"
     · walk_at "ed")
  | (apply ev_tupX
     · walk_at "ed"
     · rfl
     · first | decide | simp [D.len])
  | (apply ev_lstX
     · walk_at "ed"
     · rfl
     · first | decide | simp [D.len])
  | (apply ev_add
     · walk_at "ed"
     · walk_at "ed")
  | (apply ev_sub
     · walk_at "ed"
     · walk_at "ed"))
local macro_rules | `(tactic| walk_at "ed") => `(tactic| walk_at "ed1")
section
variable {P : Program} {w : World} {K : PySem.W.Frag} {mg : Str → Option Value} {base : Heap} {A : Adr}
def spNumber (K : PySem.W.Frag) : Sp := fun vs H Q _ => ∃ (B : Hp) (d : Addr), vs = [.ref d] ∧ Same B H ∧ Off [d] B ∧ Ints [d] H ∧
  ∀ (z : Int) (H' : Hp), Grow [d] B H B H' → Ints [d] H' → -1000000000 ≤ z → z ≤ 1000000000 → Q (.int z) H'
theorem ok_law_number (T : Txt K mg A) : FnOk P w K mg base CX0 2 A.a__law_number A.d__law_number ["draws"] (spNumber K) := by
  refine T.F__law_number.ok sc_law_number (fun vs H Q E ⟨_, _, e, _⟩ => by rw [e]; rfl) (fun cdv A' outer s H vs Q E hr h => ?_)
  obtain ⟨B, d, rfl, sBH, o, j, k⟩ := h
  refine ⟨_, pss_cons (ps_if (pt_cmpR op_gt (pe_call (ok_law_take T) (hr.mono (by decide)) rfl T.g__law_take T.F__law_take.kp T.b__law_take .nil pass0 (pa_cons (pv 0) (pa_cons (pe_int) pa_nil))) (pe_int) (nomark _))
  (pss_one (ps_ret (pe_op op_sub (pe_call (ok_law_take T) (hr.mono (by decide)) rfl T.g__law_take T.F__law_take.kp T.b__law_take .nil pass0 (pa_cons (pv 0) (pa_cons (pe_int) pa_nil))) (pe_int))))
  (pss_nil))
  (pss_one (ps_ret (pe_ix ix_list (pe_lst (pa_cons (pe_op op_pow (pe_int) (pe_int)) (pa_cons (pe_un un_neg (pe_op op_pow (pe_int) (pe_int))) (pa_cons (pe_op op_sub (pe_int) (pe_call (ok_law_take T) (hr.mono (by decide)) rfl T.g__law_take T.F__law_take.kp T.b__law_take .nil pass0 (pa_cons (pv 0) (pa_cons (pe_int) pa_nil)))) (pa_cons (pe_op op_mul (pe_int) (pe_call (ok_law_take T) (hr.mono (by decide)) rfl T.g__law_take T.F__law_take.kp T.b__law_take .nil pass0 (pa_cons (pv 0) (pa_cons (pe_int) pa_nil)))) pa_nil))))) (pe_call (ok_law_take T) (hr.mono (by decide)) rfl T.g__law_take T.F__law_take.kp T.b__law_take .nil pass0 (pa_cons (pv 0) (pa_cons (pe_int) pa_nil))) (fun _ _ => rfl)))), ?_⟩
  refine take_call (b := 6) rfl (fun _ h => h) sBH o j (by decide) fun z1 H1 l1 u1 g1 j1 s1 => ?_
  refine ⟨_, _, rfl, rfl, _, rfl, ite2 (fun _ => ?_) fun _ => ?_⟩
  · refine take_call (b := 12) rfl (fun _ h => h) g1.nh o j1 (by decide) fun z2 H2 l2 u2 g2 j2 s2 => ?_
    refine ⟨_, _, rfl, rfl, ?_⟩
    exact k _ _ (g1.trans g2) j2 (by omega) (by omega)
  · refine ⟨_, _, rfl, rfl, (show CPow _ _ from ⟨by decide, by decide, by decide⟩), ?_⟩
    refine ⟨_, _, rfl, rfl, (show CPow _ _ from ⟨by decide, by decide, by decide⟩), _, rfl, ?_⟩
    refine take_call (b := 99) rfl (fun _ h => h) g1.nh o j1 (by decide) fun z2 H2 l2 u2 g2 j2 s2 => ?_
    refine ⟨_, _, rfl, rfl, ?_⟩
    refine take_call (b := 1000) rfl (fun _ h => h) g2.nh o j2 (by decide) fun z3 H3 l3 u3 g3 j3 s3 => ?_
    refine ⟨_, _, rfl, rfl, (show CMul _ _ from Or.inl ⟨by decide, by decide⟩), (by show 4 ≤ sizeLine; decide), fun p hp => ?_⟩
    have g4 := (g1.trans g2).trans (g3.trans (Grow.new0 (o := .lst [V.int (10 ^ (9 : Int).toNat), V.int (-10 ^ (9 : Int).toNat), V.int (999999999 - z2), V.int (1000 * z3)]) g3.nh hp))
    have j4 : Ints [d] (upd H3 p (.lst [V.int (10 ^ (9 : Int).toNat), V.int (-10 ^ (9 : Int).toNat), V.int (999999999 - z2), V.int (1000 * z3)])) := fun a m => by
      obtain ⟨ns, e⟩ := j3 a m
      exact ⟨ns, Same.upd hp a _ e⟩
    refine take_call (b := 4) rfl (fun _ h => h) g4.nh o j4 (by decide) fun z5 H5 l5 u5 g5 j5 s5 => ?_
    obtain ⟨ns, e3⟩ := j3 d (List.mem_singleton.mpr rfl)
    have npd : p ≠ d := fun e => by rw [e, e3] at hp; cases hp
    have h5 : H5 p = some (.lst [V.int (10 ^ (9 : Int).toNat), V.int (-10 ^ (9 : Int).toNat), V.int (999999999 - z2), V.int (1000 * z3)]) := by rw [s5 p npd, upd_same]
    have fin : ∀ z : Int, -1000000000 ≤ z → z ≤ 1000000000 → Q (.int z) H5 := fun z a b => k z H5 (g4.trans g5) j5 a b
    have e9 : (10 : Int) ^ (9 : Int).toNat = 1000000000 := by decide
    have c4 : z5 = 0 ∨ z5 = 1 ∨ z5 = 2 ∨ z5 = 3 := by omega
    rcases c4 with rfl | rfl | rfl | rfl
    · exact ⟨p, _, _, _, rfl, rfl, SqL.of h5, rfl, fin _ (by rw [e9]; decide) (by rw [e9]; decide)⟩
    · exact ⟨p, _, _, _, rfl, rfl, SqL.of h5, rfl, fin _ (by rw [e9]; decide) (by rw [e9]; decide)⟩
    · exact ⟨p, _, _, _, rfl, rfl, SqL.of h5, rfl, fin _ (by omega) (by omega)⟩
    · exact ⟨p, _, _, _, rfl, rfl, SqL.of h5, rfl, fin _ (by omega) (by omega)⟩
theorem number_call {B H : Hp} {d : Addr} {i : Nat} {σ : L2.St} {Q : VK} {E : XK} (hi : σ[i]? = some (some (.ref d))) (s : Same B H) (o : Off [d] B) (j : Ints [d] H)
    (k : ∀ (z : Int) (H2 : Hp), Grow [d] B H B H2 → Ints [d] H2 → -1000000000 ≤ z → z ≤ 1000000000 → Q (.int z) H2) : tCall (spNumber K) [] E (tCons (tVar i) tNil) σ H Q :=
  ⟨_, hi, B, d, rfl, s, o, j, k⟩
/-- drawn expressions: what the draws can make of names of locals and of cells, so deep at most -/
inductive IsExp (vars cells : List Str) : Nat → D → Prop where
  | num {m : Nat} (z : Int) (h1 : -1000000000 ≤ z) (h2 : z ≤ 1000000000) : IsExp vars cells m (t2 (.str "number") (.int z))
  | loc {m : Nat} (x : Str) (h : x ∈ vars) : IsExp vars cells m (t2 (.str "local") (.str x))
  | cell {m : Nat} (x : Str) (h : x ∈ cells) (i : D) (hi : IsExp vars cells m i) : IsExp vars cells (m + 1) (.tup (.cons (.str "cell") (.cons (.str x) (.cons i .nil))))
  | one {m : Nat} (w : Str) (h : w = "negative" ∨ w = "not") (a : D) (ha : IsExp vars cells m a) : IsExp vars cells (m + 1) (t2 (.str w) a)
  | two {m : Nat} (w : Str) (h : w ∈ (["plus", "minus", "times", "over", "rest", "less", "atmost", "same", "and", "or"] : List Str)) (a b : D) (ha : IsExp vars cells m a) (hb : IsExp vars cells m b) :
      IsExp vars cells (m + 1) (.tup (.cons (.str w) (.cons a (.cons b .nil))))
theorem IsExp.good {vars cells : List Str} {m : Nat} {e : D} (h : IsExp vars cells m e) : e.isRow = false ∧ e.ok = true ∧ e.dep ≤ m + 1 := by
  induction h with
  | num z _ _ => exact ⟨rfl, rfl, by simp [t2, D.dep]⟩
  | loc x _ => exact ⟨rfl, rfl, by simp [t2, D.dep]⟩
  | cell x _ i _ ih =>
    obtain ⟨h1, h2, h3⟩ := ih
    refine ⟨rfl, by simp [D.ok, D.isRow, h1, h2], ?_⟩
    simp only [D.dep]
    omega
  | one w _ a _ ih =>
    obtain ⟨h1, h2, h3⟩ := ih
    refine ⟨rfl, by simp [t2, D.ok, D.isRow, h1, h2], ?_⟩
    simp only [t2, D.dep]
    omega
  | two w _ a b _ _ iha ihb =>
    obtain ⟨h1, h2, h3⟩ := iha
    obtain ⟨k1, k2, k3⟩ := ihb
    refine ⟨rfl, by simp [D.ok, D.isRow, h1, h2, k1, k2], ?_⟩
    simp only [D.dep]
    omega
theorem IsExp.more {vars cells : List Str} {m n : Nat} {e : D} (h : IsExp vars cells m e) : m ≤ n → IsExp vars cells n e := by
  induction h generalizing n with
  | num z h1 h2 => exact fun _ => .num z h1 h2
  | loc x h => exact fun _ => .loc x h
  | cell x h i _ ih =>
    intro l
    obtain ⟨n', rfl⟩ : ∃ n', n = n' + 1 := ⟨n - 1, by omega⟩
    exact .cell x h i (ih (by omega))
  | one w h a _ ih =>
    intro l
    obtain ⟨n', rfl⟩ : ∃ n', n = n' + 1 := ⟨n - 1, by omega⟩
    exact .one w h a (ih (by omega))
  | two w h a b _ _ iha ihb =>
    intro l
    obtain ⟨n', rfl⟩ : ∃ n', n = n' + 1 := ⟨n - 1, by omega⟩
    exact .two w h a b (iha (by omega)) (ihb (by omega))
def spExp (K : PySem.W.Frag) (m : Nat) : Sp := fun vs H Q _ => ∃ (B : Hp) (d : Addr) (vv vc : V) (vars cells : List Str) (n : Nat), vs = [.ref d, vv, vc, .int n] ∧ Same B H ∧ Off [d] B ∧ Ints [d] H ∧
  Rp K B (.lst (strRow vars)) [vv] ∧ Rp K B (.lst (strRow cells)) [vc] ∧ n < m ∧
  ∀ (v : V) (e : D) (N H' : Hp), Grow [d] B H N H' → Ints [d] H' → IsExp vars cells (n + 1) e → Rp K N e [v] → Q v H'
theorem exp_call {m : Nat} {B H : Hp} {d : Addr} {i1 i2 i3 : Nat} {te : TE} {vv vc : V} {vars cells : List Str} {n : Nat} {σ : L2.St} {Q : VK} {E : XK} (h0 : σ[i1]? = some (some (.ref d))) (h1 : σ[i2]? = some (some vv)) (h2 : σ[i3]? = some (some vc)) (h3 : Te te σ H (.int n))
    (s : Same B H) (o : Off [d] B) (j : Ints [d] H) (rv : Rp K B (.lst (strRow vars)) [vv]) (rc : Rp K B (.lst (strRow cells)) [vc]) (hm : n < m)
    (k : ∀ (v : V) (e : D) (N H' : Hp), Grow [d] B H N H' → Ints [d] H' → IsExp vars cells (n + 1) e → Rp K N e [v] → Q v H') : tCall (spExp K m) [] E (tCons (tVar i1) (tCons (tVar i2) (tCons (tVar i3) (tCons te tNil)))) σ H Q :=
  ⟨_, h0, _, h1, _, h2, h3 _ ⟨B, d, vv, vc, vars, cells, n, rfl, s, o, j, rv, rc, hm, k⟩⟩
/-- a list of texts, read -/
theorem strRow_get {N : Hp} : ∀ {zs : List Str} {vs : List V}, Rp K N (strRow zs) vs → vs = zs.map V.str
  | [], vs, h => h
  | z :: r, vs, ⟨x, xs, e, h1, h2⟩ => by
    have e1 : x = .str z := (List.cons.inj h1).1
    rw [e, e1, strRow_get h2]
    rfl
theorem str_list {N : Hp} {zs : List Str} {v : V} (r : Rp K N (.lst (strRow zs)) [v]) : ∃ a, v = .ref a ∧ SqL K N a (zs.map V.str) := by
  obtain ⟨a, xs, e, h, _, h2⟩ := r
  rw [strRow_get h2] at h
  exact ⟨a, (List.cons.inj e).1, h⟩
theorem str_at {zs : List Str} {z : Int} (h0 : 0 ≤ z) (h1 : z < (zs.map V.str).length) : ∃ x, x ∈ zs ∧ atI (zs.map V.str) z = some (.str x) := by
  obtain ⟨n, rfl⟩ := Int.eq_ofNat_of_zero_le h0
  rw [List.length_map] at h1
  have hn : n < zs.length := by omega
  refine ⟨zs[n], List.getElem_mem hn, atI_nat ?_⟩
  rw [List.getElem?_map, List.getElem?_eq_getElem hn]
  rfl
theorem ret_p {X : List Addr} {B H : Hp} {te : TE} {σ : L2.St} {φ : D → Prop} {E : Ends} (h : EvP K X B te σ φ) (s : Same B H) (o : Off X B) (j : Ints X H)
    (k : ∀ v e N H2, Grow X B H N H2 → Ints X H2 → φ e → Rp K N e [v] → E.rt v H2) : tRet te E σ H := h H s o j _ k
theorem asg_p {X : List Addr} {B H : Hp} {te : TE} {σ : L2.St} {φ : D → Prop} {E : Ends} {rest : TS} {i : Nat} (h : EvP K X B te σ φ) (s : Same B H) (o : Off X B) (j : Ints X H)
    (k : ∀ v e N H2, Grow X B H N H2 → Ints X H2 → φ e → Rp K N e [v] → rest E (σ.set i (some v)) H2) : tSeq (tAsg te (gName i)) rest E σ H := h H s o j _ k
theorem ep_number {d : Addr} {B : Hp} {i : Nat} {σ : L2.St} {E : XK} (hi : σ[i]? = some (some (.ref d))) : EvP K [d] B (tCall (spNumber K) [] E (tCons (tVar i) tNil)) σ (fun e => ∃ z : Int, e = .int z ∧ -1000000000 ≤ z ∧ z ≤ 1000000000) := fun H s o j Q q =>
  number_call hi s o j fun z H2 g j2 a b => q _ _ B H2 g j2 ⟨z, rfl, a, b⟩ rfl
theorem ep_pick {d : Addr} {B : Hp} {i i2 : Nat} {σ : L2.St} {E : XK} {v : V} {zs : List Str} {te : TE} (hv : Rp K B (.lst (strRow zs)) [v]) (hi : σ[i]? = some (some (.ref d))) (h2 : σ[i2]? = some (some v)) (hte : ∀ H, Same B H → Te te σ H (.int ((zs.map V.str).length : Int))) (hz : 0 < (zs.map V.str).length) :
    EvP K [d] B (tOp (rIxL K) (tVar i2) (tCall (spTake K) [] E (tCons (tVar i) (tCons te tNil)))) σ (fun e => ∃ x, e = .str x ∧ x ∈ zs) := fun H s o j Q q => by
  obtain ⟨a, rfl, ha⟩ := str_list hv
  refine ⟨_, h2, take_call (K := K) hi (hte H s) s o j (by omega) fun z H2 z0 z1 g j2 _ => ?_⟩
  obtain ⟨x, hx, e⟩ := str_at z0 z1
  exact ⟨a, _, z, _, rfl, rfl, Same.sqL g.nh ha, e, q _ _ B H2 g j2 ⟨x, rfl, hx⟩ rfl⟩
theorem ep_exp {m : Nat} {d : Addr} {B : Hp} {i1 i2 i3 : Nat} {te : TE} {vv vc : V} {vars cells : List Str} {n : Nat} {σ : L2.St} {E : XK} (h0 : σ[i1]? = some (some (.ref d))) (h1 : σ[i2]? = some (some vv)) (h2 : σ[i3]? = some (some vc)) (h3 : ∀ H, Te te σ H (.int n))
    (rv : Rp K B (.lst (strRow vars)) [vv]) (rc : Rp K B (.lst (strRow cells)) [vc]) (hm : n < m) : EvP K [d] B (tCall (spExp K m) [] E (tCons (tVar i1) (tCons (tVar i2) (tCons (tVar i3) (tCons te tNil))))) σ (fun e => IsExp vars cells (n + 1) e) := fun H s o j Q q =>
  exp_call h0 h1 h2 (h3 H) s o j rv rc hm fun v e N H' g j2 h r => q v e N H' g j2 h r
theorem ep_menu {d : Addr} {B : Hp} {i : Nat} {σ : L2.St} {E : XK} {zs : List Str} {b : Int} {ta : TA} (h : EvPs K [d] B ta σ (· = strRow zs)) (hi : σ[i]? = some (some (.ref d))) (hb : b = ((zs.map V.str).length : Int)) (hz : 0 < (zs.map V.str).length) (hl : (zs.map V.str).length ≤ 1000) (h1 : (strRow zs).isRow = true) (h2 : (strRow zs).len ≤ 100000) :
    EvP K [d] B (tOp (rIxL K) (tLst ta) (tCall (spTake K) [] E (tCons (tVar i) (tCons (tC (.int b)) tNil)))) σ (fun e => ∃ x, e = .str x ∧ x ∈ zs) := fun H s o j Q q =>
  ed_lst h h1 h2 H s o j _ fun v e N H1 g j1 p r => by
    subst p
    obtain ⟨a, rfl, ha⟩ := str_list r
    refine take_call (K := K) hi (te_c (H := H1)) g.nh (g.offI o j) j1 (by omega) fun z H2 z0 z1 g2 j2 _ => ?_
    obtain ⟨x, hx, e⟩ := str_at (zs := zs) z0 (by omega)
    exact ⟨a, _, z, _, rfl, rfl, Same.sqL (g2.nh) ha, e, q _ _ N H2 (g.trans g2) j2 ⟨x, rfl, hx⟩ rfl⟩
theorem row_two {a b : D} : (D.cons a (D.cons b .nil)).isRow = true ∧ (D.cons a (D.cons b .nil)).len ≤ 100000 := ⟨rfl, by simp [D.len]⟩
theorem row_three {a b c : D} : (D.cons a (D.cons b (D.cons c .nil))).isRow = true ∧ (D.cons a (D.cons b (D.cons c .nil))).len ≤ 100000 := ⟨rfl, by simp [D.len]⟩
def twoWords : List Str := ["negative", "not"]
/-- a pair, a triple: told by what their parts are -/
theorem ep_two {X : List Addr} {B : Hp} {ta tb : TE} {σ : L2.St} {φ ψ : D → Prop} (h : EvP K X B ta σ φ) (k : ∀ N, Same B N → EvP K X N tb σ ψ) : EvP K X B (tTup (tCons ta (tCons tb tNil))) σ (fun e => ∃ a b, e = t2 a b ∧ φ a ∧ ψ b) := by
  refine (EvP.tup (EvPs.cons h fun N s => EvPs.cons (k N s) fun N' s' => EvPs.nil) ?_).imp ?_
  · rintro d ⟨a, r, rfl, _, b, r', rfl, _, rfl⟩
    exact row_two
  · rintro e ⟨ds, rfl, a, r, rfl, ha, b, r', rfl, hb, rfl⟩
    exact ⟨a, b, rfl, ha, hb⟩
theorem ep_three {X : List Addr} {B : Hp} {ta tb tc : TE} {σ : L2.St} {φ ψ χ : D → Prop} (h : EvP K X B ta σ φ) (k : ∀ N, Same B N → EvP K X N tb σ ψ) (l : ∀ N, Same B N → EvP K X N tc σ χ) :
    EvP K X B (tTup (tCons ta (tCons tb (tCons tc tNil)))) σ (fun e => ∃ a b c, e = .tup (.cons a (.cons b (.cons c .nil))) ∧ φ a ∧ ψ b ∧ χ c) := by
  refine (EvP.tup (EvPs.cons h fun N s => EvPs.cons (k N s) fun N' s' => EvPs.cons (l N' (s.trans s')) fun N2 s2 => EvPs.nil) ?_).imp ?_
  · rintro d ⟨a, r, rfl, _, b, r', rfl, _, c, r2, rfl, _, rfl⟩
    exact row_three
  · rintro e ⟨ds, rfl, a, r, rfl, ha, b, r', rfl, hb, c, r2, rfl, hc, rfl⟩
    exact ⟨a, b, c, rfl, ha, hb, hc⟩
theorem ok_law_exp (T : Txt K mg A) : ∀ m, FnOk P w K mg base CX0 (m + 3) A.a__law_exp A.d__law_exp ["draws", "variables", "cells", "depth"] (spExp K m) := by
  intro m
  induction m with
  | zero => exact ⟨fun vs H Q E ⟨_, _, _, _, _, _, _, _, _, _, _, _, _, h, _⟩ => absurd h (Nat.not_lt_zero _), fun _ _ _ _ _ _ _ _ _ _ _ _ _ ⟨_, _, _, _, _, _, _, _, _, _, _, _, _, h, _⟩ => absurd h (Nat.not_lt_zero _)⟩
  | succ m ih =>
    refine T.F__law_exp.ok sc_law_exp (fun vs H Q E ⟨_, _, _, _, _, _, _, e, _⟩ => by rw [e]; rfl) (fun cdv A' outer s H vs Q E hr h => ?_)
    obtain ⟨B, d, vv, vc, vars, cells, n, rfl, sBH, o, j, rv, rc, hm, k⟩ := h
    refine ⟨_, pss_cons (ps_set (i := 4) sc_law_exp.nd rfl (Or.inl rfl) (pe_call (ok_law_take T) (hr.mono (by omega)) rfl T.g__law_take T.F__law_take.kp T.b__law_take .nil pass0 (pa_cons (pv 0) (pa_cons (pe_int) pa_nil))))
  (pss_cons (ps_if (PW.pt (pw_or (pt_cmpR op_lt (pv 3) (pe_int) (nomark _)) (pw_or1 (pt_cmpR op_eq (pv 4) (pe_int) (nomark _)))))
  (pss_one (ps_ret (pe_tup (pa_cons (pe_str) (pa_cons (pe_call (ok_law_number T) (hr.mono (by omega)) rfl T.g__law_number T.F__law_number.kp T.b__law_number .nil pass0 (pa_cons (pv 0) pa_nil)) pa_nil)))))
  (pss_nil))
  (pss_cons (ps_if (PW.pt (pw_and (pt_cmpR op_eq (pv 4) (pe_int) (nomark _)) (pw_and1 (pt_cmpR op_gt (pe_callB call_len_seq (by rfl) T.n_len (by decide +kernel) (pa_cons (pv 1) pa_nil)) (pe_int) (nomark _)))))
  (pss_one (ps_ret (pe_tup (pa_cons (pe_str) (pa_cons (pe_ix ix_list (pv 1) (pe_call (ok_law_take T) (hr.mono (by omega)) rfl T.g__law_take T.F__law_take.kp T.b__law_take .nil pass0 (pa_cons (pv 0) (pa_cons (pe_callB call_len_seq (by rfl) T.n_len (by decide +kernel) (pa_cons (pv 1) pa_nil)) pa_nil))) (fun _ _ => rfl)) pa_nil)))))
  (pss_nil))
  (pss_cons (ps_if (PW.pt (pw_and (pt_cmpR op_lt (pv 4) (pe_int) (nomark _)) (pw_and1 (pt_cmpR op_gt (pe_callB call_len_seq (by rfl) T.n_len (by decide +kernel) (pa_cons (pv 2) pa_nil)) (pe_int) (nomark _)))))
  (pss_cons (ps_set (i := 5) sc_law_exp.nd rfl (Or.inl rfl) (pe_ix ix_list (pv 2) (pe_call (ok_law_take T) (hr.mono (by omega)) rfl T.g__law_take T.F__law_take.kp T.b__law_take .nil pass0 (pa_cons (pv 0) (pa_cons (pe_callB call_len_seq (by rfl) T.n_len (by decide +kernel) (pa_cons (pv 2) pa_nil)) pa_nil))) (fun _ _ => rfl)))
  (pss_cons (ps_if (pt_cmpR op_eq (pe_call (ok_law_take T) (hr.mono (by omega)) rfl T.g__law_take T.F__law_take.kp T.b__law_take .nil pass0 (pa_cons (pv 0) (pa_cons (pe_int) pa_nil))) (pe_int) (nomark _))
  (pss_one (ps_ret (pe_tup (pa_cons (pe_str) (pa_cons (pv 5) (pa_cons (pe_tup (pa_cons (pe_str) (pa_cons (pe_int) pa_nil))) pa_nil))))))
  (pss_nil))
  (pss_one (ps_ret (pe_tup (pa_cons (pe_str) (pa_cons (pv 5) (pa_cons (pe_call ih (hr.mono (by omega)) rfl T.g__law_exp T.F__law_exp.kp T.b__law_exp .nil pass0 (pa_cons (pv 0) (pa_cons (pv 1) (pa_cons (pv 2) (pa_cons (pe_op op_sub (pv 3) (pe_int)) pa_nil))))) pa_nil))))))))
  (pss_nil))
  (pss_cons (ps_if (pt_cmpR op_eq (pv 4) (pe_int) (nomark _))
  (pss_one (ps_ret (pe_tup (pa_cons (pe_ix ix_list (pe_lst (pa_cons (pe_str) (pa_cons (pe_str) pa_nil))) (pe_call (ok_law_take T) (hr.mono (by omega)) rfl T.g__law_take T.F__law_take.kp T.b__law_take .nil pass0 (pa_cons (pv 0) (pa_cons (pe_int) pa_nil))) (fun _ _ => rfl)) (pa_cons (pe_call ih (hr.mono (by omega)) rfl T.g__law_exp T.F__law_exp.kp T.b__law_exp .nil pass0 (pa_cons (pv 0) (pa_cons (pv 1) (pa_cons (pv 2) (pa_cons (pe_op op_sub (pv 3) (pe_int)) pa_nil))))) pa_nil)))))
  (pss_nil))
  (pss_cons (ps_set (i := 6) sc_law_exp.nd rfl (Or.inl rfl) (pe_lst (pa_cons (pe_str) (pa_cons (pe_str) (pa_cons (pe_str) (pa_cons (pe_str) (pa_cons (pe_str) (pa_cons (pe_str) (pa_cons (pe_str) (pa_cons (pe_str) (pa_cons (pe_str) (pa_cons (pe_str) pa_nil))))))))))))
  (pss_cons (ps_set (i := 7) sc_law_exp.nd rfl (Or.inl rfl) (pe_call ih (hr.mono (by omega)) rfl T.g__law_exp T.F__law_exp.kp T.b__law_exp .nil pass0 (pa_cons (pv 0) (pa_cons (pv 1) (pa_cons (pv 2) (pa_cons (pe_op op_sub (pv 3) (pe_int)) pa_nil))))))
  (pss_one (ps_ret (pe_tup (pa_cons (pe_ix ix_list (pv 6) (pe_call (ok_law_take T) (hr.mono (by omega)) rfl T.g__law_take T.F__law_take.kp T.b__law_take .nil pass0 (pa_cons (pv 0) (pa_cons (pe_int) pa_nil))) (fun _ _ => rfl)) (pa_cons (pv 7) (pa_cons (pe_call ih (hr.mono (by omega)) rfl T.g__law_exp T.F__law_exp.kp T.b__law_exp .nil pass0 (pa_cons (pv 0) (pa_cons (pv 1) (pa_cons (pv 2) (pa_cons (pe_op op_sub (pv 3) (pe_int)) pa_nil))))) pa_nil)))))))))))), ?_⟩
    refine take_call (b := 8) rfl (fun _ h => h) sBH o j (by decide) fun kd H1 l1 u1 g1 j1 s1 => ?_
    obtain ⟨av, rfl, hv⟩ := str_list rv
    obtain ⟨ac, rfl, hc⟩ := str_list rc
    dsimp only [gName]
    refine if_seq (b := decide ((n : Int) < 1) || decide (V.int kd = V.int 0)) ?_ (fun _ => ?_) (fun hb => ?_)
    · exact tt_or (tt_test (te_i0 (te_var rfl) te_c)) fun _ => tt_test (te_eq (te_var rfl) te_c rfl)
    · -- a number
      refine ret_p (φ := IsExp vars cells (n + 1)) ?_ g1.nh o j1 fun v e N H2 g j2 h r => k v e N H2 (g1.trans g) j2 h r
      refine (ep_two ed_str fun N s => ep_number rfl).imp ?_
      rintro e ⟨a, b, rfl, rfl, z, rfl, h1, h2⟩
      exact .num z h1 h2
    have hn : 1 ≤ n := by
      simp only [Bool.or_eq_false_iff, decide_eq_false_iff_not] at hb
      omega
    have tlen : ∀ {H : Hp} {i : Nat} {σ : L2.St} {a : Addr} {zs : List Str}, σ[i]? = some (some (.ref a)) → SqL K B a (zs.map V.str) → Same B H → Te (tCB (fun vs H Q => ∃ p ys, vs = [.ref p] ∧ (SqL K H p ys ∨ SqT K H p ys) ∧ Q (.int ys.length) H) (tCons (tVar i) tNil)) σ H (.int ((zs.map V.str).length : Int)) :=
      fun h1 h2 s => te_len (te_var h1) (.inl (Same.sqL s h2))
    have tdep : ∀ {σ : L2.St} (H : Hp), σ[3]? = some (some (.int n)) → Te (tOp (rI0 fun i j => .int (i - j)) (tVar 3) (tC (.int 1))) σ H (.int ((n - 1 : Nat) : Int)) := fun H h => by
      have e : ((n - 1 : Nat) : Int) = (n : Int) - 1 := by omega
      rw [e]
      exact te_i0 (te_var h) te_c
    refine if_seq (b := decide (V.int kd = V.int 1) && decide ((0 : Int) < ((vars.map V.str).length : Int))) ?_ (fun hb2 => ?_) (fun _ => ?_)
    · exact tt_and (tt_test (te_eq (te_var rfl) te_c rfl)) fun _ => tt_test (te_i0 (tlen rfl hv g1.nh) te_c)
    · -- a local
      have hz : 0 < (vars.map V.str).length := by
        simp only [Bool.and_eq_true, decide_eq_true_eq] at hb2
        omega
      refine ret_p (φ := IsExp vars cells (n + 1)) ?_ g1.nh o j1 fun v e N H2 g j2 h r => k v e N H2 (g1.trans g) j2 h r
      refine (ep_two ed_str fun N s => ep_pick (Rp.mono s rv) rfl rfl (fun H s' => tlen rfl hv (s.trans s')) hz).imp ?_
      rintro e ⟨a, b, rfl, rfl, x, rfl, h1⟩
      exact .loc x h1
    refine if_seq (b := decide (kd < 4) && decide ((0 : Int) < ((cells.map V.str).length : Int))) ?_ (fun hb2 => ?_) (fun _ => ?_)
    · exact tt_and (tt_test (te_i0 (te_var rfl) te_c)) fun _ => tt_test (te_i0 (tlen rfl hc g1.nh) te_c)
    · -- a cell
      have hz : 0 < (cells.map V.str).length := by
        simp only [Bool.and_eq_true, decide_eq_true_eq] at hb2
        omega
      refine asg_p (ep_pick rc rfl rfl (fun H s' => tlen rfl hc s') hz) g1.nh o j1 fun v e N H2 g j2 h r => ?_
      obtain ⟨x, rfl, hx⟩ := h
      have g1N := g1.trans g
      refine take_call (b := 2) rfl (fun _ h => h) g.nh (g.offI o j1) j2 (by decide) fun z H3 z0 z1 g3 j3 _ => ?_
      have gN := g1N.trans g3
      refine ⟨rfl, _, rfl, ite2 (fun _ => ?_) fun _ => ?_⟩
      · refine ret_p (φ := IsExp vars cells (n + 1)) ?_ g3.nh (g.offI o j1) j3 fun v e N H g j2 h r => k v e N H (gN.trans g) j2 h r
        refine (ep_three ed_str (fun N s => EvP.var rfl (Rp.mono s r)) fun N s => ep_two ed_str fun N s => ed_int).imp ?_
        rintro e ⟨a, b, c, rfl, rfl, rfl, a', b', rfl, rfl, rfl⟩
        exact .cell x hx _ (.num 0 (by decide) (by decide))
      · refine go_next ?_
        dsimp only
        refine ret_p (φ := IsExp vars cells (n + 1)) ?_ g3.nh (g.offI o j1) j3 fun v e N H g j2 h r => k v e N H (gN.trans g) j2 h r
        refine (ep_three ed_str (fun N s => EvP.var rfl (Rp.mono s r)) fun N s => ep_exp rfl rfl rfl (fun H => tdep H rfl) (Rp.mono (g.bn.trans s) rv) (Rp.mono (g.bn.trans s) rc) (by omega)).imp ?_
        rintro e ⟨a, b, c, rfl, rfl, rfl, hi⟩
        exact .cell x hx _ (hi.more (by omega))
    refine if_seq (b := decide (V.int kd = V.int 4)) (tt_test (te_eq (te_var rfl) te_c rfl)) (fun _ => ?_) (fun _ => ?_)
    · refine ret_p (φ := IsExp vars cells (n + 1)) ?_ g1.nh o j1 fun v e N H2 g j2 h r => k v e N H2 (g1.trans g) j2 h r
      refine (ep_two (ep_menu (zs := ["negative", "not"]) (ed_cons ed_str fun _ _ => ed_cons ed_str fun _ _ => ed_nil) rfl rfl (by decide) (by decide) rfl (by decide)) fun N s => ep_exp rfl rfl rfl (fun H => tdep H rfl) (Rp.mono s rv) (Rp.mono s rc) (by omega)).imp ?_
      rintro e ⟨a, b, rfl, ⟨x, rfl, hx⟩, hi⟩
      exact .one x (by simpa using hx) _ (hi.more (by omega))
    refine asg_p (K := K) (φ := (· = .lst (strRow ["plus", "minus", "times", "over", "rest", "less", "atmost", "same", "and", "or"]))) ?_ g1.nh o j1 fun vw e N H2 g2 j2 h rw_ => ?_
    · exact ed_lst (ed_cons ed_str fun _ _ => ed_cons ed_str fun _ _ => ed_cons ed_str fun _ _ => ed_cons ed_str fun _ _ => ed_cons ed_str fun _ _ => ed_cons ed_str fun _ _ => ed_cons ed_str fun _ _ => ed_cons ed_str fun _ _ => ed_cons ed_str fun _ _ => ed_cons ed_str fun _ _ => ed_nil)
    subst h
    have o2 := g2.offI o j1
    refine asg_p (ep_exp rfl rfl rfl (fun H => tdep H rfl) (Rp.mono g2.bn rv) (Rp.mono g2.bn rc) (by omega)) g2.nh o2 j2 fun vf ef N3 H3 g3 j3 hf rf => ?_
    have o3 := g3.offI o2 j2
    have gN := (g1.trans g2).trans g3
    refine ret_p (φ := IsExp vars cells (n + 1)) ?_ g3.nh o3 j3 fun v e N H g j2 h r => k v e N H (gN.trans g) j2 h r
    refine (ep_three (ep_pick (Rp.mono g3.bn rw_) rfl rfl (fun H _ => te_c) (by decide)) (fun N s => EvP.var rfl (Rp.mono s rf)) fun N s => ep_exp rfl rfl rfl (fun H => tdep H rfl) (Rp.mono ((g2.bn.trans g3.bn).trans s) rv) (Rp.mono ((g2.bn.trans g3.bn).trans s) rc) (by omega)).imp ?_
    rintro e ⟨a, b, c, rfl, ⟨x, rfl, hx⟩, rfl, hi⟩
    exact .two x hx _ _ (hf.more (by omega)) (hi.more (by omega))
end
end K07

namespace K07
open PySem L2 YF
local macro_rules | `(tactic| walk_at "rd1") => `(tactic| first
  | refine ⟨_, _, rfl, rfl, ?_⟩
  | refine ⟨_, rfl, ?_⟩
  | refine ⟨(show CPow _ _ from ⟨by decide, by decide, by decide⟩), ?_⟩
  | refine ⟨(show CMul _ _ from Or.inr ⟨by decide, by decide⟩), ?_⟩
  | refine ⟨(show CDiv _ _ from ⟨by decide, by decide⟩), ?_⟩
  | refine ⟨(by show (0 : Int) < _; decide), ?_⟩
  | refine Or.inl ⟨_, rfl, ?_⟩)
local macro_rules | `(tactic| walk_at "rd") => `(tactic| repeat (walk_at "rd1"))
local macro_rules | `(tactic| walk_at "ed1") => `(tactic| first
  | exact ev_int | exact ev_str | exact ev_non | exact ev_bl | exact ev_nil
  | (apply ev_at 0
     · assumption
     · rfl
     · rfl)
  | (apply ev_at 1
     · assumption
     · rfl
     · rfl)
  | (apply ev_at 2
     · assumption
     · rfl
     · rfl)
  | (apply ev_at 3
     · assumption
     · rfl
     · rfl)
  | (apply ev_at 4
     · assumption
     · rfl
     · rfl)
  | (apply ev_at 5
     · assumption
     · rfl
     · rfl)
  | (apply ev_at 6
     · assumption
     · rfl
     · rfl)
  | (apply ev_at 7
     · assumption
     · rfl
     · rfl)
  | (apply ev_at 8
     · assumption
     · rfl
     · rfl)
  | (apply ev_at 9
     · assumption
     · rfl
     · rfl)
  | (apply ev_at 10
     · assumption
     · rfl
     · rfl)
  | (apply ev_at 11
     · assumption
     · rfl
     · rfl)
  | (apply ev_val (zero_rp (mg := mg) _ _); assumption)
  | (apply ev_val (one_rp (mg := mg) _ _); assumption)
  | (apply ev_val (two_rp (mg := mg) _ _); assumption)
  | (apply ev_callX
     · walk_at "ed"
     · first | exact trivial | exact ⟨_, rfl⟩ | exact ⟨_, _, rfl⟩ | exact ⟨_, _, _, rfl⟩
     · rfl
     · rfl
     · rfl)
  | (apply ev_cons
     · walk_at "ed"
     · walk_at "ed")
  | (apply ev_tupX
     · walk_at "ed"
     · rfl
     · first | decide | simp [D.len])
  | (apply ev_lstX
     · walk_at "ed"
     · rfl
     · first | decide | simp [D.len])
  | (apply ev_add
     · walk_at "ed"
     · walk_at "ed")
  | (apply ev_sub
     · walk_at "ed"
     · walk_at "ed"))
local macro_rules | `(tactic| walk_at "ed") => `(tactic| walk_at "ed1")
section
variable {P : Program} {w : World} {K : PySem.W.Frag} {mg : Str → Option Value} {base : Heap} {A : Adr}
theorem pss_given {X : Cx} {b : List Stmt} {t : TS} {p : Prop} (h : p → PSs X b t) : PSs X b (fun D σ H => p ∧ t D σ H) := ⟨fun pins s σ H D I ⟨hp, q⟩ => (h hp).run pins s σ H D I q⟩
def Cnt (K : PySem.W.Frag) (A : Adr) (f : Addr) (sp : Sp) : Prop := (f = A.a_semaphore ∧ sp = SpR K A.a_InvalidCount 0 1000 f_semaphore) ∨ (f = A.a_barrier ∧ sp = SpR K A.a_InvalidCount 1 6 f_barrier) ∨ (f = A.a_channel ∧ sp = SpR K A.a_InvalidCount 1 10 f_channel)
def BadN (kd n : Int) : Prop := (kd = 0 ∧ (n < 0 ∨ 1000 < n)) ∨ (kd = 1 ∧ (n < 1 ∨ 6 < n)) ∨ (kd = 2 ∧ (n < 1 ∨ 10 < n))
def spRefused (K : PySem.W.Frag) : Sp := fun vs H Q _ => ∃ (B : Hp) (kd : Int) (nm : D) (v : V) (n : Int), vs = [.int kd, v, .int n] ∧ Same B H ∧ Rp K B nm [v] ∧ BadN kd n ∧ ∀ H', Same H H' → Q (.bl true) H'
theorem ok_law_refused (T : Txt K mg A) : FnOk P w K mg base CX0 2 A.a__law_refused A.d__law_refused ["kind", "name", "n"] (spRefused K) := by
  refine T.F__law_refused.ok sc_law_refused (fun vs H Q E ⟨_, _, _, _, _, e, _⟩ => by rw [e]; rfl) (fun cdv A' outer s H vs Q E hr h => ?_)
  obtain ⟨B, kd, nm, v, n, rfl, sBH, r, hb, k⟩ := h
  have hr1 : Room 1 _ := hr.mono (by decide)
  refine ⟨_, pss_cons (ps_try_as (i := 3) (tb := fun W => tDrop (tCallE (tOp (rIxL K) (tLst (tCons (tC (.ref A.a_semaphore)) (tCons (tC (.ref A.a_barrier)) (tCons (tC (.ref A.a_channel)) tNil)))) (tVar 0)) (Cnt K A) (WE W) (tCons (tVar 1) (tCons (tVar 2) tNil))))
      (ts := fun a cls d => fun D σ H => (cls = .ref A.a_InvalidCount ∧ d = none) ∧ tRet (tCB (rIsE K A.a_InvalidCount a) (tCons (tVar 3) (tCons (tC (.ty "ValueError")) tNil))) D σ H) (Wout := fun _ _ _ _ => False) rfl rfl sc_law_refused.nd rfl rfl ⟨rfl, by decide, .inl T.g_InvalidCount⟩ takes0
      (fun W pn xe tk _ => pss_one (ps_expr (pe_callE (CX := L2.CX P w) (k := 1) (pe_ix ix_list (pe_lst (pa_cons (pe_glob (v := .ref A.a_semaphore) rfl T.g_semaphore rfl) (pa_cons (pe_glob (v := .ref A.a_barrier) rfl T.g_barrier rfl) (pa_cons (pe_glob (v := .ref A.a_channel) rfl T.g_channel rfl) pa_nil)))) (pv 0) (fun _ _ => rfl))
        (fun f sp hf => by
          rcases hf with ⟨rfl, rfl⟩ | ⟨rfl, rfl⟩ | ⟨rfl, rfl⟩
          · exact ⟨_, _, ok_semaphore T, T.F_semaphore.kp, T.b_semaphore⟩
          · exact ⟨_, _, ok_barrier T, T.F_barrier.kp, T.b_barrier⟩
          · exact ⟨_, _, ok_channel T, T.F_channel.kp, T.b_channel⟩) hr1 (fun σ => passAt tk σ) (pa_cons (pv 1) (pa_cons (pv 2) pa_nil)))))
      (fun a oe cls d pn hz hf => pss_given fun ⟨e1, e2⟩ => by
        subst e1 e2
        exact pss_one (ps_ret (pe_callB (call_isE T.e_IC hz hf) (by rfl) T.n_isinstance (by decide +kernel) (pa_cons (pv 3) (pa_cons (pe_bltn (v := .ty "ValueError") (by rfl) T.n_ValueError (by decide +kernel) rfl) pa_nil))))))
    (pss_one (ps_ret pe_bl)), ?_⟩
  refine ⟨by show 3 ≤ sizeLine; decide, fun p hp => ⟨_, rfl, ?_⟩⟩
  have sN : Same H (upd H p (.lst [.ref A.a_semaphore, .ref A.a_barrier, .ref A.a_channel])) := Same.upd hp
  rcases hb with ⟨rfl, hn⟩ | ⟨rfl, hn⟩ | ⟨rfl, hn⟩
  · exact ⟨p, _, _, .ref A.a_semaphore, rfl, rfl, SqL.of upd_same, rfl, A.a_semaphore, _, rfl, .inl ⟨rfl, rfl⟩, _, rfl, _, rfl, B, nm, v, n, rfl, sBH.trans sN, r, .inr ⟨by omega, ⟨true, PySem.W.exm_ref T.b_IC T.e_IC.hd T.t_IC T.s_IC, fun _ a ha => ⟨⟨rfl, rfl⟩, _, rfl, .ty "ValueError", _, true, rfl, (fun u r => r), T.v_IC, k _ sN⟩, fun q => nomatch q⟩⟩⟩
  · exact ⟨p, _, _, .ref A.a_barrier, rfl, rfl, SqL.of upd_same, rfl, A.a_barrier, _, rfl, .inr (.inl ⟨rfl, rfl⟩), _, rfl, _, rfl, B, nm, v, n, rfl, sBH.trans sN, r, .inr ⟨by omega, ⟨true, PySem.W.exm_ref T.b_IC T.e_IC.hd T.t_IC T.s_IC, fun _ a ha => ⟨⟨rfl, rfl⟩, _, rfl, .ty "ValueError", _, true, rfl, (fun u r => r), T.v_IC, k _ sN⟩, fun q => nomatch q⟩⟩⟩
  · exact ⟨p, _, _, .ref A.a_channel, rfl, rfl, SqL.of upd_same, rfl, A.a_channel, _, rfl, .inr (.inr ⟨rfl, rfl⟩), _, rfl, _, rfl, B, nm, v, n, rfl, sBH.trans sN, r, .inr ⟨by omega, ⟨true, PySem.W.exm_ref T.b_IC T.e_IC.hd T.t_IC T.s_IC, fun _ a ha => ⟨⟨rfl, rfl⟩, _, rfl, .ty "ValueError", _, true, rfl, (fun u r => r), T.v_IC, k _ sN⟩, fun q => nomatch q⟩⟩⟩
end
end K07

namespace K07
open PySem L2 YF
section
variable {K : PySem.W.Frag}
/-- a name out of a list of names -/
theorem ev_names {X : List Addr} {B : Hp} {σ : L2.St} {te tb : TE} {zs : List Str} {i : Nat} {x : Str} (hv : Ed K X B te σ (.lst (strRow zs))) (hi : Ed K X B tb σ (.int (i : Int))) (h : zs[i]? = some x) : Ed K X B (tOp (rIxL K) te tb) σ (.str x) :=
  ev_ixL hv hi fun N xs r => by
    rw [strRow_get r]
    refine ⟨.str x, atI_nat ?_, rfl⟩
    rw [List.getElem?_map, h]
    rfl
theorem same_go {m : Nat} {X : List Addr} {B H : Hp} {ta tb : TE} {σ : L2.St} {d : D} {E : Ends} {rest tw : TS} {XE : XK} (ha : Ed K X B ta σ d) (hb : Ed K X B tb σ d) (h1 : d.isRow = false) (h2 : d.ok = true) (h3 : d.dep < m) (s : Same B H) (o : Off X B) (j : Ints X H)
    (k : ∀ H2, Same B H2 → Ints X H2 → rest E σ H2) : tSeq (tIfS (tNot (tB (tCall (spSame K m) [] XE (tCons ta (tCons tb tNil))))) tw tNext) rest E σ H :=
  ha.go s o j fun v N H1 g j1 r => hb N g.bn H1 g.nh (g.offI o j) j1 _ fun u d' N2 H2 g2 j2 e r2 => by
    subst e
    exact ⟨v, u, d', rfl, Rp.mono (g2.bn.trans g2.nh) r, Rp.mono g2.nh r2, h1, h2, h3, true, rfl, iteF (k H2 ((g.bn.trans g2.bn).trans g2.nh) j2)⟩
theorem same_ret {m : Nat} {X : List Addr} {B H : Hp} {ta tb : TE} {σ : L2.St} {d : D} {E : Ends} {XE : XK} (ha : Ed K X B ta σ d) (hb : Ed K X B tb σ d) (h1 : d.isRow = false) (h2 : d.ok = true) (h3 : d.dep < m) (s : Same B H) (o : Off X B) (j : Ints X H)
    (k : ∀ H2, E.rt (.bl true) H2) : tRet (tCall (spSame K m) [] XE (tCons ta (tCons tb tNil))) E σ H :=
  ha.go s o j fun v N H1 g j1 r => hb N g.bn H1 g.nh (g.offI o j) j1 _ fun u d' N2 H2 g2 j2 e r2 => by
    subst e
    exact ⟨v, u, d', rfl, Rp.mono (g2.bn.trans g2.nh) r, Rp.mono g2.nh r2, h1, h2, h3, k H2⟩
theorem same_or {m : Nat} {X : List Addr} {B H : Hp} {ta tb tc td : TE} {σ : L2.St} {d d2 : D} {E : Ends} {rest tw : TS} {XE XE2 : XK} (ha : Ed K X B ta σ d) (hb : Ed K X B tb σ d) (h1 : d.isRow = false) (h2 : d.ok = true) (h3 : d.dep < m)
    (hc : Ed K X B tc σ d2) (hd : Ed K X B td σ d2) (h1' : d2.isRow = false) (h2' : d2.ok = true) (h3' : d2.dep < m) (s : Same B H) (o : Off X B) (j : Ints X H)
    (k : ∀ H2, Same B H2 → Ints X H2 → rest E σ H2) : tSeq (tIfS (tOr (tNot (tB (tCall (spSame K m) [] XE (tCons ta (tCons tb tNil))))) (tNot (tB (tCall (spSame K m) [] XE2 (tCons tc (tCons td tNil)))))) tw tNext) rest E σ H :=
  ha.go s o j fun v N H1 g j1 r => hb N g.bn H1 g.nh (g.offI o j) j1 _ fun u d' N2 H2 g2 j2 e r2 => by
    subst e
    refine ⟨v, u, d', rfl, Rp.mono (g2.bn.trans g2.nh) r, Rp.mono g2.nh r2, h1, h2, h3, true, rfl, iteF ?_⟩
    have sB : Same B H2 := (g.bn.trans g2.bn).trans g2.nh
    refine hc.go sB o j2 fun v N H1 g j1 r => hd N g.bn H1 g.nh (g.offI o j2) j1 _ fun u d' N2 H2 g2 j2 e r2 => ?_
    subst e
    exact ⟨v, u, d', rfl, Rp.mono (g2.bn.trans g2.nh) r, Rp.mono g2.nh r2, h1', h2', h3', true, rfl, iteF (k H2 ((g.bn.trans g2.bn).trans g2.nh) j2)⟩
/-- x = [..], a list that will be written: it is not known -/
theorem asg_l0 {X : List Addr} {B H : Hp} {ta : TA} {σ : L2.St} {ds : D} {E : Ends} {rest : TS} {i : Nat} {l : List (V × D)} (h : Eds K X B ta σ ds) (h1 : ds.isRow = true) (h2 : ds.len ≤ 1000) (s : Same B H) (o : Off X B) (j : Ints X H) (e : Env K B l)
    (k : ∀ p vs N H2, Same N H2 → Off X N → Ints X H2 → Env K N l → Rp K N ds vs → N p = none → p ∉ X → H2 p = some (.lst vs) → rest E (σ.set i (some (.ref p))) H2) : tSeq (tAsg (tLst ta) (gName i)) rest E σ H :=
  h B (Same.refl B) H s o j _ fun vs d N H1 g j1 q r => by
    subst q
    have hl : vs.length ≤ 1000 := by rw [Rp.row_len h1 r]; exact h2
    refine ⟨Nat.le_trans hl (by decide), fun p hp => ?_⟩
    have o1 := g.offI o j
    have npx : p ∉ X := fun m => by
      obtain ⟨ns, q⟩ := j1 p m
      rw [hp] at q
      cases q
    refine k p vs N (upd H1 p (.lst vs)) (Same.wr g.nh (g.nh.free hp)) o1 (fun a m => ?_) (e.mono g.bn) r (g.nh.free hp) npx upd_same
    obtain ⟨ns, q⟩ := j1 a m
    exact ⟨ns, Same.upd hp a _ q⟩
/-- x.append(e) to such a list -/
theorem app_go {X : List Addr} {B H : Hp} {te : TE} {σ : L2.St} {d ds : D} {E : Ends} {rest : TS} {i : Nat} {l : List (V × D)} {p : Addr} {vs : List V} (h : Ed K X B te σ d) (hi : σ[i]? = some (some (.ref p))) (hp : H p = some (.lst vs)) (hl : vs.length ≤ 1000) (hB : B p = none) (npx : p ∉ X) (s : Same B H) (o : Off X B) (j : Ints X H) (e : Env K B l) (r : Rp K B ds vs)
    (k : ∀ v N H2, Same N H2 → Off X N → Ints X H2 → Env K N l → Rp K N ds vs → Rp K N d [v] → N p = none → H2 p = some (.lst (vs ++ [v])) → rest E σ H2) : tSeq (tDrop (tBM K "list" rAppend (tVar i) (tCons te tNil))) rest E σ H := by
  refine ⟨_, hi, .inl ⟨rfl, _, SqL.of hp⟩, h.go s o j fun v N H1 g j1 rv => ?_⟩
  have hN : N p = none := by
    cases q : N p with
    | none => rfl
    | some u =>
      rcases g.frs p u q with q2 | q2
      · rw [hB] at q2
        cases q2
      · rw [hp] at q2
        cases q2
  refine ⟨p, vs, v, rfl, rfl, g.keep p _ npx hp, Nat.lt_of_le_of_lt hl (by decide), ?_⟩
  refine k v N _ (Same.wr g.nh hN) (g.offI o j) (fun a m => ?_) (e.mono g.bn) (Rp.mono g.bn r) rv hN upd_same
  obtain ⟨ns, q⟩ := j1 a m
  exact ⟨ns, by rw [upd_ne (fun z => npx (by rw [← z]; exact m))]; exact q⟩
/-- from now on it is known -/
theorem know_go {X : List Addr} {N H : Hp} {l : List (V × D)} {p : Addr} {vs : List V} {ds : D} (s : Same N H) (o : Off X N) (e : Env K N l) (r : Rp K N ds vs) (hl : vs.length ≤ 100000) (hN : N p = none) (npx : p ∉ X) (hp : H p = some (.lst vs)) :
    ∃ N2, Same N2 H ∧ Off X N2 ∧ Env K N2 ((.ref p, .lst ds) :: l) := by
  have s2 : Same N (upd N p (.lst vs)) := Same.upd hN
  refine ⟨upd N p (.lst vs), fun a u q => ?_, fun a m => ?_, (e.mono s2).add ⟨p, vs, rfl, SqL.of upd_same, hl, Rp.mono s2 r⟩⟩
  · by_cases z : a = p
    · subst z
      rw [upd_same] at q
      cases q
      exact hp
    · rw [upd_ne z] at q
      exact s a u q
  · rw [upd_ne (fun z => npx (by rw [← z]; exact m))]
    exact o a m
theorem Rp.snoc {N : Hp} : ∀ {ds : List D} {vs : List V} {d : D} {v : V}, Rp K N (D.row ds) vs → Rp K N d [v] → Rp K N (D.row (ds ++ [d])) (vs ++ [v])
  | [], vs, d, v, h, r => by
    have e : vs = [] := h
    rw [e]
    exact ⟨v, [], rfl, r, rfl⟩
  | a :: t, vs, d, v, ⟨x, xs, e, h1, h2⟩, r => by
    rw [e]
    exact ⟨x, xs ++ [v], rfl, h1, Rp.snoc h2 r⟩
end
local macro_rules | `(tactic| walk_at "rd1") => `(tactic| first
  | refine ⟨_, _, rfl, rfl, ?_⟩
  | refine ⟨_, rfl, ?_⟩
  | refine ⟨(show CPow _ _ from ⟨by decide, by decide, by decide⟩), ?_⟩
  | refine ⟨(show CMul _ _ from Or.inr ⟨by decide, by decide⟩), ?_⟩
  | refine ⟨(show CDiv _ _ from ⟨by decide, by decide⟩), ?_⟩
  | refine ⟨(by show (0 : Int) < _; decide), ?_⟩
  | refine Or.inl ⟨_, rfl, ?_⟩)
local macro_rules | `(tactic| walk_at "rd") => `(tactic| repeat (walk_at "rd1"))
local macro_rules | `(tactic| walk_at "ed1") => `(tactic| first
  | exact ev_int | exact ev_str | exact ev_non | exact ev_bl | exact ev_nil
  | (apply ev_at 0
     · assumption
     · rfl
     · rfl)
  | (apply ev_at 1
     · assumption
     · rfl
     · rfl)
  | (apply ev_at 2
     · assumption
     · rfl
     · rfl)
  | (apply ev_at 3
     · assumption
     · rfl
     · rfl)
  | (apply ev_at 4
     · assumption
     · rfl
     · rfl)
  | (apply ev_at 5
     · assumption
     · rfl
     · rfl)
  | (apply ev_at 6
     · assumption
     · rfl
     · rfl)
  | (apply ev_at 7
     · assumption
     · rfl
     · rfl)
  | (apply ev_at 8
     · assumption
     · rfl
     · rfl)
  | (apply ev_at 9
     · assumption
     · rfl
     · rfl)
  | (apply ev_at 10
     · assumption
     · rfl
     · rfl)
  | (apply ev_at 11
     · assumption
     · rfl
     · rfl)
  | (apply ev_at 12
     · assumption
     · rfl
     · rfl)
  | (apply ev_at 13
     · assumption
     · rfl
     · rfl)
  | (apply ev_at 14
     · assumption
     · rfl
     · rfl)
  | (apply ev_at 15
     · assumption
     · rfl
     · rfl)
  | (apply ev_at 16
     · assumption
     · rfl
     · rfl)
  | (apply ev_at 17
     · assumption
     · rfl
     · rfl)
  | (apply ev_at 18
     · assumption
     · rfl
     · rfl)
  | (apply ev_at 19
     · assumption
     · rfl
     · rfl)
  | (apply ev_at 20
     · assumption
     · rfl
     · rfl)
  | (apply ev_at 21
     · assumption
     · rfl
     · rfl)
  | (apply ev_names (i := 0)
     · walk_at "ed"
     · exact ev_int
     · rfl)
  | (apply ev_names (i := 1)
     · walk_at "ed"
     · exact ev_int
     · rfl)
  | (apply ev_names (i := 2)
     · walk_at "ed"
     · exact ev_int
     · rfl)
  | (apply ev_val (zero_rp (mg := mg) _ _); assumption)
  | (apply ev_val (one_rp (mg := mg) _ _); assumption)
  | (apply ev_val (two_rp (mg := mg) _ _); assumption)
  | (apply ev_callX
     · walk_at "ed"
     · first | exact trivial | exact ⟨_, rfl⟩ | exact ⟨_, _, rfl⟩ | exact ⟨_, _, _, rfl⟩ | exact ⟨_, _, rfl, by omega, by omega⟩
     · rfl
     · rfl
     · rfl)
  | (apply ev_cons
     · walk_at "ed"
     · walk_at "ed")
  | (apply ev_tupX
     · walk_at "ed"
     · rfl
     · first | decide | simp [D.len])
  | (apply ev_lstX
     · walk_at "ed"
     · rfl
     · first | decide | simp [D.len])
  | (apply ev_add
     · walk_at "ed"
     · walk_at "ed")
  | (apply ev_sub
     · walk_at "ed"
     · walk_at "ed"))
local macro_rules | `(tactic| walk_at "ed") => `(tactic| walk_at "ed1")
theorem set_sl {σ σ' : L2.St} {t : TS} {E : Ends} {H : Hp} (e : σ = σ') (h : t E σ' H) : t E σ H := by
  rw [e]
  exact h
theorem ok_send_d {nm : Str} {n : Int} {e : D} (h1 : e.isRow = false) (h2 : e.ok = true) : (f_send (.cons (.str nm) (.cons (.int n) (.cons e .nil)))).ok = true := by
  simp [t2, f_send, f_block, f_retry_if, f_one_more, d_ONE, d_ZERO, d_TWO, D.ok, D.isRow, h1, h2]
theorem dep_send_d {nm : Str} {n : Int} {e : D} (h : e.dep ≤ 3 + 1 + 1) : (f_send (.cons (.str nm) (.cons (.int n) (.cons e .nil)))).dep < 20 := by
  simp only [t2, f_send, f_block, f_retry_if, f_one_more, d_ONE, d_ZERO, d_TWO, D.dep]
  omega
local macro_rules | `(tactic| walk_at "okd") => `(tactic| first | rfl | (apply ok_send_d <;> assumption))
local macro_rules | `(tactic| walk_at "depd") => `(tactic| first | exact Nat.le_of_ble_eq_true rfl | (apply dep_send_d; assumption))
section
variable {P : Program} {w : World} {K : PySem.W.Frag} {mg : Str → Option Value} {base : Heap} {A : Adr}
def spLaw (K : PySem.W.Frag) : Sp := fun vs H Q _ => ∃ (a : Addr) (ns : List Int), vs = [.ref a] ∧ SqL K H a (ns.map V.int) ∧ ns.length ≤ 63 ∧ ∀ H', Q (.bl true) H'
set_option maxHeartbeats 0 in
theorem ok_law (T : Txt K mg A) : FnOk P w K mg base CX0 30 A.a_law A.d_law ["script"] (spLaw K) := by
  refine T.F_law.ok sc_law (fun vs H Q E ⟨_, _, e, _⟩ => by rw [e]; rfl) (fun cdv A' outer s H vs Q E hr h => ?_)
  obtain ⟨a, ns, rfl, hS, hlen, k⟩ := h
  refine ⟨_, pss_cons (ps_set (i := 1) sc_law.nd rfl (Or.inl rfl) (pe_call (ok_law_draws T) (hr.mono (by decide)) rfl T.g__law_draws T.F__law_draws.kp T.b__law_draws .nil pass0 (pa_cons (pv 0) pa_nil)))
  (pss_cons (ps_set (i := 2) sc_law.nd rfl (Or.inl rfl) (pe_call (ok_law_names T) (hr.mono (by decide)) rfl T.g__law_names T.F__law_names.kp T.b__law_names .nil pass0 (pa_cons (pv 1) (pa_cons (pe_int) pa_nil))))
  (pss_cons (ps_set (i := 3) sc_law.nd rfl (Or.inl rfl) (pe_ix ix_list (pv 2) (pe_int) (fun _ _ => rfl)))
  (pss_cons (ps_set (i := 4) sc_law.nd rfl (Or.inl rfl) (pe_op op_add (pe_int) (pe_call (ok_law_take T) (hr.mono (by decide)) rfl T.g__law_take T.F__law_take.kp T.b__law_take .nil pass0 (pa_cons (pv 1) (pa_cons (pe_int) pa_nil)))))
  (pss_cons (ps_set (i := 5) sc_law.nd rfl (Or.inl rfl) (pe_tup (pa_cons (pe_str) (pa_cons (pe_int) pa_nil))))
  (pss_cons (ps_set (i := 6) sc_law.nd rfl (Or.inl rfl) (pe_call (ok_law_cell T) (hr.mono (by decide)) rfl T.g__law_cell T.F__law_cell.kp T.b__law_cell .nil pass0 (pa_cons (pv 3) (pa_cons (pe_int) pa_nil))))
  (pss_cons (ps_if (pt_not (pt_val (pe_call (ok_law_same T 20) (hr.mono (by decide)) rfl T.g__law_same T.F__law_same.kp T.b__law_same .nil pass0 (pa_cons (pe_lst (pa_cons (pe_call (go_semaphore T) (hr.mono (by decide)) rfl T.g_semaphore T.F_semaphore.kp T.b_semaphore .nil passL (pa_cons (pv 3) (pa_cons (pv 4) pa_nil))) (pa_cons (pe_call (go_barrier T) (hr.mono (by decide)) rfl T.g_barrier T.F_barrier.kp T.b_barrier .nil passL (pa_cons (pv 3) (pa_cons (pv 4) pa_nil))) (pa_cons (pe_call (go_channel T) (hr.mono (by decide)) rfl T.g_channel T.F_channel.kp T.b_channel .nil passL (pa_cons (pv 3) (pa_cons (pv 4) pa_nil))) (pa_cons (pe_call (ok_exchange T) (hr.mono (by decide)) rfl T.g_exchange T.F_exchange.kp T.b_exchange .nil pass0 (pa_cons (pv 3) pa_nil)) pa_nil))))) (pa_cons (pe_lst (pa_cons (pe_tup (pa_cons (pv 3) (pa_cons (pe_int) (pa_cons (pv 4) pa_nil)))) (pa_cons (pe_tup (pa_cons (pv 3) (pa_cons (pe_int) (pa_cons (pe_int) pa_nil)))) (pa_cons (pe_tup (pa_cons (pv 3) (pa_cons (pe_op op_add (pv 4) (pe_int)) (pa_cons (pe_int) pa_nil)))) (pa_cons (pe_tup (pa_cons (pv 3) (pa_cons (pe_int) (pa_cons (pe_int) pa_nil)))) pa_nil))))) pa_nil)))))
  (pss_one (ps_ret (pe_bl)))
  (pss_nil))
  (pss_cons (ps_set (i := 7) sc_law.nd rfl (Or.inl rfl) (pe_lst (pa_cons (pe_call (ok_law_retry T) (hr.mono (by decide)) rfl T.g__law_retry T.F__law_retry.kp T.b__law_retry .nil pass0 (pa_cons (pe_tup (pa_cons (pe_str) (pa_cons (pv 6) (pa_cons (pv 5) pa_nil)))) pa_nil)) (pa_cons (pe_call (ok_law_put T) (hr.mono (by decide)) rfl T.g__law_put T.F__law_put.kp T.b__law_put .nil pass0 (pa_cons (pv 3) (pa_cons (pe_int) (pa_cons (pe_tup (pa_cons (pe_str) (pa_cons (pv 6) (pa_cons (pv 5) pa_nil)))) pa_nil)))) pa_nil))))
  (pss_cons (ps_if (pt_not (pt_val (pe_call (ok_law_same T 20) (hr.mono (by decide)) rfl T.g__law_same T.F__law_same.kp T.b__law_same .nil pass0 (pa_cons (pe_call (ok_take T) (hr.mono (by decide)) rfl T.g_take T.F_take.kp T.b_take .nil pass0 (pa_cons (pv 3) pa_nil)) (pa_cons (pe_lst (pa_cons (pe_tup (pa_cons (pe_str) (pa_cons (pe_non) (pa_cons (pv 7) (pa_cons (pe_lst pa_nil) pa_nil))))) pa_nil)) pa_nil)))))
  (pss_one (ps_ret (pe_bl)))
  (pss_nil))
  (pss_cons (ps_if (pt_not (pt_val (pe_call (ok_law_same T 20) (hr.mono (by decide)) rfl T.g__law_same T.F__law_same.kp T.b__law_same .nil pass0 (pa_cons (pe_call (ok_give T) (hr.mono (by decide)) rfl T.g_give T.F_give.kp T.b_give .nil pass0 (pa_cons (pv 3) pa_nil)) (pa_cons (pe_lst (pa_cons (pe_tup (pa_cons (pe_str) (pa_cons (pe_non) (pa_cons (pe_lst (pa_cons (pe_call (ok_law_put T) (hr.mono (by decide)) rfl T.g__law_put T.F__law_put.kp T.b__law_put .nil pass0 (pa_cons (pv 3) (pa_cons (pe_int) (pa_cons (pe_call (ok_law_plus T) (hr.mono (by decide)) rfl T.g__law_plus T.F__law_plus.kp T.b__law_plus .nil pass0 (pa_cons (pv 6) (pa_cons (pe_int) pa_nil))) pa_nil)))) pa_nil)) (pa_cons (pe_lst pa_nil) pa_nil))))) pa_nil)) pa_nil)))))
  (pss_one (ps_ret (pe_bl)))
  (pss_nil))
  (pss_cons (ps_set (i := 8) sc_law.nd rfl (Or.inl rfl) (pe_lst (pa_cons (pe_call (ok_law_put T) (hr.mono (by decide)) rfl T.g__law_put T.F__law_put.kp T.b__law_put .nil pass0 (pa_cons (pv 3) (pa_cons (pe_int) (pa_cons (pe_tup (pa_cons (pe_str) (pa_cons (pe_int) pa_nil))) pa_nil)))) (pa_cons (pe_call (ok_law_put T) (hr.mono (by decide)) rfl T.g__law_put T.F__law_put.kp T.b__law_put .nil pass0 (pa_cons (pv 3) (pa_cons (pe_int) (pa_cons (pe_call (ok_law_plus T) (hr.mono (by decide)) rfl T.g__law_plus T.F__law_plus.kp T.b__law_plus .nil pass0 (pa_cons (pe_call (ok_law_cell T) (hr.mono (by decide)) rfl T.g__law_cell T.F__law_cell.kp T.b__law_cell .nil pass0 (pa_cons (pv 3) (pa_cons (pe_int) pa_nil))) (pa_cons (pe_int) pa_nil))) pa_nil)))) pa_nil))))
  (pss_cons (ps_set (i := 9) sc_law.nd rfl (Or.inl rfl) (pe_call (ok_law_plus T) (hr.mono (by decide)) rfl T.g__law_plus T.F__law_plus.kp T.b__law_plus .nil pass0 (pa_cons (pv 6) (pa_cons (pe_int) pa_nil))))
  (pss_cons (ps_set (i := 7) sc_law.nd rfl (Or.inl rfl) (pe_lst (pa_cons (pe_tup (pa_cons (pe_str) (pa_cons (pe_ix ix_list (pv 2) (pe_int) (fun _ _ => rfl)) (pa_cons (pe_call (ok_law_cell T) (hr.mono (by decide)) rfl T.g__law_cell T.F__law_cell.kp T.b__law_cell .nil pass0 (pa_cons (pv 3) (pa_cons (pe_int) pa_nil))) pa_nil)))) (pa_cons (pe_tup (pa_cons (pe_str) (pa_cons (pe_tup (pa_cons (pe_str) (pa_cons (pv 9) (pa_cons (pe_tup (pa_cons (pe_str) (pa_cons (pv 4) pa_nil))) pa_nil)))) (pa_cons (pv 8) (pa_cons (pe_lst (pa_cons (pe_call (ok_law_put T) (hr.mono (by decide)) rfl T.g__law_put T.F__law_put.kp T.b__law_put .nil pass0 (pa_cons (pv 3) (pa_cons (pe_int) (pa_cons (pv 9) pa_nil)))) pa_nil)) pa_nil))))) pa_nil))))
  (pss_cons (ps_set (i := 10) sc_law.nd rfl (Or.inl rfl) (pe_lst (pa_cons (pe_call (ok_law_retry T) (hr.mono (by decide)) rfl T.g__law_retry T.F__law_retry.kp T.b__law_retry .nil pass0 (pa_cons (pe_tup (pa_cons (pe_str) (pa_cons (pe_call (ok_law_cell T) (hr.mono (by decide)) rfl T.g__law_cell T.F__law_cell.kp T.b__law_cell .nil pass0 (pa_cons (pv 3) (pa_cons (pe_int) pa_nil))) (pa_cons (pe_tup (pa_cons (pe_str) (pa_cons (pe_ix ix_list (pv 2) (pe_int) (fun _ _ => rfl)) pa_nil))) pa_nil)))) pa_nil)) pa_nil)))
  (pss_cons (ps_if (pt_not (pt_val (pe_call (ok_law_same T 20) (hr.mono (by decide)) rfl T.g__law_same T.F__law_same.kp T.b__law_same .nil pass0 (pa_cons (pe_call (ok_meet T) (hr.mono (by decide)) rfl T.g_meet T.F_meet.kp T.b_meet .nil pass0 (pa_cons (pv 3) (pa_cons (pv 4) (pa_cons (pe_ix ix_list (pv 2) (pe_int) (fun _ _ => rfl)) pa_nil)))) (pa_cons (pe_lst (pa_cons (pe_tup (pa_cons (pe_str) (pa_cons (pe_non) (pa_cons (pv 7) (pa_cons (pe_lst pa_nil) pa_nil))))) (pa_cons (pe_tup (pa_cons (pe_str) (pa_cons (pe_non) (pa_cons (pv 10) (pa_cons (pe_lst pa_nil) pa_nil))))) pa_nil))) pa_nil)))))
  (pss_one (ps_ret (pe_bl)))
  (pss_nil))
  (pss_cons (ps_set (i := 11) sc_law.nd rfl (Or.inl rfl) (pe_call (ok_law_exp T 4) (hr.mono (by decide)) rfl T.g__law_exp T.F__law_exp.kp T.b__law_exp .nil pass0 (pa_cons (pv 1) (pa_cons (pe_slice sl_list (pv 2) (po_some (pe_int)) (po_none)) (pa_cons (pe_lst pa_nil) (pa_cons (pe_int) pa_nil))))))
  (pss_cons (ps_set (i := 12) sc_law.nd rfl (Or.inl rfl) (pe_call (ok_law_cell T) (hr.mono (by decide)) rfl T.g__law_cell T.F__law_cell.kp T.b__law_cell .nil pass0 (pa_cons (pv 3) (pa_cons (pv 4) pa_nil))))
  (pss_cons (ps_set (i := 13) sc_law.nd rfl (Or.inl rfl) (pe_call (ok_law_cell T) (hr.mono (by decide)) rfl T.g__law_cell T.F__law_cell.kp T.b__law_cell .nil pass0 (pa_cons (pv 3) (pa_cons (pe_op op_add (pv 4) (pe_int)) pa_nil))))
  (pss_cons (ps_set (i := 7) sc_law.nd rfl (Or.inl rfl) (pe_lst (pa_cons (pe_call (ok_law_retry T) (hr.mono (by decide)) rfl T.g__law_retry T.F__law_retry.kp T.b__law_retry .nil pass0 (pa_cons (pe_tup (pa_cons (pe_str) (pa_cons (pv 13) (pa_cons (pe_tup (pa_cons (pe_str) (pa_cons (pv 4) pa_nil))) pa_nil)))) pa_nil)) (pa_cons (pe_tup (pa_cons (pe_str) (pa_cons (pv 3) (pa_cons (pe_tup (pa_cons (pe_str) (pa_cons (pe_tup (pa_cons (pe_str) (pa_cons (pv 12) (pa_cons (pv 13) pa_nil)))) (pa_cons (pe_tup (pa_cons (pe_str) (pa_cons (pv 4) pa_nil))) pa_nil)))) (pa_cons (pv 11) pa_nil))))) pa_nil))))
  (pss_cons (ps_expr (pe_bm PySem.F.plainAttrs_list PySem.F.slot_list_append PySem.F.type_list_append mt_append (pv 7) (pa_cons (pe_call (ok_law_put T) (hr.mono (by decide)) rfl T.g__law_put T.F__law_put.kp T.b__law_put .nil pass0 (pa_cons (pv 3) (pa_cons (pe_op op_add (pv 4) (pe_int)) (pa_cons (pe_call (ok_law_plus T) (hr.mono (by decide)) rfl T.g__law_plus T.F__law_plus.kp T.b__law_plus .nil pass0 (pa_cons (pv 13) (pa_cons (pe_int) pa_nil))) pa_nil)))) pa_nil)))
  (pss_cons (ps_if (pt_not (pt_val (pe_call (ok_law_same T 20) (hr.mono (by decide)) rfl T.g__law_same T.F__law_same.kp T.b__law_same .nil pass0 (pa_cons (pe_call (ok_send T) (hr.mono (by decide)) rfl T.g_send T.F_send.kp T.b_send .nil pass0 (pa_cons (pv 3) (pa_cons (pv 4) (pa_cons (pv 11) pa_nil)))) (pa_cons (pe_lst (pa_cons (pe_tup (pa_cons (pe_str) (pa_cons (pe_non) (pa_cons (pv 7) (pa_cons (pe_lst pa_nil) pa_nil))))) pa_nil)) pa_nil)))))
  (pss_one (ps_ret (pe_bl)))
  (pss_nil))
  (pss_cons (ps_set (i := 7) sc_law.nd rfl (Or.inl rfl) (pe_lst (pa_cons (pe_call (ok_law_retry T) (hr.mono (by decide)) rfl T.g__law_retry T.F__law_retry.kp T.b__law_retry .nil pass0 (pa_cons (pe_tup (pa_cons (pe_str) (pa_cons (pv 13) (pa_cons (pe_tup (pa_cons (pe_str) (pa_cons (pe_int) pa_nil))) pa_nil)))) pa_nil)) (pa_cons (pe_tup (pa_cons (pe_str) (pa_cons (pe_ix ix_list (pv 2) (pe_int) (fun _ _ => rfl)) (pa_cons (pe_tup (pa_cons (pe_str) (pa_cons (pv 3) (pa_cons (pv 12) pa_nil)))) pa_nil)))) pa_nil))))
  (pss_cons (ps_expr (pe_bm PySem.F.plainAttrs_list PySem.F.slot_list_append PySem.F.type_list_append mt_append (pv 7) (pa_cons (pe_call (ok_law_put T) (hr.mono (by decide)) rfl T.g__law_put T.F__law_put.kp T.b__law_put .nil pass0 (pa_cons (pv 3) (pa_cons (pv 4) (pa_cons (pe_tup (pa_cons (pe_str) (pa_cons (pe_call (ok_law_plus T) (hr.mono (by decide)) rfl T.g__law_plus T.F__law_plus.kp T.b__law_plus .nil pass0 (pa_cons (pv 12) (pa_cons (pe_int) pa_nil))) (pa_cons (pe_tup (pa_cons (pe_str) (pa_cons (pv 4) pa_nil))) pa_nil)))) pa_nil)))) pa_nil)))
  (pss_cons (ps_expr (pe_bm PySem.F.plainAttrs_list PySem.F.slot_list_append PySem.F.type_list_append mt_append (pv 7) (pa_cons (pe_call (ok_law_put T) (hr.mono (by decide)) rfl T.g__law_put T.F__law_put.kp T.b__law_put .nil pass0 (pa_cons (pv 3) (pa_cons (pe_op op_add (pv 4) (pe_int)) (pa_cons (pe_tup (pa_cons (pe_str) (pa_cons (pv 13) (pa_cons (pv 5) pa_nil)))) pa_nil)))) pa_nil)))
  (pss_cons (ps_if (pt_not (pt_val (pe_call (ok_law_same T 20) (hr.mono (by decide)) rfl T.g__law_same T.F__law_same.kp T.b__law_same .nil pass0 (pa_cons (pe_call (ok_receive T) (hr.mono (by decide)) rfl T.g_receive T.F_receive.kp T.b_receive .nil pass0 (pa_cons (pv 3) (pa_cons (pv 4) (pa_cons (pe_ix ix_list (pv 2) (pe_int) (fun _ _ => rfl)) pa_nil)))) (pa_cons (pe_lst (pa_cons (pe_tup (pa_cons (pe_str) (pa_cons (pe_non) (pa_cons (pv 7) (pa_cons (pe_lst pa_nil) pa_nil))))) pa_nil)) pa_nil)))))
  (pss_one (ps_ret (pe_bl)))
  (pss_nil))
  (pss_cons (ps_set (i := 14) sc_law.nd rfl (Or.inl rfl) (pe_lst (pa_cons (pe_tup (pa_cons (pe_str) (pa_cons (pe_ix ix_list (pv 2) (pe_int) (fun _ _ => rfl)) (pa_cons (pv 5) pa_nil)))) (pa_cons (pe_call (ok_law_put T) (hr.mono (by decide)) rfl T.g__law_put T.F__law_put.kp T.b__law_put .nil pass0 (pa_cons (pv 3) (pa_cons (pe_int) (pa_cons (pv 5) pa_nil)))) (pa_cons (pe_call (ok_law_put T) (hr.mono (by decide)) rfl T.g__law_put T.F__law_put.kp T.b__law_put .nil pass0 (pa_cons (pv 3) (pa_cons (pe_int) (pa_cons (pe_tup (pa_cons (pe_str) (pa_cons (pe_ix ix_list (pv 2) (pe_int) (fun _ _ => rfl)) pa_nil))) pa_nil)))) pa_nil)))))
  (pss_cons (ps_set (i := 15) sc_law.nd rfl (Or.inl rfl) (pe_lst (pa_cons (pe_tup (pa_cons (pe_str) (pa_cons (pe_ix ix_list (pv 2) (pe_int) (fun _ _ => rfl)) (pa_cons (pe_tup (pa_cons (pe_str) (pa_cons (pe_int) pa_nil))) pa_nil)))) (pa_cons (pe_call (ok_law_put T) (hr.mono (by decide)) rfl T.g__law_put T.F__law_put.kp T.b__law_put .nil pass0 (pa_cons (pv 3) (pa_cons (pe_int) (pa_cons (pe_tup (pa_cons (pe_str) (pa_cons (pe_ix ix_list (pv 2) (pe_int) (fun _ _ => rfl)) pa_nil))) pa_nil)))) (pa_cons (pe_tup (pa_cons (pe_str) (pa_cons (pe_ix ix_list (pv 2) (pe_int) (fun _ _ => rfl)) (pa_cons (pe_call (ok_law_cell T) (hr.mono (by decide)) rfl T.g__law_cell T.F__law_cell.kp T.b__law_cell .nil pass0 (pa_cons (pv 3) (pa_cons (pe_int) pa_nil))) pa_nil)))) pa_nil)))))
  (pss_cons (ps_expr (pe_bm PySem.F.plainAttrs_list PySem.F.slot_list_append PySem.F.type_list_append mt_append (pv 15) (pa_cons (pe_call (ok_law_put T) (hr.mono (by decide)) rfl T.g__law_put T.F__law_put.kp T.b__law_put .nil pass0 (pa_cons (pv 3) (pa_cons (pe_int) (pa_cons (pe_tup (pa_cons (pe_str) (pa_cons (pe_int) pa_nil))) pa_nil)))) pa_nil)))
  (pss_cons (ps_set (i := 7) sc_law.nd rfl (Or.inl rfl) (pe_lst (pa_cons (pe_call (ok_law_retry T) (hr.mono (by decide)) rfl T.g__law_retry T.F__law_retry.kp T.b__law_retry .nil pass0 (pa_cons (pe_tup (pa_cons (pe_str) (pa_cons (pv 6) (pa_cons (pe_tup (pa_cons (pe_str) (pa_cons (pe_int) pa_nil))) pa_nil)))) pa_nil)) (pa_cons (pe_tup (pa_cons (pe_str) (pa_cons (pe_tup (pa_cons (pe_str) (pa_cons (pv 6) (pa_cons (pe_tup (pa_cons (pe_str) (pa_cons (pe_int) pa_nil))) pa_nil)))) (pa_cons (pv 14) (pa_cons (pv 15) pa_nil))))) pa_nil))))
  (pss_cons (ps_set (i := 16) sc_law.nd rfl (Or.inl rfl) (pe_lst (pa_cons (pe_call (ok_law_retry T) (hr.mono (by decide)) rfl T.g__law_retry T.F__law_retry.kp T.b__law_retry .nil pass0 (pa_cons (pe_tup (pa_cons (pe_str) (pa_cons (pe_tup (pa_cons (pe_str) (pa_cons (pv 6) (pa_cons (pe_tup (pa_cons (pe_str) (pa_cons (pe_int) pa_nil))) pa_nil)))) pa_nil))) pa_nil)) (pa_cons (pe_tup (pa_cons (pe_str) (pa_cons (pe_ix ix_list (pv 2) (pe_int) (fun _ _ => rfl)) (pa_cons (pe_call (ok_law_cell T) (hr.mono (by decide)) rfl T.g__law_cell T.F__law_cell.kp T.b__law_cell .nil pass0 (pa_cons (pv 3) (pa_cons (pe_int) pa_nil))) pa_nil)))) pa_nil))))
  (pss_cons (ps_expr (pe_bm PySem.F.plainAttrs_list PySem.F.slot_list_append PySem.F.type_list_append mt_append (pv 16) (pa_cons (pe_call (ok_law_put T) (hr.mono (by decide)) rfl T.g__law_put T.F__law_put.kp T.b__law_put .nil pass0 (pa_cons (pv 3) (pa_cons (pe_int) (pa_cons (pe_tup (pa_cons (pe_str) (pa_cons (pe_int) pa_nil))) pa_nil)))) pa_nil)))
  (pss_cons (ps_set (i := 17) sc_law.nd rfl (Or.inl rfl) (pe_lst (pa_cons (pe_tup (pa_cons (pe_str) (pa_cons (pe_non) (pa_cons (pv 7) (pa_cons (pe_lst pa_nil) pa_nil))))) (pa_cons (pe_tup (pa_cons (pe_str) (pa_cons (pe_tup (pa_cons (pe_str) (pa_cons (pe_ix ix_list (pv 2) (pe_int) (fun _ _ => rfl)) pa_nil))) (pa_cons (pe_lst (pa_cons (pe_tup (pa_cons (pe_str) (pa_cons (pe_non) (pa_cons (pv 16) (pa_cons (pe_lst pa_nil) pa_nil))))) pa_nil)) (pa_cons (pe_lst pa_nil) pa_nil))))) pa_nil))))
  (pss_cons (ps_if (PW.pt (pw_or (pt_not (pt_val (pe_call (ok_law_same T 20) (hr.mono (by decide)) rfl T.g__law_same T.F__law_same.kp T.b__law_same .nil pass0 (pa_cons (pe_call (ok_swap T) (hr.mono (by decide)) rfl T.g_swap T.F_swap.kp T.b_swap .nil pass0 (pa_cons (pv 3) (pa_cons (pe_ix ix_list (pv 2) (pe_int) (fun _ _ => rfl)) (pa_cons (pe_ix ix_list (pv 2) (pe_int) (fun _ _ => rfl)) pa_nil)))) (pa_cons (pv 17) pa_nil))))) (pw_or1 (pt_not (pt_val (pe_call (ok_law_same T 20) (hr.mono (by decide)) rfl T.g__law_same T.F__law_same.kp T.b__law_same .nil pass0 (pa_cons (pe_call (go_semaphore T) (hr.mono (by decide)) rfl T.g_semaphore T.F_semaphore.kp T.b_semaphore .nil passL (pa_cons (pv 3) (pa_cons (pe_int) pa_nil))) (pa_cons (pe_tup (pa_cons (pv 3) (pa_cons (pe_int) (pa_cons (pe_int) pa_nil)))) pa_nil))))))))
  (pss_one (ps_ret (pe_bl)))
  (pss_nil))
  (pss_cons (ps_for PassesOwn.never rfl (pi_range1 (by rfl) T.n_range (pa_cons (pe_int) pa_nil)) (pg_name (i := 18) sc_law.nd rfl (Or.inl rfl))
  (pss_cons (ps_set (i := 19) sc_law.nd rfl (Or.inl rfl) (pe_op op_sub (pe_ix ix_list (pe_lst (pa_cons (pe_un un_neg pe_int) (pa_cons (pe_int) (pa_cons (pe_int) pa_nil)))) (pv 18) (fun _ _ => rfl)) (pe_call (ok_law_take T) (hr.mono (by decide)) rfl T.g__law_take T.F__law_take.kp T.b__law_take .nil pass0 (pa_cons (pv 1) (pa_cons (pe_int) pa_nil)))))
  (pss_one (ps_if (PW.pt (pw_or (pt_not (pt_val (pe_call (ok_law_refused T) (hr.mono (by decide)) rfl T.g__law_refused T.F__law_refused.kp T.b__law_refused .nil pass0 (pa_cons (pv 18) (pa_cons (pv 3) (pa_cons (pv 19) pa_nil)))))) (pw_or1 (pt_not (pt_val (pe_call (ok_law_refused T) (hr.mono (by decide)) rfl T.g__law_refused T.F__law_refused.kp T.b__law_refused .nil pass0 (pa_cons (pv 18) (pa_cons (pv 3) (pa_cons (pe_op op_add (pe_ix ix_list (pe_lst (pa_cons (pe_int) (pa_cons (pe_int) (pa_cons (pe_int) pa_nil)))) (pv 18) (fun _ _ => rfl)) (pe_call (ok_law_take T) (hr.mono (by decide)) rfl T.g__law_take T.F__law_take.kp T.b__law_take .nil pass0 (pa_cons (pv 1) (pa_cons (pe_int) pa_nil)))) pa_nil)))))))))
  (pss_one (ps_ret (pe_bl)))
  (pss_nil)))))
  (pss_one (ps_ret (pe_call (ok_law_same T 20) (hr.mono (by decide)) rfl T.g__law_same T.F__law_same.kp T.b__law_same .nil pass0 (pa_cons (pe_lst (pa_cons (pe_call (go_semaphore T) (hr.mono (by decide)) rfl T.g_semaphore T.F_semaphore.kp T.b_semaphore .nil passL (pa_cons (pv 3) (pa_cons (pe_int) pa_nil))) (pa_cons (pe_call (go_barrier T) (hr.mono (by decide)) rfl T.g_barrier T.F_barrier.kp T.b_barrier .nil passL (pa_cons (pv 3) (pa_cons (pe_int) pa_nil))) (pa_cons (pe_call (go_channel T) (hr.mono (by decide)) rfl T.g_channel T.F_channel.kp T.b_channel .nil passL (pa_cons (pv 3) (pa_cons (pe_int) pa_nil))) pa_nil)))) (pa_cons (pe_lst (pa_cons (pe_tup (pa_cons (pv 3) (pa_cons (pe_int) (pa_cons (pe_int) pa_nil)))) (pa_cons (pe_tup (pa_cons (pv 3) (pa_cons (pe_int) (pa_cons (pe_int) pa_nil)))) (pa_cons (pe_tup (pa_cons (pv 3) (pa_cons (pe_int) (pa_cons (pe_int) pa_nil)))) pa_nil)))) pa_nil)))))))))))))))))))))))))))))))))))))), ?_⟩
  -- draws
  refine ⟨_, rfl, a, ns, rfl, hS, hlen, fun d ms H1 sH hd0 hd => ?_⟩
  dsimp only [gName]
  have o0 : Off [d] H := fun p m => by rw [List.mem_singleton.mp m]; exact hd0
  have j1 : Ints [d] H1 := fun p m => by rw [List.mem_singleton.mp m]; exact ⟨ms, hd⟩
  -- names
  refine ⟨_, rfl, H, d, 3, rfl, by decide, sH, o0, j1, fun p zs H2 g2 j2 hp0 hp hz => ?_⟩
  dsimp only [gName]
  have npd : p ∉ [d] := fun m => by
    rw [List.mem_singleton.mp m, hd] at hp0
    cases hp0
  obtain ⟨a1, b1, c1, rfl⟩ : ∃ a1 b1 c1, zs = [a1, b1, c1] := by
    match zs, hz with
    | [a1, b1, c1], _ => exact ⟨a1, b1, c1, rfl⟩
  obtain ⟨B2, s2, o2, e2⟩ := know_go (X := [d]) (ds := strRow [a1, b1, c1]) g2.nh o0 (Env.nil (K := K)) (strRow_rp _) (by show 3 ≤ 100000; decide) (sH.free hp0) npd hp
  -- name
  refine go_asg (K := K) (X := [d]) (d := .str a1) (ev_names (i := 0) (ev_at 0 e2 rfl rfl) ev_int rfl) s2 o2 j2 e2 fun w3 B3 H3 g3 j3 e3 => ?_
  refine set_sl (σ' := [some (.ref a), some (.ref d), some (.ref p), some w3, none, none, none, none, none, none, none, none, none, none, none, none, none, none, none, none]) rfl ?_
  have s3 := g3.nh
  have o3 := g3.offI o2 j2
  -- n
  refine take_call (b := 6) rfl (fun _ h => h) s3 o3 j3 (by decide) fun z H4 z0 z1 g4 j4 _ => ?_
  refine ⟨_, _, rfl, rfl, ?_⟩
  dsimp only [gName]
  refine set_sl (σ' := [some (.ref a), some (.ref d), some (.ref p), some w3, some (.int (1 + z)), none, none, none, none, none, none, none, none, none, none, none, none, none, none, none]) rfl ?_
  have s4 := g4.nh
  have o4 := o3
  have e4 : Env K B3 ((.int (1 + z), .int (1 + z)) :: (w3, .str a1) :: (.ref p, .lst (strRow [a1, b1, c1])) :: []) := e3.add rfl
  -- one
  refine go_asg (K := K) (X := [d]) (d := (.tup (.cons (.str "number") (.cons (.int 1) .nil)))) (ev_tupX (ev_cons ev_str (ev_cons ev_int ev_nil)) rfl (Nat.le_of_ble_eq_true rfl)) s4 o4 j4 e4 fun w5 B5 H5 g5 j5 e5 => ?_
  refine set_sl (σ' := [some (.ref a), some (.ref d), some (.ref p), some w3, some (.int (1 + z)), some w5, none, none, none, none, none, none, none, none, none, none, none, none, none, none]) rfl ?_
  have s5 := g5.nh
  have o5 := g5.offI o4 j4
  -- cell
  refine go_asg (K := K) (X := [d]) (d := (f_law_cell (.cons (.str a1) (.cons (.int 0) .nil)))) (ev_callX (ev_cons (ev_at 2 e5 rfl rfl) (ev_cons ev_int ev_nil)) trivial rfl rfl rfl) s5 o5 j5 e5 fun w6 B6 H6 g6 j6 e6 => ?_
  refine set_sl (σ' := [some (.ref a), some (.ref d), some (.ref p), some w3, some (.int (1 + z)), some w5, some w6, none, none, none, none, none, none, none, none, none, none, none, none, none]) rfl ?_
  have s6 := g6.nh
  have o6 := g6.offI o5 j5
  -- same
  refine same_go (K := K) (X := [d]) (d := (.lst (.cons (f_cnt f_semaphore (.cons (.str a1) (.cons (.int (1 + z)) .nil))) (.cons (f_cnt f_barrier (.cons (.str a1) (.cons (.int (1 + z)) .nil))) (.cons (f_cnt f_channel (.cons (.str a1) (.cons (.int (1 + z)) .nil))) (.cons (f_exchange (.cons (.str a1) .nil)) .nil)))))) (ev_lstX (ev_cons (ev_callX (ev_cons (ev_at 3 e6 rfl rfl) (ev_cons (ev_at 2 e6 rfl rfl) ev_nil)) ⟨_, _, rfl, by omega, by omega⟩ rfl rfl rfl) (ev_cons (ev_callX (ev_cons (ev_at 3 e6 rfl rfl) (ev_cons (ev_at 2 e6 rfl rfl) ev_nil)) ⟨_, _, rfl, by omega, by omega⟩ rfl rfl rfl) (ev_cons (ev_callX (ev_cons (ev_at 3 e6 rfl rfl) (ev_cons (ev_at 2 e6 rfl rfl) ev_nil)) ⟨_, _, rfl, by omega, by omega⟩ rfl rfl rfl) (ev_cons (ev_callX (ev_cons (ev_at 3 e6 rfl rfl) ev_nil) trivial rfl rfl rfl) ev_nil)))) rfl (Nat.le_of_ble_eq_true rfl)) (ev_lstX (ev_cons (ev_tupX (ev_cons (ev_at 3 e6 rfl rfl) (ev_cons ev_int (ev_cons (ev_at 2 e6 rfl rfl) ev_nil))) rfl (Nat.le_of_ble_eq_true rfl)) (ev_cons (ev_tupX (ev_cons (ev_at 3 e6 rfl rfl) (ev_cons ev_int (ev_cons ev_int ev_nil))) rfl (Nat.le_of_ble_eq_true rfl)) (ev_cons (ev_tupX (ev_cons (ev_at 3 e6 rfl rfl) (ev_cons (ev_add (ev_at 2 e6 rfl rfl) ev_int) (ev_cons ev_int ev_nil))) rfl (Nat.le_of_ble_eq_true rfl)) (ev_cons (ev_tupX (ev_cons (ev_at 3 e6 rfl rfl) (ev_cons ev_int (ev_cons ev_int ev_nil))) rfl (Nat.le_of_ble_eq_true rfl)) ev_nil)))) rfl (Nat.le_of_ble_eq_true rfl)) rfl ?_ ?_ s6 o6 j6 fun H7 s7 j7 => ?_
  · walk_at "okd"
  · walk_at "depd"
  have e7 := e6
  have o7 := o6
  -- body
  refine go_asg (K := K) (X := [d]) (d := (.lst (.cons (f_law_retry (.cons (.tup (.cons (.str "less") (.cons (f_law_cell (.cons (.str a1) (.cons (.int 0) .nil))) (.cons (.tup (.cons (.str "number") (.cons (.int 1) .nil))) .nil)))) .nil)) (.cons (f_law_put (.cons (.str a1) (.cons (.int 0) (.cons (.tup (.cons (.str "minus") (.cons (f_law_cell (.cons (.str a1) (.cons (.int 0) .nil))) (.cons (.tup (.cons (.str "number") (.cons (.int 1) .nil))) .nil)))) .nil)))) .nil)))) (ev_lstX (ev_cons (ev_callX (ev_cons (ev_tupX (ev_cons ev_str (ev_cons (ev_at 0 e7 rfl rfl) (ev_cons (ev_at 1 e7 rfl rfl) ev_nil))) rfl (Nat.le_of_ble_eq_true rfl)) ev_nil) trivial rfl rfl rfl) (ev_cons (ev_callX (ev_cons (ev_at 3 e7 rfl rfl) (ev_cons ev_int (ev_cons (ev_tupX (ev_cons ev_str (ev_cons (ev_at 0 e7 rfl rfl) (ev_cons (ev_at 1 e7 rfl rfl) ev_nil))) rfl (Nat.le_of_ble_eq_true rfl)) ev_nil))) trivial rfl rfl rfl) ev_nil)) rfl (Nat.le_of_ble_eq_true rfl)) s7 o7 j7 e7 fun w8 B8 H8 g8 j8 e8 => ?_
  refine set_sl (σ' := [some (.ref a), some (.ref d), some (.ref p), some w3, some (.int (1 + z)), some w5, some w6, some w8, none, none, none, none, none, none, none, none, none, none, none, none]) rfl ?_
  have s8 := g8.nh
  have o8 := g8.offI o7 j7
  -- same
  refine same_go (K := K) (X := [d]) (d := (f_take (.cons (.str a1) .nil))) (ev_callX (ev_cons (ev_at 4 e8 rfl rfl) ev_nil) trivial rfl rfl rfl) (ev_lstX (ev_cons (ev_tupX (ev_cons ev_str (ev_cons ev_non (ev_cons (ev_at 0 e8 rfl rfl) (ev_cons (ev_lstX ev_nil rfl (Nat.le_of_ble_eq_true rfl)) ev_nil)))) rfl (Nat.le_of_ble_eq_true rfl)) ev_nil) rfl (Nat.le_of_ble_eq_true rfl)) rfl ?_ ?_ s8 o8 j8 fun H9 s9 j9 => ?_
  · walk_at "okd"
  · walk_at "depd"
  have e9 := e8
  have o9 := o8
  -- same
  refine same_go (K := K) (X := [d]) (d := (f_give (.cons (.str a1) .nil))) (ev_callX (ev_cons (ev_at 4 e9 rfl rfl) ev_nil) trivial rfl rfl rfl) (ev_lstX (ev_cons (ev_tupX (ev_cons ev_str (ev_cons ev_non (ev_cons (ev_lstX (ev_cons (ev_callX (ev_cons (ev_at 4 e9 rfl rfl) (ev_cons ev_int (ev_cons (ev_callX (ev_cons (ev_at 1 e9 rfl rfl) (ev_cons ev_int ev_nil)) trivial rfl rfl rfl) ev_nil))) trivial rfl rfl rfl) ev_nil) rfl (Nat.le_of_ble_eq_true rfl)) (ev_cons (ev_lstX ev_nil rfl (Nat.le_of_ble_eq_true rfl)) ev_nil)))) rfl (Nat.le_of_ble_eq_true rfl)) ev_nil) rfl (Nat.le_of_ble_eq_true rfl)) rfl ?_ ?_ s9 o9 j9 fun H10 s10 j10 => ?_
  · walk_at "okd"
  · walk_at "depd"
  have e10 := e9
  have o10 := o9
  -- full
  refine go_asg (K := K) (X := [d]) (d := (.lst (.cons (f_law_put (.cons (.str a1) (.cons (.int 0) (.cons (.tup (.cons (.str "number") (.cons (.int 0) .nil))) .nil)))) (.cons (f_law_put (.cons (.str a1) (.cons (.int 1) (.cons (f_law_plus (.cons (f_law_cell (.cons (.str a1) (.cons (.int 1) .nil))) (.cons (.int 1) .nil))) .nil)))) .nil)))) (ev_lstX (ev_cons (ev_callX (ev_cons (ev_at 4 e10 rfl rfl) (ev_cons ev_int (ev_cons (ev_tupX (ev_cons ev_str (ev_cons ev_int ev_nil)) rfl (Nat.le_of_ble_eq_true rfl)) ev_nil))) trivial rfl rfl rfl) (ev_cons (ev_callX (ev_cons (ev_at 4 e10 rfl rfl) (ev_cons ev_int (ev_cons (ev_callX (ev_cons (ev_callX (ev_cons (ev_at 4 e10 rfl rfl) (ev_cons ev_int ev_nil)) trivial rfl rfl rfl) (ev_cons ev_int ev_nil)) trivial rfl rfl rfl) ev_nil))) trivial rfl rfl rfl) ev_nil)) rfl (Nat.le_of_ble_eq_true rfl)) s10 o10 j10 e10 fun w11 B11 H11 g11 j11 e11 => ?_
  refine set_sl (σ' := [some (.ref a), some (.ref d), some (.ref p), some w3, some (.int (1 + z)), some w5, some w6, some w8, some w11, none, none, none, none, none, none, none, none, none, none, none]) rfl ?_
  have s11 := g11.nh
  have o11 := g11.offI o10 j10
  -- come
  refine go_asg (K := K) (X := [d]) (d := (f_law_plus (.cons (f_law_cell (.cons (.str a1) (.cons (.int 0) .nil))) (.cons (.int 1) .nil)))) (ev_callX (ev_cons (ev_at 2 e11 rfl rfl) (ev_cons ev_int ev_nil)) trivial rfl rfl rfl) s11 o11 j11 e11 fun w12 B12 H12 g12 j12 e12 => ?_
  refine set_sl (σ' := [some (.ref a), some (.ref d), some (.ref p), some w3, some (.int (1 + z)), some w5, some w6, some w8, some w11, some w12, none, none, none, none, none, none, none, none, none, none]) rfl ?_
  have s12 := g12.nh
  have o12 := g12.offI o11 j11
  -- body
  refine go_asg (K := K) (X := [d]) (d := (.lst (.cons (.tup (.cons (.str "set") (.cons (.str b1) (.cons (f_law_cell (.cons (.str a1) (.cons (.int 1) .nil))) .nil)))) (.cons (.tup (.cons (.str "if") (.cons (.tup (.cons (.str "same") (.cons (f_law_plus (.cons (f_law_cell (.cons (.str a1) (.cons (.int 0) .nil))) (.cons (.int 1) .nil))) (.cons (.tup (.cons (.str "number") (.cons (.int (1 + z)) .nil))) .nil)))) (.cons (.lst (.cons (f_law_put (.cons (.str a1) (.cons (.int 0) (.cons (.tup (.cons (.str "number") (.cons (.int 0) .nil))) .nil)))) (.cons (f_law_put (.cons (.str a1) (.cons (.int 1) (.cons (f_law_plus (.cons (f_law_cell (.cons (.str a1) (.cons (.int 1) .nil))) (.cons (.int 1) .nil))) .nil)))) .nil))) (.cons (.lst (.cons (f_law_put (.cons (.str a1) (.cons (.int 0) (.cons (f_law_plus (.cons (f_law_cell (.cons (.str a1) (.cons (.int 0) .nil))) (.cons (.int 1) .nil))) .nil)))) .nil)) .nil))))) .nil)))) (ev_lstX (ev_cons (ev_tupX (ev_cons ev_str (ev_cons (ev_names (i := 1) (ev_at 7 e12 rfl rfl) ev_int rfl) (ev_cons (ev_callX (ev_cons (ev_at 6 e12 rfl rfl) (ev_cons ev_int ev_nil)) trivial rfl rfl rfl) ev_nil))) rfl (Nat.le_of_ble_eq_true rfl)) (ev_cons (ev_tupX (ev_cons ev_str (ev_cons (ev_tupX (ev_cons ev_str (ev_cons (ev_at 0 e12 rfl rfl) (ev_cons (ev_tupX (ev_cons ev_str (ev_cons (ev_at 5 e12 rfl rfl) ev_nil)) rfl (Nat.le_of_ble_eq_true rfl)) ev_nil))) rfl (Nat.le_of_ble_eq_true rfl)) (ev_cons (ev_at 1 e12 rfl rfl) (ev_cons (ev_lstX (ev_cons (ev_callX (ev_cons (ev_at 6 e12 rfl rfl) (ev_cons ev_int (ev_cons (ev_at 0 e12 rfl rfl) ev_nil))) trivial rfl rfl rfl) ev_nil) rfl (Nat.le_of_ble_eq_true rfl)) ev_nil)))) rfl (Nat.le_of_ble_eq_true rfl)) ev_nil)) rfl (Nat.le_of_ble_eq_true rfl)) s12 o12 j12 e12 fun w13 B13 H13 g13 j13 e13 => ?_
  refine set_sl (σ' := [some (.ref a), some (.ref d), some (.ref p), some w3, some (.int (1 + z)), some w5, some w6, some w13, some w11, some w12, none, none, none, none, none, none, none, none, none, none]) rfl ?_
  have s13 := g13.nh
  have o13 := g13.offI o12 j12
  -- wait
  refine go_asg (K := K) (X := [d]) (d := (.lst (.cons (f_law_retry (.cons (.tup (.cons (.str "same") (.cons (f_law_cell (.cons (.str a1) (.cons (.int 1) .nil))) (.cons (.tup (.cons (.str "local") (.cons (.str b1) .nil))) .nil)))) .nil)) .nil))) (ev_lstX (ev_cons (ev_callX (ev_cons (ev_tupX (ev_cons ev_str (ev_cons (ev_callX (ev_cons (ev_at 7 e13 rfl rfl) (ev_cons ev_int ev_nil)) trivial rfl rfl rfl) (ev_cons (ev_tupX (ev_cons ev_str (ev_cons (ev_names (i := 1) (ev_at 8 e13 rfl rfl) ev_int rfl) ev_nil)) rfl (Nat.le_of_ble_eq_true rfl)) ev_nil))) rfl (Nat.le_of_ble_eq_true rfl)) ev_nil) trivial rfl rfl rfl) ev_nil) rfl (Nat.le_of_ble_eq_true rfl)) s13 o13 j13 e13 fun w14 B14 H14 g14 j14 e14 => ?_
  refine set_sl (σ' := [some (.ref a), some (.ref d), some (.ref p), some w3, some (.int (1 + z)), some w5, some w6, some w13, some w11, some w12, some w14, none, none, none, none, none, none, none, none, none]) rfl ?_
  have s14 := g14.nh
  have o14 := g14.offI o13 j13
  -- same
  refine same_go (K := K) (X := [d]) (d := (f_meet (.cons (.str a1) (.cons (.int (1 + z)) (.cons (.str b1) .nil))))) (ev_callX (ev_cons (ev_at 8 e14 rfl rfl) (ev_cons (ev_at 7 e14 rfl rfl) (ev_cons (ev_names (i := 1) (ev_at 9 e14 rfl rfl) ev_int rfl) ev_nil))) trivial rfl rfl rfl) (ev_lstX (ev_cons (ev_tupX (ev_cons ev_str (ev_cons ev_non (ev_cons (ev_at 1 e14 rfl rfl) (ev_cons (ev_lstX ev_nil rfl (Nat.le_of_ble_eq_true rfl)) ev_nil)))) rfl (Nat.le_of_ble_eq_true rfl)) (ev_cons (ev_tupX (ev_cons ev_str (ev_cons ev_non (ev_cons (ev_at 0 e14 rfl rfl) (ev_cons (ev_lstX ev_nil rfl (Nat.le_of_ble_eq_true rfl)) ev_nil)))) rfl (Nat.le_of_ble_eq_true rfl)) ev_nil)) rfl (Nat.le_of_ble_eq_true rfl)) rfl ?_ ?_ s14 o14 j14 fun H15 s15 j15 => ?_
  · walk_at "okd"
  · walk_at "depd"
  have e15 := e14
  have o15 := o14
  -- exp
  obtain ⟨pn, epn, hpn⟩ := str_list (e15.at_ (v := .ref p) (d := .lst (strRow [a1, b1, c1])) 9 rfl)
  cases epn
  refine ⟨_, rfl, _, rfl, 1, rfl, p, _, rfl, Same.sqL s15 hpn, fun q1 hq1 => ⟨Nat.zero_le _, fun q2 hq2 => ?_⟩⟩
  have hb1 := s15.free hq1
  have nq : q2 ≠ q1 := fun z => by rw [z, upd_same] at hq2; cases hq2
  have hq2' : H15 q2 = none := by rw [← hq2, upd_ne nq]
  have hb2 := s15.free hq2'
  have gE := (Grow.new (X := [d]) (o := .lst [.str b1, .str c1]) s15 hq1)
  have gE2 := gE.trans (Grow.new (X := [d]) (o := .lst []) gE.nh hq2)
  have jE : Ints [d] (upd (upd H15 q1 (.lst [.str b1, .str c1])) q2 (.lst [])) := fun y m => by
    obtain ⟨ns, hy⟩ := j15 y m
    exact ⟨ns, Same.upd hq2 y _ (Same.upd hq1 y _ hy)⟩
  refine ⟨_, d, _, _, [b1, c1], [], 3, rfl, gE2.nh, gE2.offI o15 j15, jE, ⟨q1, _, rfl, SqL.of (by rw [upd_ne nq.symm]; exact upd_same), by show 2 ≤ 100000; decide, strRow_rp _⟩, ⟨q2, _, rfl, SqL.of upd_same, Nat.zero_le _, rfl⟩, by decide, fun wx ex B16 H16 gx j16 hx rx => ?_⟩
  dsimp only [gName]
  obtain ⟨hex1, hex2, hex3⟩ := hx.good
  have s16 := gx.nh
  have o16 := gx.offI (gE2.offI o15 j15) jE
  have e16 := (e15.mono (gE2.bn.trans gx.bn)).add rx
  refine set_sl (σ' := [some (.ref a), some (.ref d), some (.ref p), some w3, some (.int (1 + z)), some w5, some w6, some w13, some w11, some w12, some w14, some wx, none, none, none, none, none, none, none, none]) rfl ?_
  -- first
  refine go_asg (K := K) (X := [d]) (d := (f_law_cell (.cons (.str a1) (.cons (.int (1 + z)) .nil)))) (ev_callX (ev_cons (ev_at 9 e16 rfl rfl) (ev_cons (ev_at 8 e16 rfl rfl) ev_nil)) trivial rfl rfl rfl) s16 o16 j16 e16 fun w17 B17 H17 g17 j17 e17 => ?_
  refine set_sl (σ' := [some (.ref a), some (.ref d), some (.ref p), some w3, some (.int (1 + z)), some w5, some w6, some w13, some w11, some w12, some w14, some wx, some w17, none, none, none, none, none, none, none]) rfl ?_
  have s17 := g17.nh
  have o17 := g17.offI o16 j16
  -- many
  refine go_asg (K := K) (X := [d]) (d := (f_law_cell (.cons (.str a1) (.cons (.int (1 + z + 1)) .nil)))) (ev_callX (ev_cons (ev_at 10 e17 rfl rfl) (ev_cons (ev_add (ev_at 9 e17 rfl rfl) ev_int) ev_nil)) trivial rfl rfl rfl) s17 o17 j17 e17 fun w18 B18 H18 g18 j18 e18 => ?_
  refine set_sl (σ' := [some (.ref a), some (.ref d), some (.ref p), some w3, some (.int (1 + z)), some w5, some w6, some w13, some w11, some w12, some w14, some wx, some w17, some w18, none, none, none, none, none, none]) rfl ?_
  have s18 := g18.nh
  have o18 := g18.offI o17 j17
  -- body, to be written
  refine asg_l0 (K := K) (X := [d]) (ds := D.row [(f_law_retry (.cons (.tup (.cons (.str "same") (.cons (f_law_cell (.cons (.str a1) (.cons (.int (1 + z + 1)) .nil))) (.cons (.tup (.cons (.str "number") (.cons (.int (1 + z)) .nil))) .nil)))) .nil)), (.tup (.cons (.str "put") (.cons (.str a1) (.cons (.tup (.cons (.str "rest") (.cons (.tup (.cons (.str "plus") (.cons (f_law_cell (.cons (.str a1) (.cons (.int (1 + z)) .nil))) (.cons (f_law_cell (.cons (.str a1) (.cons (.int (1 + z + 1)) .nil))) .nil)))) (.cons (.tup (.cons (.str "number") (.cons (.int (1 + z)) .nil))) .nil)))) (.cons ex .nil)))))]) (ev_cons (ev_callX (ev_cons (ev_tupX (ev_cons ev_str (ev_cons (ev_at 0 e18 rfl rfl) (ev_cons (ev_tupX (ev_cons ev_str (ev_cons (ev_at 10 e18 rfl rfl) ev_nil)) rfl (Nat.le_of_ble_eq_true rfl)) ev_nil))) rfl (Nat.le_of_ble_eq_true rfl)) ev_nil) trivial rfl rfl rfl) (ev_cons (ev_tupX (ev_cons ev_str (ev_cons (ev_at 11 e18 rfl rfl) (ev_cons (ev_tupX (ev_cons ev_str (ev_cons (ev_tupX (ev_cons ev_str (ev_cons (ev_at 1 e18 rfl rfl) (ev_cons (ev_at 0 e18 rfl rfl) ev_nil))) rfl (Nat.le_of_ble_eq_true rfl)) (ev_cons (ev_tupX (ev_cons ev_str (ev_cons (ev_at 10 e18 rfl rfl) ev_nil)) rfl (Nat.le_of_ble_eq_true rfl)) ev_nil))) rfl (Nat.le_of_ble_eq_true rfl)) (ev_cons (ev_at 2 e18 rfl rfl) ev_nil)))) rfl (Nat.le_of_ble_eq_true rfl)) ev_nil)) rfl (Nat.le_of_ble_eq_true rfl) s18 o18 j18 e18 fun p19 vs19 B19 H19 s19 o19 j19 e19 r19 hN19 np19 hp19 => ?_
  refine set_sl (σ' := [some (.ref a), some (.ref d), some (.ref p), some w3, some (.int (1 + z)), some w5, some w6, some (.ref p19), some w11, some w12, some w14, some wx, some w17, some w18, none, none, none, none, none, none]) rfl ?_
  refine app_go (K := K) (X := [d]) (d := (f_law_put (.cons (.str a1) (.cons (.int (1 + z + 1)) (.cons (f_law_plus (.cons (f_law_cell (.cons (.str a1) (.cons (.int (1 + z + 1)) .nil))) (.cons (.int 1) .nil))) .nil))))) (ev_callX (ev_cons (ev_at 11 e19 rfl rfl) (ev_cons (ev_add (ev_at 10 e19 rfl rfl) ev_int) (ev_cons (ev_callX (ev_cons (ev_at 0 e19 rfl rfl) (ev_cons ev_int ev_nil)) trivial rfl rfl rfl) ev_nil))) trivial rfl rfl rfl) rfl hp19 (by have q := Rp.row_len (K := K) (by rfl) r19; rw [q]; simp [D.row, D.len]) hN19 np19 s19 o19 j19 e19 r19 fun v20 B20 H20 s20 o20 j20 e20 r20 rv20 hN20 hp20 => ?_
  have np20 := np19
  have r20 := Rp.snoc (ds := [(f_law_retry (.cons (.tup (.cons (.str "same") (.cons (f_law_cell (.cons (.str a1) (.cons (.int (1 + z + 1)) .nil))) (.cons (.tup (.cons (.str "number") (.cons (.int (1 + z)) .nil))) .nil)))) .nil)), (.tup (.cons (.str "put") (.cons (.str a1) (.cons (.tup (.cons (.str "rest") (.cons (.tup (.cons (.str "plus") (.cons (f_law_cell (.cons (.str a1) (.cons (.int (1 + z)) .nil))) (.cons (f_law_cell (.cons (.str a1) (.cons (.int (1 + z + 1)) .nil))) .nil)))) (.cons (.tup (.cons (.str "number") (.cons (.int (1 + z)) .nil))) .nil)))) (.cons ex .nil)))))]) r20 rv20
  obtain ⟨B21, s21, o21, e21⟩ := know_go (X := [d]) (ds := D.row [(f_law_retry (.cons (.tup (.cons (.str "same") (.cons (f_law_cell (.cons (.str a1) (.cons (.int (1 + z + 1)) .nil))) (.cons (.tup (.cons (.str "number") (.cons (.int (1 + z)) .nil))) .nil)))) .nil)), (.tup (.cons (.str "put") (.cons (.str a1) (.cons (.tup (.cons (.str "rest") (.cons (.tup (.cons (.str "plus") (.cons (f_law_cell (.cons (.str a1) (.cons (.int (1 + z)) .nil))) (.cons (f_law_cell (.cons (.str a1) (.cons (.int (1 + z + 1)) .nil))) .nil)))) (.cons (.tup (.cons (.str "number") (.cons (.int (1 + z)) .nil))) .nil)))) (.cons ex .nil))))), (f_law_put (.cons (.str a1) (.cons (.int (1 + z + 1)) (.cons (f_law_plus (.cons (f_law_cell (.cons (.str a1) (.cons (.int (1 + z + 1)) .nil))) (.cons (.int 1) .nil))) .nil))))]) s20 o20 e20 r20 (by have q := Rp.row_len (K := K) (by rfl) r20; rw [q]; simp [D.row, D.len]) hN20 np20 hp20
  have j21 := j20
  -- same
  refine same_go (K := K) (X := [d]) (d := (f_send (.cons (.str a1) (.cons (.int (1 + z)) (.cons ex .nil))))) (ev_callX (ev_cons (ev_at 12 e21 rfl rfl) (ev_cons (ev_at 11 e21 rfl rfl) (ev_cons (ev_at 3 e21 rfl rfl) ev_nil))) ⟨_, _, _, rfl⟩ rfl rfl rfl) (ev_lstX (ev_cons (ev_tupX (ev_cons ev_str (ev_cons ev_non (ev_cons (ev_at 0 e21 rfl rfl) (ev_cons (ev_lstX ev_nil rfl (Nat.le_of_ble_eq_true rfl)) ev_nil)))) rfl (Nat.le_of_ble_eq_true rfl)) ev_nil) rfl (Nat.le_of_ble_eq_true rfl)) rfl ?_ ?_ s21 o21 j21 fun H22 s22 j22 => ?_
  · walk_at "okd"
  · walk_at "depd"
  have e22 := e21
  have o22 := o21
  -- body, to be written
  refine asg_l0 (K := K) (X := [d]) (ds := D.row [(f_law_retry (.cons (.tup (.cons (.str "same") (.cons (f_law_cell (.cons (.str a1) (.cons (.int (1 + z + 1)) .nil))) (.cons (.tup (.cons (.str "number") (.cons (.int 0) .nil))) .nil)))) .nil)), (.tup (.cons (.str "set") (.cons (.str b1) (.cons (.tup (.cons (.str "cell") (.cons (.str a1) (.cons (f_law_cell (.cons (.str a1) (.cons (.int (1 + z)) .nil))) .nil)))) .nil))))]) (ev_cons (ev_callX (ev_cons (ev_tupX (ev_cons ev_str (ev_cons (ev_at 1 e22 rfl rfl) (ev_cons (ev_tupX (ev_cons ev_str (ev_cons ev_int ev_nil)) rfl (Nat.le_of_ble_eq_true rfl)) ev_nil))) rfl (Nat.le_of_ble_eq_true rfl)) ev_nil) trivial rfl rfl rfl) (ev_cons (ev_tupX (ev_cons ev_str (ev_cons (ev_names (i := 1) (ev_at 13 e22 rfl rfl) ev_int rfl) (ev_cons (ev_tupX (ev_cons ev_str (ev_cons (ev_at 12 e22 rfl rfl) (ev_cons (ev_at 2 e22 rfl rfl) ev_nil))) rfl (Nat.le_of_ble_eq_true rfl)) ev_nil))) rfl (Nat.le_of_ble_eq_true rfl)) ev_nil)) rfl (Nat.le_of_ble_eq_true rfl) s22 o22 j22 e22 fun p23 vs23 B23 H23 s23 o23 j23 e23 r23 hN23 np23 hp23 => ?_
  refine set_sl (σ' := [some (.ref a), some (.ref d), some (.ref p), some w3, some (.int (1 + z)), some w5, some w6, some (.ref p23), some w11, some w12, some w14, some wx, some w17, some w18, none, none, none, none, none, none]) rfl ?_
  refine app_go (K := K) (X := [d]) (d := (f_law_put (.cons (.str a1) (.cons (.int (1 + z)) (.cons (.tup (.cons (.str "rest") (.cons (f_law_plus (.cons (f_law_cell (.cons (.str a1) (.cons (.int (1 + z)) .nil))) (.cons (.int 1) .nil))) (.cons (.tup (.cons (.str "number") (.cons (.int (1 + z)) .nil))) .nil)))) .nil))))) (ev_callX (ev_cons (ev_at 12 e23 rfl rfl) (ev_cons (ev_at 11 e23 rfl rfl) (ev_cons (ev_tupX (ev_cons ev_str (ev_cons (ev_callX (ev_cons (ev_at 2 e23 rfl rfl) (ev_cons ev_int ev_nil)) trivial rfl rfl rfl) (ev_cons (ev_tupX (ev_cons ev_str (ev_cons (ev_at 11 e23 rfl rfl) ev_nil)) rfl (Nat.le_of_ble_eq_true rfl)) ev_nil))) rfl (Nat.le_of_ble_eq_true rfl)) ev_nil))) trivial rfl rfl rfl) rfl hp23 (by have q := Rp.row_len (K := K) (by rfl) r23; rw [q]; simp [D.row, D.len]) hN23 np23 s23 o23 j23 e23 r23 fun v24 B24 H24 s24 o24 j24 e24 r24 rv24 hN24 hp24 => ?_
  have np24 := np23
  have r24 := Rp.snoc (ds := [(f_law_retry (.cons (.tup (.cons (.str "same") (.cons (f_law_cell (.cons (.str a1) (.cons (.int (1 + z + 1)) .nil))) (.cons (.tup (.cons (.str "number") (.cons (.int 0) .nil))) .nil)))) .nil)), (.tup (.cons (.str "set") (.cons (.str b1) (.cons (.tup (.cons (.str "cell") (.cons (.str a1) (.cons (f_law_cell (.cons (.str a1) (.cons (.int (1 + z)) .nil))) .nil)))) .nil))))]) r24 rv24
  refine app_go (K := K) (X := [d]) (d := (f_law_put (.cons (.str a1) (.cons (.int (1 + z + 1)) (.cons (.tup (.cons (.str "minus") (.cons (f_law_cell (.cons (.str a1) (.cons (.int (1 + z + 1)) .nil))) (.cons (.tup (.cons (.str "number") (.cons (.int 1) .nil))) .nil)))) .nil))))) (ev_callX (ev_cons (ev_at 12 e24 rfl rfl) (ev_cons (ev_add (ev_at 11 e24 rfl rfl) ev_int) (ev_cons (ev_tupX (ev_cons ev_str (ev_cons (ev_at 1 e24 rfl rfl) (ev_cons (ev_at 10 e24 rfl rfl) ev_nil))) rfl (Nat.le_of_ble_eq_true rfl)) ev_nil))) trivial rfl rfl rfl) rfl hp24 (by have q := Rp.row_len (K := K) (by rfl) r24; rw [q]; simp [D.row, D.len]) hN24 np24 s24 o24 j24 e24 r24 fun v25 B25 H25 s25 o25 j25 e25 r25 rv25 hN25 hp25 => ?_
  have np25 := np24
  have r25 := Rp.snoc (ds := [(f_law_retry (.cons (.tup (.cons (.str "same") (.cons (f_law_cell (.cons (.str a1) (.cons (.int (1 + z + 1)) .nil))) (.cons (.tup (.cons (.str "number") (.cons (.int 0) .nil))) .nil)))) .nil)), (.tup (.cons (.str "set") (.cons (.str b1) (.cons (.tup (.cons (.str "cell") (.cons (.str a1) (.cons (f_law_cell (.cons (.str a1) (.cons (.int (1 + z)) .nil))) .nil)))) .nil)))), (f_law_put (.cons (.str a1) (.cons (.int (1 + z)) (.cons (.tup (.cons (.str "rest") (.cons (f_law_plus (.cons (f_law_cell (.cons (.str a1) (.cons (.int (1 + z)) .nil))) (.cons (.int 1) .nil))) (.cons (.tup (.cons (.str "number") (.cons (.int (1 + z)) .nil))) .nil)))) .nil))))]) r25 rv25
  obtain ⟨B26, s26, o26, e26⟩ := know_go (X := [d]) (ds := D.row [(f_law_retry (.cons (.tup (.cons (.str "same") (.cons (f_law_cell (.cons (.str a1) (.cons (.int (1 + z + 1)) .nil))) (.cons (.tup (.cons (.str "number") (.cons (.int 0) .nil))) .nil)))) .nil)), (.tup (.cons (.str "set") (.cons (.str b1) (.cons (.tup (.cons (.str "cell") (.cons (.str a1) (.cons (f_law_cell (.cons (.str a1) (.cons (.int (1 + z)) .nil))) .nil)))) .nil)))), (f_law_put (.cons (.str a1) (.cons (.int (1 + z)) (.cons (.tup (.cons (.str "rest") (.cons (f_law_plus (.cons (f_law_cell (.cons (.str a1) (.cons (.int (1 + z)) .nil))) (.cons (.int 1) .nil))) (.cons (.tup (.cons (.str "number") (.cons (.int (1 + z)) .nil))) .nil)))) .nil)))), (f_law_put (.cons (.str a1) (.cons (.int (1 + z + 1)) (.cons (.tup (.cons (.str "minus") (.cons (f_law_cell (.cons (.str a1) (.cons (.int (1 + z + 1)) .nil))) (.cons (.tup (.cons (.str "number") (.cons (.int 1) .nil))) .nil)))) .nil))))]) s25 o25 e25 r25 (by have q := Rp.row_len (K := K) (by rfl) r25; rw [q]; simp [D.row, D.len]) hN25 np25 hp25
  have j26 := j25
  -- same
  refine same_go (K := K) (X := [d]) (d := (f_receive (.cons (.str a1) (.cons (.int (1 + z)) (.cons (.str b1) .nil))))) (ev_callX (ev_cons (ev_at 13 e26 rfl rfl) (ev_cons (ev_at 12 e26 rfl rfl) (ev_cons (ev_names (i := 1) (ev_at 14 e26 rfl rfl) ev_int rfl) ev_nil))) ⟨_, _, _, rfl⟩ rfl rfl rfl) (ev_lstX (ev_cons (ev_tupX (ev_cons ev_str (ev_cons ev_non (ev_cons (ev_at 0 e26 rfl rfl) (ev_cons (ev_lstX ev_nil rfl (Nat.le_of_ble_eq_true rfl)) ev_nil)))) rfl (Nat.le_of_ble_eq_true rfl)) ev_nil) rfl (Nat.le_of_ble_eq_true rfl)) rfl ?_ ?_ s26 o26 j26 fun H27 s27 j27 => ?_
  · walk_at "okd"
  · walk_at "depd"
  have e27 := e26
  have o27 := o26
  -- waits
  refine go_asg (K := K) (X := [d]) (d := (.lst (.cons (.tup (.cons (.str "set") (.cons (.str c1) (.cons (.tup (.cons (.str "number") (.cons (.int 1) .nil))) .nil)))) (.cons (f_law_put (.cons (.str a1) (.cons (.int 0) (.cons (.tup (.cons (.str "number") (.cons (.int 1) .nil))) .nil)))) (.cons (f_law_put (.cons (.str a1) (.cons (.int 1) (.cons (.tup (.cons (.str "local") (.cons (.str b1) .nil))) .nil)))) .nil))))) (ev_lstX (ev_cons (ev_tupX (ev_cons ev_str (ev_cons (ev_names (i := 2) (ev_at 14 e27 rfl rfl) ev_int rfl) (ev_cons (ev_at 11 e27 rfl rfl) ev_nil))) rfl (Nat.le_of_ble_eq_true rfl)) (ev_cons (ev_callX (ev_cons (ev_at 13 e27 rfl rfl) (ev_cons ev_int (ev_cons (ev_at 11 e27 rfl rfl) ev_nil))) trivial rfl rfl rfl) (ev_cons (ev_callX (ev_cons (ev_at 13 e27 rfl rfl) (ev_cons ev_int (ev_cons (ev_tupX (ev_cons ev_str (ev_cons (ev_names (i := 1) (ev_at 14 e27 rfl rfl) ev_int rfl) ev_nil)) rfl (Nat.le_of_ble_eq_true rfl)) ev_nil))) trivial rfl rfl rfl) ev_nil))) rfl (Nat.le_of_ble_eq_true rfl)) s27 o27 j27 e27 fun w28 B28 H28 g28 j28 e28 => ?_
  refine set_sl (σ' := [some (.ref a), some (.ref d), some (.ref p), some w3, some (.int (1 + z)), some w5, some w6, some (.ref p23), some w11, some w12, some w14, some wx, some w17, some w18, some w28, none, none, none, none, none]) rfl ?_
  have s28 := g28.nh
  have o28 := g28.offI o27 j27
  -- comes, to be written
  refine asg_l0 (K := K) (X := [d]) (ds := D.row [(.tup (.cons (.str "set") (.cons (.str c1) (.cons (.tup (.cons (.str "number") (.cons (.int 0) .nil))) .nil)))), (f_law_put (.cons (.str a1) (.cons (.int 2) (.cons (.tup (.cons (.str "local") (.cons (.str b1) .nil))) .nil)))), (.tup (.cons (.str "set") (.cons (.str b1) (.cons (f_law_cell (.cons (.str a1) (.cons (.int 1) .nil))) .nil))))]) (ev_cons (ev_tupX (ev_cons ev_str (ev_cons (ev_names (i := 2) (ev_at 15 e28 rfl rfl) ev_int rfl) (ev_cons (ev_tupX (ev_cons ev_str (ev_cons ev_int ev_nil)) rfl (Nat.le_of_ble_eq_true rfl)) ev_nil))) rfl (Nat.le_of_ble_eq_true rfl)) (ev_cons (ev_callX (ev_cons (ev_at 14 e28 rfl rfl) (ev_cons ev_int (ev_cons (ev_tupX (ev_cons ev_str (ev_cons (ev_names (i := 1) (ev_at 15 e28 rfl rfl) ev_int rfl) ev_nil)) rfl (Nat.le_of_ble_eq_true rfl)) ev_nil))) trivial rfl rfl rfl) (ev_cons (ev_tupX (ev_cons ev_str (ev_cons (ev_names (i := 1) (ev_at 15 e28 rfl rfl) ev_int rfl) (ev_cons (ev_callX (ev_cons (ev_at 14 e28 rfl rfl) (ev_cons ev_int ev_nil)) trivial rfl rfl rfl) ev_nil))) rfl (Nat.le_of_ble_eq_true rfl)) ev_nil))) rfl (Nat.le_of_ble_eq_true rfl) s28 o28 j28 e28 fun p29 vs29 B29 H29 s29 o29 j29 e29 r29 hN29 np29 hp29 => ?_
  refine set_sl (σ' := [some (.ref a), some (.ref d), some (.ref p), some w3, some (.int (1 + z)), some w5, some w6, some (.ref p23), some w11, some w12, some w14, some wx, some w17, some w18, some w28, some (.ref p29), none, none, none, none]) rfl ?_
  refine app_go (K := K) (X := [d]) (d := (f_law_put (.cons (.str a1) (.cons (.int 0) (.cons (.tup (.cons (.str "number") (.cons (.int 2) .nil))) .nil))))) (ev_callX (ev_cons (ev_at 14 e29 rfl rfl) (ev_cons ev_int (ev_cons (ev_tupX (ev_cons ev_str (ev_cons ev_int ev_nil)) rfl (Nat.le_of_ble_eq_true rfl)) ev_nil))) trivial rfl rfl rfl) rfl hp29 (by have q := Rp.row_len (K := K) (by rfl) r29; rw [q]; simp [D.row, D.len]) hN29 np29 s29 o29 j29 e29 r29 fun v30 B30 H30 s30 o30 j30 e30 r30 rv30 hN30 hp30 => ?_
  have np30 := np29
  have r30 := Rp.snoc (ds := [(.tup (.cons (.str "set") (.cons (.str c1) (.cons (.tup (.cons (.str "number") (.cons (.int 0) .nil))) .nil)))), (f_law_put (.cons (.str a1) (.cons (.int 2) (.cons (.tup (.cons (.str "local") (.cons (.str b1) .nil))) .nil)))), (.tup (.cons (.str "set") (.cons (.str b1) (.cons (f_law_cell (.cons (.str a1) (.cons (.int 1) .nil))) .nil))))]) r30 rv30
  obtain ⟨B31, s31, o31, e31⟩ := know_go (X := [d]) (ds := D.row [(.tup (.cons (.str "set") (.cons (.str c1) (.cons (.tup (.cons (.str "number") (.cons (.int 0) .nil))) .nil)))), (f_law_put (.cons (.str a1) (.cons (.int 2) (.cons (.tup (.cons (.str "local") (.cons (.str b1) .nil))) .nil)))), (.tup (.cons (.str "set") (.cons (.str b1) (.cons (f_law_cell (.cons (.str a1) (.cons (.int 1) .nil))) .nil)))), (f_law_put (.cons (.str a1) (.cons (.int 0) (.cons (.tup (.cons (.str "number") (.cons (.int 2) .nil))) .nil))))]) s30 o30 e30 r30 (by have q := Rp.row_len (K := K) (by rfl) r30; rw [q]; simp [D.row, D.len]) hN30 np30 hp30
  have j31 := j30
  -- body
  refine go_asg (K := K) (X := [d]) (d := (.lst (.cons (f_law_retry (.cons (.tup (.cons (.str "same") (.cons (f_law_cell (.cons (.str a1) (.cons (.int 0) .nil))) (.cons (.tup (.cons (.str "number") (.cons (.int 2) .nil))) .nil)))) .nil)) (.cons (.tup (.cons (.str "if") (.cons (.tup (.cons (.str "same") (.cons (f_law_cell (.cons (.str a1) (.cons (.int 0) .nil))) (.cons (.tup (.cons (.str "number") (.cons (.int 0) .nil))) .nil)))) (.cons (.lst (.cons (.tup (.cons (.str "set") (.cons (.str c1) (.cons (.tup (.cons (.str "number") (.cons (.int 1) .nil))) .nil)))) (.cons (f_law_put (.cons (.str a1) (.cons (.int 0) (.cons (.tup (.cons (.str "number") (.cons (.int 1) .nil))) .nil)))) (.cons (f_law_put (.cons (.str a1) (.cons (.int 1) (.cons (.tup (.cons (.str "local") (.cons (.str b1) .nil))) .nil)))) .nil)))) (.cons (.lst (.cons (.tup (.cons (.str "set") (.cons (.str c1) (.cons (.tup (.cons (.str "number") (.cons (.int 0) .nil))) .nil)))) (.cons (f_law_put (.cons (.str a1) (.cons (.int 2) (.cons (.tup (.cons (.str "local") (.cons (.str b1) .nil))) .nil)))) (.cons (.tup (.cons (.str "set") (.cons (.str b1) (.cons (f_law_cell (.cons (.str a1) (.cons (.int 1) .nil))) .nil)))) (.cons (f_law_put (.cons (.str a1) (.cons (.int 0) (.cons (.tup (.cons (.str "number") (.cons (.int 2) .nil))) .nil)))) .nil))))) .nil))))) .nil)))) (ev_lstX (ev_cons (ev_callX (ev_cons (ev_tupX (ev_cons ev_str (ev_cons (ev_at 12 e31 rfl rfl) (ev_cons (ev_tupX (ev_cons ev_str (ev_cons ev_int ev_nil)) rfl (Nat.le_of_ble_eq_true rfl)) ev_nil))) rfl (Nat.le_of_ble_eq_true rfl)) ev_nil) trivial rfl rfl rfl) (ev_cons (ev_tupX (ev_cons ev_str (ev_cons (ev_tupX (ev_cons ev_str (ev_cons (ev_at 12 e31 rfl rfl) (ev_cons (ev_tupX (ev_cons ev_str (ev_cons ev_int ev_nil)) rfl (Nat.le_of_ble_eq_true rfl)) ev_nil))) rfl (Nat.le_of_ble_eq_true rfl)) (ev_cons (ev_at 1 e31 rfl rfl) (ev_cons (ev_at 0 e31 rfl rfl) ev_nil)))) rfl (Nat.le_of_ble_eq_true rfl)) ev_nil)) rfl (Nat.le_of_ble_eq_true rfl)) s31 o31 j31 e31 fun w32 B32 H32 g32 j32 e32 => ?_
  refine set_sl (σ' := [some (.ref a), some (.ref d), some (.ref p), some w3, some (.int (1 + z)), some w5, some w6, some w32, some w11, some w12, some w14, some wx, some w17, some w18, some w28, some (.ref p29), none, none, none, none]) rfl ?_
  have s32 := g32.nh
  have o32 := g32.offI o31 j31
  -- ends, to be written
  refine asg_l0 (K := K) (X := [d]) (ds := D.row [(f_law_retry (.cons (.tup (.cons (.str "not") (.cons (.tup (.cons (.str "same") (.cons (f_law_cell (.cons (.str a1) (.cons (.int 0) .nil))) (.cons (.tup (.cons (.str "number") (.cons (.int 2) .nil))) .nil)))) .nil))) .nil)), (.tup (.cons (.str "set") (.cons (.str b1) (.cons (f_law_cell (.cons (.str a1) (.cons (.int 2) .nil))) .nil))))]) (ev_cons (ev_callX (ev_cons (ev_tupX (ev_cons ev_str (ev_cons (ev_tupX (ev_cons ev_str (ev_cons (ev_at 13 e32 rfl rfl) (ev_cons (ev_tupX (ev_cons ev_str (ev_cons ev_int ev_nil)) rfl (Nat.le_of_ble_eq_true rfl)) ev_nil))) rfl (Nat.le_of_ble_eq_true rfl)) ev_nil)) rfl (Nat.le_of_ble_eq_true rfl)) ev_nil) trivial rfl rfl rfl) (ev_cons (ev_tupX (ev_cons ev_str (ev_cons (ev_names (i := 1) (ev_at 17 e32 rfl rfl) ev_int rfl) (ev_cons (ev_callX (ev_cons (ev_at 16 e32 rfl rfl) (ev_cons ev_int ev_nil)) trivial rfl rfl rfl) ev_nil))) rfl (Nat.le_of_ble_eq_true rfl)) ev_nil)) rfl (Nat.le_of_ble_eq_true rfl) s32 o32 j32 e32 fun p33 vs33 B33 H33 s33 o33 j33 e33 r33 hN33 np33 hp33 => ?_
  refine set_sl (σ' := [some (.ref a), some (.ref d), some (.ref p), some w3, some (.int (1 + z)), some w5, some w6, some w32, some w11, some w12, some w14, some wx, some w17, some w18, some w28, some (.ref p29), some (.ref p33), none, none, none]) rfl ?_
  refine app_go (K := K) (X := [d]) (d := (f_law_put (.cons (.str a1) (.cons (.int 0) (.cons (.tup (.cons (.str "number") (.cons (.int 0) .nil))) .nil))))) (ev_callX (ev_cons (ev_at 16 e33 rfl rfl) (ev_cons ev_int (ev_cons (ev_tupX (ev_cons ev_str (ev_cons ev_int ev_nil)) rfl (Nat.le_of_ble_eq_true rfl)) ev_nil))) trivial rfl rfl rfl) rfl hp33 (by have q := Rp.row_len (K := K) (by rfl) r33; rw [q]; simp [D.row, D.len]) hN33 np33 s33 o33 j33 e33 r33 fun v34 B34 H34 s34 o34 j34 e34 r34 rv34 hN34 hp34 => ?_
  have np34 := np33
  have r34 := Rp.snoc (ds := [(f_law_retry (.cons (.tup (.cons (.str "not") (.cons (.tup (.cons (.str "same") (.cons (f_law_cell (.cons (.str a1) (.cons (.int 0) .nil))) (.cons (.tup (.cons (.str "number") (.cons (.int 2) .nil))) .nil)))) .nil))) .nil)), (.tup (.cons (.str "set") (.cons (.str b1) (.cons (f_law_cell (.cons (.str a1) (.cons (.int 2) .nil))) .nil))))]) r34 rv34
  obtain ⟨B35, s35, o35, e35⟩ := know_go (X := [d]) (ds := D.row [(f_law_retry (.cons (.tup (.cons (.str "not") (.cons (.tup (.cons (.str "same") (.cons (f_law_cell (.cons (.str a1) (.cons (.int 0) .nil))) (.cons (.tup (.cons (.str "number") (.cons (.int 2) .nil))) .nil)))) .nil))) .nil)), (.tup (.cons (.str "set") (.cons (.str b1) (.cons (f_law_cell (.cons (.str a1) (.cons (.int 2) .nil))) .nil)))), (f_law_put (.cons (.str a1) (.cons (.int 0) (.cons (.tup (.cons (.str "number") (.cons (.int 0) .nil))) .nil))))]) s34 o34 e34 r34 (by have q := Rp.row_len (K := K) (by rfl) r34; rw [q]; simp [D.row, D.len]) hN34 np34 hp34
  have j35 := j34
  -- due
  refine go_asg (K := K) (X := [d]) (d := (.lst (.cons (.tup (.cons (.str "block") (.cons .non (.cons (.lst (.cons (f_law_retry (.cons (.tup (.cons (.str "same") (.cons (f_law_cell (.cons (.str a1) (.cons (.int 0) .nil))) (.cons (.tup (.cons (.str "number") (.cons (.int 2) .nil))) .nil)))) .nil)) (.cons (.tup (.cons (.str "if") (.cons (.tup (.cons (.str "same") (.cons (f_law_cell (.cons (.str a1) (.cons (.int 0) .nil))) (.cons (.tup (.cons (.str "number") (.cons (.int 0) .nil))) .nil)))) (.cons (.lst (.cons (.tup (.cons (.str "set") (.cons (.str c1) (.cons (.tup (.cons (.str "number") (.cons (.int 1) .nil))) .nil)))) (.cons (f_law_put (.cons (.str a1) (.cons (.int 0) (.cons (.tup (.cons (.str "number") (.cons (.int 1) .nil))) .nil)))) (.cons (f_law_put (.cons (.str a1) (.cons (.int 1) (.cons (.tup (.cons (.str "local") (.cons (.str b1) .nil))) .nil)))) .nil)))) (.cons (.lst (.cons (.tup (.cons (.str "set") (.cons (.str c1) (.cons (.tup (.cons (.str "number") (.cons (.int 0) .nil))) .nil)))) (.cons (f_law_put (.cons (.str a1) (.cons (.int 2) (.cons (.tup (.cons (.str "local") (.cons (.str b1) .nil))) .nil)))) (.cons (.tup (.cons (.str "set") (.cons (.str b1) (.cons (f_law_cell (.cons (.str a1) (.cons (.int 1) .nil))) .nil)))) (.cons (f_law_put (.cons (.str a1) (.cons (.int 0) (.cons (.tup (.cons (.str "number") (.cons (.int 2) .nil))) .nil)))) .nil))))) .nil))))) .nil))) (.cons (.lst .nil) .nil))))) (.cons (.tup (.cons (.str "if") (.cons (.tup (.cons (.str "local") (.cons (.str c1) .nil))) (.cons (.lst (.cons (.tup (.cons (.str "block") (.cons .non (.cons (.lst (.cons (f_law_retry (.cons (.tup (.cons (.str "not") (.cons (.tup (.cons (.str "same") (.cons (f_law_cell (.cons (.str a1) (.cons (.int 0) .nil))) (.cons (.tup (.cons (.str "number") (.cons (.int 2) .nil))) .nil)))) .nil))) .nil)) (.cons (.tup (.cons (.str "set") (.cons (.str b1) (.cons (f_law_cell (.cons (.str a1) (.cons (.int 2) .nil))) .nil)))) (.cons (f_law_put (.cons (.str a1) (.cons (.int 0) (.cons (.tup (.cons (.str "number") (.cons (.int 0) .nil))) .nil)))) .nil)))) (.cons (.lst .nil) .nil))))) .nil)) (.cons (.lst .nil) .nil))))) .nil)))) (ev_lstX (ev_cons (ev_tupX (ev_cons ev_str (ev_cons ev_non (ev_cons (ev_at 1 e35 rfl rfl) (ev_cons (ev_lstX ev_nil rfl (Nat.le_of_ble_eq_true rfl)) ev_nil)))) rfl (Nat.le_of_ble_eq_true rfl)) (ev_cons (ev_tupX (ev_cons ev_str (ev_cons (ev_tupX (ev_cons ev_str (ev_cons (ev_names (i := 2) (ev_at 18 e35 rfl rfl) ev_int rfl) ev_nil)) rfl (Nat.le_of_ble_eq_true rfl)) (ev_cons (ev_lstX (ev_cons (ev_tupX (ev_cons ev_str (ev_cons ev_non (ev_cons (ev_at 0 e35 rfl rfl) (ev_cons (ev_lstX ev_nil rfl (Nat.le_of_ble_eq_true rfl)) ev_nil)))) rfl (Nat.le_of_ble_eq_true rfl)) ev_nil) rfl (Nat.le_of_ble_eq_true rfl)) (ev_cons (ev_lstX ev_nil rfl (Nat.le_of_ble_eq_true rfl)) ev_nil)))) rfl (Nat.le_of_ble_eq_true rfl)) ev_nil)) rfl (Nat.le_of_ble_eq_true rfl)) s35 o35 j35 e35 fun w36 B36 H36 g36 j36 e36 => ?_
  refine set_sl (σ' := [some (.ref a), some (.ref d), some (.ref p), some w3, some (.int (1 + z)), some w5, some w6, some w32, some w11, some w12, some w14, some wx, some w17, some w18, some w28, some (.ref p29), some (.ref p33), some w36, none, none]) rfl ?_
  have s36 := g36.nh
  have o36 := g36.offI o35 j35
  -- same or same
  refine same_or (K := K) (X := [d]) (d := (f_swap (.cons (.str a1) (.cons (.str b1) (.cons (.str c1) .nil))))) (d2 := (f_cnt f_semaphore (.cons (.str a1) (.cons (.int 0) .nil)))) (ev_callX (ev_cons (ev_at 18 e36 rfl rfl) (ev_cons (ev_names (i := 1) (ev_at 19 e36 rfl rfl) ev_int rfl) (ev_cons (ev_names (i := 2) (ev_at 19 e36 rfl rfl) ev_int rfl) ev_nil))) trivial rfl rfl rfl) (ev_at 0 e36 rfl rfl) rfl ?_ ?_ (ev_callX (ev_cons (ev_at 18 e36 rfl rfl) (ev_cons ev_int ev_nil)) ⟨_, _, rfl, by omega, by omega⟩ rfl rfl rfl) (ev_tupX (ev_cons (ev_at 18 e36 rfl rfl) (ev_cons ev_int (ev_cons ev_int ev_nil))) rfl (Nat.le_of_ble_eq_true rfl)) rfl ?_ ?_ s36 o36 j36 fun H37 s37 j37 => ?_
  · walk_at "okd"
  · walk_at "depd"
  · walk_at "okd"
  · walk_at "depd"
  have e37 := e36
  have o37 := o36
  have ename := e37.at_ (v := w3) (d := .str a1) 18 rfl
  refine ⟨3, rfl, by decide, by decide, for_range (n := 3) (fun i σ H' => σ[1]? = some (some (.ref d)) ∧ σ[3]? = some (some w3) ∧ 20 ≤ σ.length ∧ Same B36 H' ∧ Ints [d] H') ⟨rfl, rfl, Nat.le_of_ble_eq_true rfl, s37, j37⟩ ?_ ?_⟩
  · rintro i σ H0 hi ⟨t1, t3, tl, sL, jL⟩
    have kk : (σ.set 18 (some (V.int (0 + (i : Int)))))[18]? = some (some (V.int (0 + (i : Int)))) := List.getElem?_set_self (by omega)
    refine ⟨_, rfl, by show 3 ≤ sizeLine; decide, fun q hq => ⟨_, kk, q, _, _, .int (if i = 0 then -1 else 0), rfl, rfl, SqL.of upd_same, ?_, ?_⟩⟩
    · have ci : i = 0 ∨ i = 1 ∨ i = 2 := by omega
      rcases ci with rfl | rfl | rfl <;> rfl
    have g0 := Grow.new0 (X := [d]) (o := .lst [V.int (-1), V.int 0, V.int 0]) sL hq
    have jq : Ints [d] (upd H0 q (.lst [V.int (-1), V.int 0, V.int 0])) := fun y m => by
      obtain ⟨ns, hy⟩ := jL y m
      exact ⟨ns, Same.upd hq y _ hy⟩
    have d1 : (σ.set 18 (some (V.int (0 + (i : Int)))))[1]? = some (some (.ref d)) := by rw [List.getElem?_set_ne (by decide)]; exact t1
    refine take_call (b := 3) d1 (fun _ h => h) g0.nh o37 jq (by decide) fun z1 Ha za zb ga ja _ => ?_
    refine ⟨_, _, rfl, rfl, ?_⟩
    dsimp only [gName]
    generalize hlow : ((if i = 0 then (-1 : Int) else 0) - z1) = low
    have hl2 : low < 0 ∧ i = 0 ∨ low < 1 ∧ i = 1 ∨ low < 1 ∧ i = 2 := by
      have ci : i = 0 ∨ i = 1 ∨ i = 2 := by omega
      rcases ci with rfl | rfl | rfl
      · left; simp at hlow; omega
      · right; left; simp at hlow; omega
      · right; right; simp at hlow; omega
    have b1' : ∀ x : Option V, ((σ.set 18 (some (V.int (0 + (i : Int))))).set 19 x)[1]? = some (some (.ref d)) := fun x => by rw [List.getElem?_set_ne (by decide)]; exact d1
    have b3' : ∀ x : Option V, ((σ.set 18 (some (V.int (0 + (i : Int))))).set 19 x)[3]? = some (some w3) := fun x => by rw [List.getElem?_set_ne (by decide), List.getElem?_set_ne (by decide)]; exact t3
    have bk : ∀ x : Option V, ((σ.set 18 (some (V.int (0 + (i : Int))))).set 19 x)[18]? = some (some (V.int (0 + (i : Int)))) := fun x => by rw [List.getElem?_set_ne (by decide)]; exact kk
    have bl : ∀ x : Option V, ((σ.set 18 (some (V.int (0 + (i : Int))))).set 19 x)[19]? = some x := fun x => List.getElem?_set_self (by rw [List.length_set]; omega)
    refine ⟨_, bk _, _, b3' _, _, bl _, B36, _, .str a1, w3, low, rfl, ga.nh, ename, ?_, fun Hb sb => ⟨true, rfl, iteF ?_⟩⟩
    · rcases hl2 with ⟨h1, rfl⟩ | ⟨h1, rfl⟩ | ⟨h1, rfl⟩
      · exact .inl ⟨rfl, .inl h1⟩
      · exact .inr (.inl ⟨rfl, .inl h1⟩)
      · exact .inr (.inr ⟨rfl, .inl h1⟩)
    have sB := ga.nh.trans sb
    have jB : Ints [d] Hb := fun y m => by
      obtain ⟨ns, hy⟩ := ja y m
      exact ⟨ns, sb y _ hy⟩
    refine ⟨_, bk _, _, b3' _, by show 3 ≤ sizeLine; decide, fun q2 hq2 => ⟨_, bk _, q2, _, _, .int (if i = 0 then 1001 else if i = 1 then 7 else 11), rfl, rfl, SqL.of upd_same, ?_, ?_⟩⟩
    · have ci : i = 0 ∨ i = 1 ∨ i = 2 := by omega
      rcases ci with rfl | rfl | rfl <;> rfl
    have g1 := Grow.new0 (X := [d]) (o := .lst [V.int 1001, V.int 7, V.int 11]) sB hq2
    have jq2 : Ints [d] (upd Hb q2 (.lst [V.int 1001, V.int 7, V.int 11])) := fun y m => by
      obtain ⟨ns, hy⟩ := jB y m
      exact ⟨ns, Same.upd hq2 y _ hy⟩
    refine take_call (b := 3) (b1' _) (fun _ h => h) g1.nh o37 jq2 (by decide) fun z2 Hc zc zd gc jc _ => ?_
    refine ⟨_, _, rfl, rfl, B36, _, .str a1, w3, _, rfl, gc.nh, ename, ?_, fun Hd sd => ⟨true, rfl, iteF ?_⟩⟩
    · have ci : i = 0 ∨ i = 1 ∨ i = 2 := by omega
      rcases ci with rfl | rfl | rfl
      · exact .inl ⟨rfl, .inr (by simp; omega)⟩
      · exact .inr (.inl ⟨rfl, .inr (by simp; omega)⟩)
      · exact .inr (.inr ⟨rfl, .inr (by simp; omega)⟩)
    · refine ⟨b1' _, b3' _, by rw [List.length_set, List.length_set]; exact tl, gc.nh.trans sd, fun y m => ?_⟩
      obtain ⟨ns, hy⟩ := jc y m
      exact ⟨ns, sd y _ hy⟩
  · rintro σ H0 ⟨t1, t3, tl, sL, jL⟩
    have eL : Env K B36 [(w3, .str a1)] := Env.nil.add ename
    have hL : σ[3]? = some (some w3) := t3
    refine same_ret (K := K) (X := [d]) (d := (.lst (.cons (f_cnt f_semaphore (.cons (.str a1) (.cons (.int 1000) .nil))) (.cons (f_cnt f_barrier (.cons (.str a1) (.cons (.int 6) .nil))) (.cons (f_cnt f_channel (.cons (.str a1) (.cons (.int 10) .nil))) .nil))))) (ev_lstX (ev_cons (ev_callX (ev_cons (ev_at 0 eL hL rfl) (ev_cons ev_int ev_nil)) ⟨_, _, rfl, by omega, by omega⟩ rfl rfl rfl) (ev_cons (ev_callX (ev_cons (ev_at 0 eL hL rfl) (ev_cons ev_int ev_nil)) ⟨_, _, rfl, by omega, by omega⟩ rfl rfl rfl) (ev_cons (ev_callX (ev_cons (ev_at 0 eL hL rfl) (ev_cons ev_int ev_nil)) ⟨_, _, rfl, by omega, by omega⟩ rfl rfl rfl) ev_nil))) rfl (Nat.le_of_ble_eq_true rfl)) (ev_lstX (ev_cons (ev_tupX (ev_cons (ev_at 0 eL hL rfl) (ev_cons ev_int (ev_cons ev_int ev_nil))) rfl (Nat.le_of_ble_eq_true rfl)) (ev_cons (ev_tupX (ev_cons (ev_at 0 eL hL rfl) (ev_cons ev_int (ev_cons ev_int ev_nil))) rfl (Nat.le_of_ble_eq_true rfl)) (ev_cons (ev_tupX (ev_cons (ev_at 0 eL hL rfl) (ev_cons ev_int (ev_cons ev_int ev_nil))) rfl (Nat.le_of_ble_eq_true rfl)) ev_nil))) rfl (Nat.le_of_ble_eq_true rfl)) rfl ?_ ?_ sL o37 jL k
    · walk_at "okd"
    · walk_at "depd"
end
end K07

namespace K07
open PySem L2 YF
theorem all_mk {l : PySem.W.OpenLaw} {w : World} {K : PySem.W.Frag} {h : Heap} {mg : Str → Option Value} {fa : Addr} (X : K.In h) (G : h.Ns mainGlobals mg) (hfa : mg "law" = some (.ref fa))
    {f0 : Addr} {oc0 kV0 dc0 pm0 cd0 ct0 : Value} {od0 an0 : Option Addr} {sl0 : Array (Option Value)}
    {f1 : Addr} {oc1 kV1 dc1 pm1 cd1 ct1 : Value} {od1 an1 : Option Addr} {sl1 : Array (Option Value)}
    {f2 : Addr} {oc2 kV2 dc2 pm2 cd2 ct2 : Value} {od2 an2 : Option Addr} {sl2 : Array (Option Value)}
    {f3 : Addr} {oc3 kV3 dc3 pm3 cd3 ct3 : Value} {od3 an3 : Option Addr} {sl3 : Array (Option Value)}
    {f4 : Addr} {oc4 kV4 dc4 pm4 cd4 ct4 : Value} {od4 an4 : Option Addr} {sl4 : Array (Option Value)}
    {f5 : Addr} {oc5 kV5 dc5 pm5 cd5 ct5 : Value} {od5 an5 : Option Addr} {sl5 : Array (Option Value)}
    {f6 : Addr} {oc6 kV6 dc6 pm6 cd6 ct6 : Value} {od6 an6 : Option Addr} {sl6 : Array (Option Value)}
    {f7 : Addr} {oc7 kV7 dc7 pm7 cd7 ct7 : Value} {od7 an7 : Option Addr} {sl7 : Array (Option Value)}
    {f8 : Addr} {oc8 kV8 dc8 pm8 cd8 ct8 : Value} {od8 an8 : Option Addr} {sl8 : Array (Option Value)}
    {f9 : Addr} {oc9 kV9 dc9 pm9 cd9 ct9 : Value} {od9 an9 : Option Addr} {sl9 : Array (Option Value)}
    {f10 : Addr} {oc10 kV10 dc10 pm10 cd10 ct10 : Value} {od10 an10 : Option Addr} {sl10 : Array (Option Value)}
    {f11 : Addr} {oc11 kV11 dc11 pm11 cd11 ct11 : Value} {od11 an11 : Option Addr} {sl11 : Array (Option Value)}
    {f12 : Addr} {oc12 kV12 dc12 pm12 cd12 ct12 : Value} {od12 an12 : Option Addr} {sl12 : Array (Option Value)}
    {f13 : Addr} {oc13 kV13 dc13 pm13 cd13 ct13 : Value} {od13 an13 : Option Addr} {sl13 : Array (Option Value)}
    {f14 : Addr} {oc14 kV14 dc14 pm14 cd14 ct14 : Value} {od14 an14 : Option Addr} {sl14 : Array (Option Value)}
    {f15 : Addr} {oc15 kV15 dc15 pm15 cd15 ct15 : Value} {od15 an15 : Option Addr} {sl15 : Array (Option Value)}
    {f16 : Addr} {oc16 kV16 dc16 pm16 cd16 ct16 : Value} {od16 an16 : Option Addr} {sl16 : Array (Option Value)}
    {f17 : Addr} {oc17 kV17 dc17 pm17 cd17 ct17 : Value} {od17 an17 : Option Addr} {sl17 : Array (Option Value)}
    {f18 : Addr} {oc18 kV18 dc18 pm18 cd18 ct18 : Value} {od18 an18 : Option Addr} {sl18 : Array (Option Value)}
    {f19 : Addr} {oc19 kV19 dc19 pm19 cd19 ct19 : Value} {od19 an19 : Option Addr} {sl19 : Array (Option Value)}
    {f20 : Addr} {oc20 kV20 dc20 pm20 cd20 ct20 : Value} {od20 an20 : Option Addr} {sl20 : Array (Option Value)}
    {f21 : Addr} {oc21 kV21 dc21 pm21 cd21 ct21 : Value} {od21 an21 : Option Addr} {sl21 : Array (Option Value)}
    {f22 : Addr} {oc22 kV22 dc22 pm22 cd22 ct22 : Value} {od22 an22 : Option Addr} {sl22 : Array (Option Value)}
    {f23 : Addr} {oc23 kV23 dc23 pm23 cd23 ct23 : Value} {od23 an23 : Option Addr} {sl23 : Array (Option Value)}
    {f24 : Addr} {oc24 kV24 dc24 pm24 cd24 ct24 : Value} {od24 an24 : Option Addr} {sl24 : Array (Option Value)}
    {f25 : Addr} {oc25 kV25 dc25 pm25 cd25 ct25 : Value} {od25 an25 : Option Addr} {sl25 : Array (Option Value)}
    {q_ZERO : Addr} {tk_ZERO0 tk_ZERO1 : Tok} {n_ZERO : Nat} {dd_ZERO : Option Addr} {sl_ZERO : Array (Option Value)}
    {q_ONE : Addr} {tk_ONE0 tk_ONE1 : Tok} {n_ONE : Nat} {dd_ONE : Option Addr} {sl_ONE : Array (Option Value)}
    {q_TWO : Addr} {tk_TWO0 tk_TWO1 : Tok} {n_TWO : Nat} {dd_TWO : Option Addr} {sl_TWO : Array (Option Value)}
    {C_InvalidCount : Addr}
    (a0 : PySem.W.nsIn K mainGlobals "semaphore" = some (some (.ref f0))) (l0 : K.lookup f0 = some ⟨oc0, od0, .func (PySem.W.fnOf "semaphore" "semaphore" (defArgs s_semaphore) (defBody s_semaphore) (defScope s_semaphore) .none kV0 dc0 pm0 an0 cd0 ct0), sl0⟩) (c0 : PySem.W.codeIn K cd0 "semaphore" = true) (k0 : PySem.W.keepIn K (.ref f0) = true)
    (a1 : PySem.W.nsIn K mainGlobals "barrier" = some (some (.ref f1))) (l1 : K.lookup f1 = some ⟨oc1, od1, .func (PySem.W.fnOf "barrier" "barrier" (defArgs s_barrier) (defBody s_barrier) (defScope s_barrier) .none kV1 dc1 pm1 an1 cd1 ct1), sl1⟩) (c1 : PySem.W.codeIn K cd1 "barrier" = true) (k1 : PySem.W.keepIn K (.ref f1) = true)
    (a2 : PySem.W.nsIn K mainGlobals "channel" = some (some (.ref f2))) (l2 : K.lookup f2 = some ⟨oc2, od2, .func (PySem.W.fnOf "channel" "channel" (defArgs s_channel) (defBody s_channel) (defScope s_channel) .none kV2 dc2 pm2 an2 cd2 ct2), sl2⟩) (c2 : PySem.W.codeIn K cd2 "channel" = true) (k2 : PySem.W.keepIn K (.ref f2) = true)
    (a3 : PySem.W.nsIn K mainGlobals "exchange" = some (some (.ref f3))) (l3 : K.lookup f3 = some ⟨oc3, od3, .func (PySem.W.fnOf "exchange" "exchange" (defArgs s_exchange) (defBody s_exchange) (defScope s_exchange) .none kV3 dc3 pm3 an3 cd3 ct3), sl3⟩) (c3 : PySem.W.codeIn K cd3 "exchange" = true) (k3 : PySem.W.keepIn K (.ref f3) = true)
    (a4 : PySem.W.nsIn K mainGlobals "take" = some (some (.ref f4))) (l4 : K.lookup f4 = some ⟨oc4, od4, .func (PySem.W.fnOf "take" "take" (defArgs s_take) (defBody s_take) (defScope s_take) .none kV4 dc4 pm4 an4 cd4 ct4), sl4⟩) (c4 : PySem.W.codeIn K cd4 "take" = true) (k4 : PySem.W.keepIn K (.ref f4) = true)
    (a5 : PySem.W.nsIn K mainGlobals "give" = some (some (.ref f5))) (l5 : K.lookup f5 = some ⟨oc5, od5, .func (PySem.W.fnOf "give" "give" (defArgs s_give) (defBody s_give) (defScope s_give) .none kV5 dc5 pm5 an5 cd5 ct5), sl5⟩) (c5 : PySem.W.codeIn K cd5 "give" = true) (k5 : PySem.W.keepIn K (.ref f5) = true)
    (a6 : PySem.W.nsIn K mainGlobals "meet" = some (some (.ref f6))) (l6 : K.lookup f6 = some ⟨oc6, od6, .func (PySem.W.fnOf "meet" "meet" (defArgs s_meet) (defBody s_meet) (defScope s_meet) .none kV6 dc6 pm6 an6 cd6 ct6), sl6⟩) (c6 : PySem.W.codeIn K cd6 "meet" = true) (k6 : PySem.W.keepIn K (.ref f6) = true)
    (a7 : PySem.W.nsIn K mainGlobals "send" = some (some (.ref f7))) (l7 : K.lookup f7 = some ⟨oc7, od7, .func (PySem.W.fnOf "send" "send" (defArgs s_send) (defBody s_send) (defScope s_send) .none kV7 dc7 pm7 an7 cd7 ct7), sl7⟩) (c7 : PySem.W.codeIn K cd7 "send" = true) (k7 : PySem.W.keepIn K (.ref f7) = true)
    (a8 : PySem.W.nsIn K mainGlobals "receive" = some (some (.ref f8))) (l8 : K.lookup f8 = some ⟨oc8, od8, .func (PySem.W.fnOf "receive" "receive" (defArgs s_receive) (defBody s_receive) (defScope s_receive) .none kV8 dc8 pm8 an8 cd8 ct8), sl8⟩) (c8 : PySem.W.codeIn K cd8 "receive" = true) (k8 : PySem.W.keepIn K (.ref f8) = true)
    (a9 : PySem.W.nsIn K mainGlobals "swap" = some (some (.ref f9))) (l9 : K.lookup f9 = some ⟨oc9, od9, .func (PySem.W.fnOf "swap" "swap" (defArgs s_swap) (defBody s_swap) (defScope s_swap) .none kV9 dc9 pm9 an9 cd9 ct9), sl9⟩) (c9 : PySem.W.codeIn K cd9 "swap" = true) (k9 : PySem.W.keepIn K (.ref f9) = true)
    (a10 : PySem.W.nsIn K mainGlobals "_block" = some (some (.ref f10))) (l10 : K.lookup f10 = some ⟨oc10, od10, .func (PySem.W.fnOf "_block" "_block" (defArgs s_block) (defBody s_block) (defScope s_block) .none kV10 dc10 pm10 an10 cd10 ct10), sl10⟩) (c10 : PySem.W.codeIn K cd10 "_block" = true) (k10 : PySem.W.keepIn K (.ref f10) = true)
    (a11 : PySem.W.nsIn K mainGlobals "_retry_if" = some (some (.ref f11))) (l11 : K.lookup f11 = some ⟨oc11, od11, .func (PySem.W.fnOf "_retry_if" "_retry_if" (defArgs s_retry_if) (defBody s_retry_if) (defScope s_retry_if) .none kV11 dc11 pm11 an11 cd11 ct11), sl11⟩) (c11 : PySem.W.codeIn K cd11 "_retry_if" = true) (k11 : PySem.W.keepIn K (.ref f11) = true)
    (a12 : PySem.W.nsIn K mainGlobals "_one_more" = some (some (.ref f12))) (l12 : K.lookup f12 = some ⟨oc12, od12, .func (PySem.W.fnOf "_one_more" "_one_more" (defArgs s_one_more) (defBody s_one_more) (defScope s_one_more) .none kV12 dc12 pm12 an12 cd12 ct12), sl12⟩) (c12 : PySem.W.codeIn K cd12 "_one_more" = true) (k12 : PySem.W.keepIn K (.ref f12) = true)
    (a13 : PySem.W.nsIn K mainGlobals "_law_draws" = some (some (.ref f13))) (l13 : K.lookup f13 = some ⟨oc13, od13, .func (PySem.W.fnOf "_law_draws" "_law_draws" (defArgs s_law_draws) (defBody s_law_draws) (defScope s_law_draws) .none kV13 dc13 pm13 an13 cd13 ct13), sl13⟩) (c13 : PySem.W.codeIn K cd13 "_law_draws" = true) (k13 : PySem.W.keepIn K (.ref f13) = true)
    (a14 : PySem.W.nsIn K mainGlobals "_law_take" = some (some (.ref f14))) (l14 : K.lookup f14 = some ⟨oc14, od14, .func (PySem.W.fnOf "_law_take" "_law_take" (defArgs s_law_take) (defBody s_law_take) (defScope s_law_take) .none kV14 dc14 pm14 an14 cd14 ct14), sl14⟩) (c14 : PySem.W.codeIn K cd14 "_law_take" = true) (k14 : PySem.W.keepIn K (.ref f14) = true)
    (a15 : PySem.W.nsIn K mainGlobals "_law_same" = some (some (.ref f15))) (l15 : K.lookup f15 = some ⟨oc15, od15, .func (PySem.W.fnOf "_law_same" "_law_same" (defArgs s_law_same) (defBody s_law_same) (defScope s_law_same) .none kV15 dc15 pm15 an15 cd15 ct15), sl15⟩) (c15 : PySem.W.codeIn K cd15 "_law_same" = true) (k15 : PySem.W.keepIn K (.ref f15) = true)
    (a16 : PySem.W.nsIn K mainGlobals "_law_keys" = some (some (.ref f16))) (l16 : K.lookup f16 = some ⟨oc16, od16, .func (PySem.W.fnOf "_law_keys" "_law_keys" (defArgs s_law_keys) (defBody s_law_keys) (defScope s_law_keys) .none kV16 dc16 pm16 an16 cd16 ct16), sl16⟩) (c16 : PySem.W.codeIn K cd16 "_law_keys" = true) (k16 : PySem.W.keepIn K (.ref f16) = true)
    (a17 : PySem.W.nsIn K mainGlobals "_law_names" = some (some (.ref f17))) (l17 : K.lookup f17 = some ⟨oc17, od17, .func (PySem.W.fnOf "_law_names" "_law_names" (defArgs s_law_names) (defBody s_law_names) (defScope s_law_names) .none kV17 dc17 pm17 an17 cd17 ct17), sl17⟩) (c17 : PySem.W.codeIn K cd17 "_law_names" = true) (k17 : PySem.W.keepIn K (.ref f17) = true)
    (a18 : PySem.W.nsIn K mainGlobals "_law_number" = some (some (.ref f18))) (l18 : K.lookup f18 = some ⟨oc18, od18, .func (PySem.W.fnOf "_law_number" "_law_number" (defArgs s_law_number) (defBody s_law_number) (defScope s_law_number) .none kV18 dc18 pm18 an18 cd18 ct18), sl18⟩) (c18 : PySem.W.codeIn K cd18 "_law_number" = true) (k18 : PySem.W.keepIn K (.ref f18) = true)
    (a19 : PySem.W.nsIn K mainGlobals "_law_exp" = some (some (.ref f19))) (l19 : K.lookup f19 = some ⟨oc19, od19, .func (PySem.W.fnOf "_law_exp" "_law_exp" (defArgs s_law_exp) (defBody s_law_exp) (defScope s_law_exp) .none kV19 dc19 pm19 an19 cd19 ct19), sl19⟩) (c19 : PySem.W.codeIn K cd19 "_law_exp" = true) (k19 : PySem.W.keepIn K (.ref f19) = true)
    (a20 : PySem.W.nsIn K mainGlobals "_law_cell" = some (some (.ref f20))) (l20 : K.lookup f20 = some ⟨oc20, od20, .func (PySem.W.fnOf "_law_cell" "_law_cell" (defArgs s_law_cell) (defBody s_law_cell) (defScope s_law_cell) .none kV20 dc20 pm20 an20 cd20 ct20), sl20⟩) (c20 : PySem.W.codeIn K cd20 "_law_cell" = true) (k20 : PySem.W.keepIn K (.ref f20) = true)
    (a21 : PySem.W.nsIn K mainGlobals "_law_put" = some (some (.ref f21))) (l21 : K.lookup f21 = some ⟨oc21, od21, .func (PySem.W.fnOf "_law_put" "_law_put" (defArgs s_law_put) (defBody s_law_put) (defScope s_law_put) .none kV21 dc21 pm21 an21 cd21 ct21), sl21⟩) (c21 : PySem.W.codeIn K cd21 "_law_put" = true) (k21 : PySem.W.keepIn K (.ref f21) = true)
    (a22 : PySem.W.nsIn K mainGlobals "_law_retry" = some (some (.ref f22))) (l22 : K.lookup f22 = some ⟨oc22, od22, .func (PySem.W.fnOf "_law_retry" "_law_retry" (defArgs s_law_retry) (defBody s_law_retry) (defScope s_law_retry) .none kV22 dc22 pm22 an22 cd22 ct22), sl22⟩) (c22 : PySem.W.codeIn K cd22 "_law_retry" = true) (k22 : PySem.W.keepIn K (.ref f22) = true)
    (a23 : PySem.W.nsIn K mainGlobals "_law_plus" = some (some (.ref f23))) (l23 : K.lookup f23 = some ⟨oc23, od23, .func (PySem.W.fnOf "_law_plus" "_law_plus" (defArgs s_law_plus) (defBody s_law_plus) (defScope s_law_plus) .none kV23 dc23 pm23 an23 cd23 ct23), sl23⟩) (c23 : PySem.W.codeIn K cd23 "_law_plus" = true) (k23 : PySem.W.keepIn K (.ref f23) = true)
    (a24 : PySem.W.nsIn K mainGlobals "_law_refused" = some (some (.ref f24))) (l24 : K.lookup f24 = some ⟨oc24, od24, .func (PySem.W.fnOf "_law_refused" "_law_refused" (defArgs s_law_refused) (defBody s_law_refused) (defScope s_law_refused) .none kV24 dc24 pm24 an24 cd24 ct24), sl24⟩) (c24 : PySem.W.codeIn K cd24 "_law_refused" = true) (k24 : PySem.W.keepIn K (.ref f24) = true)
    (a25 : PySem.W.nsIn K mainGlobals "law" = some (some (.ref f25))) (l25 : K.lookup f25 = some ⟨oc25, od25, .func (PySem.W.fnOf "law" "law" (defArgs s_law) (defBody s_law) (defScope s_law) .none kV25 dc25 pm25 an25 cd25 ct25), sl25⟩) (c25 : PySem.W.codeIn K cd25 "law" = true) (k25 : PySem.W.keepIn K (.ref f25) = true)
    (z_len : PySem.W.nsIn K mainGlobals "len" = some none)
    (z_abs : PySem.W.nsIn K mainGlobals "abs" = some none)
    (z_int : PySem.W.nsIn K mainGlobals "int" = some none)
    (z_list : PySem.W.nsIn K mainGlobals "list" = some none)
    (z_reversed : PySem.W.nsIn K mainGlobals "reversed" = some none)
    (z_range : PySem.W.nsIn K mainGlobals "range" = some none)
    (z_isinstance : PySem.W.nsIn K mainGlobals "isinstance" = some none)
    (z_tuple : PySem.W.nsIn K mainGlobals "tuple" = some none)
    (z_str : PySem.W.nsIn K mainGlobals "str" = some none)
    (z_bool : PySem.W.nsIn K mainGlobals "bool" = some none)
    (z_ValueError : PySem.W.nsIn K mainGlobals "ValueError" = some none)
    (h_ZERO : PySem.W.nsIn K mainGlobals "ZERO" = some (some (.ref q_ZERO))) (w_ZERO : K.lookup q_ZERO = some ⟨.type "tuple", dd_ZERO, .seq (List.toArray [.str "number" tk_ZERO0, .int 0 tk_ZERO1]) n_ZERO, sl_ZERO⟩)
    (h_ONE : PySem.W.nsIn K mainGlobals "ONE" = some (some (.ref q_ONE))) (w_ONE : K.lookup q_ONE = some ⟨.type "tuple", dd_ONE, .seq (List.toArray [.str "number" tk_ONE0, .int 1 tk_ONE1]) n_ONE, sl_ONE⟩)
    (h_TWO : PySem.W.nsIn K mainGlobals "TWO" = some (some (.ref q_TWO))) (w_TWO : K.lookup q_TWO = some ⟨.type "tuple", dd_TWO, .seq (List.toArray [.str "number" tk_TWO0, .int 2 tk_TWO1]) n_TWO, sl_TWO⟩)
    (h_InvalidCount : PySem.W.nsIn K mainGlobals "InvalidCount" = some (some (.ref C_InvalidCount)))
    (xIC : PySem.W.excIn K C_InvalidCount [.type "ValueError", .type "Exception", .type "BaseException", .type "object"] "ValueError.__new__" = true)
    (kIC : PySem.W.keepIn K (.ref C_InvalidCount) = true)
    (bIC : PySem.W.subIn K (.ref C_InvalidCount) (.type "BaseException") = some true)
    (tIC : PySem.W.typeIn K (.ref C_InvalidCount) = some (.type "type"))
    (iIC : PySem.W.isClsIn K C_InvalidCount = true)
    (sIC : PySem.W.subIn K (.ref C_InvalidCount) (.ref C_InvalidCount) = some true)
    (e1 : PySem.W.findIn K (.ref C_InvalidCount) "__getattribute__" = some (some (.builtin "BaseException.__getattribute__")))
    (e2 : PySem.W.findIn K (.ref C_InvalidCount) "__getattr__" = some none)
    (e4 : PySem.W.hasDictIn K C_InvalidCount = true)
    (e5 : PySem.W.findIn K (.ref C_InvalidCount) "__class__" = some (some (.builtin "object.__class__")))
    (e6 : PySem.W.specialIn K (.builtin "object.__class__") "__get__" = some (some (.builtin "getset_descriptor.__get__")))
    (e7 : PySem.W.takesIn K (.builtin "object.__class__") = some true)
    (e8 : PySem.W.mroIn K C_InvalidCount (.type "object") = some true)
    (vIC : PySem.W.kitOne K (.ref C_InvalidCount) (.type "ValueError") = some true)
    : ∃ fd : FuncData, (∀ (s : Shared) (v : Value), BindsTo s fd ⟨[v], []⟩ [("script", v)]) ∧ ∀ base : Heap, K.In base → base.Ns mainGlobals mg → FnOk l.prog w K mg base CX0 30 fa fd ["script"] (spLaw K) := by
  have e := hfa.symm.trans (PySem.W.mg_of X G a25)
  cases e
  have F0 := fun_mk (st := s_semaphore) l0 c0 k0
  have b0 := F0.binds (ps := ["name", "n"]) fun _ _ _ _ _ _ us hl => match us, hl with | [_, _], _ => rfl
  have F1 := fun_mk (st := s_barrier) l1 c1 k1
  have b1 := F1.binds (ps := ["name", "n"]) fun _ _ _ _ _ _ us hl => match us, hl with | [_, _], _ => rfl
  have F2 := fun_mk (st := s_channel) l2 c2 k2
  have b2 := F2.binds (ps := ["name", "n"]) fun _ _ _ _ _ _ us hl => match us, hl with | [_, _], _ => rfl
  have F3 := fun_mk (st := s_exchange) l3 c3 k3
  have b3 := F3.binds (ps := ["name"]) fun _ _ _ _ _ _ us hl => match us, hl with | [_], _ => rfl
  have F4 := fun_mk (st := s_take) l4 c4 k4
  have b4 := F4.binds (ps := ["name"]) fun _ _ _ _ _ _ us hl => match us, hl with | [_], _ => rfl
  have F5 := fun_mk (st := s_give) l5 c5 k5
  have b5 := F5.binds (ps := ["name"]) fun _ _ _ _ _ _ us hl => match us, hl with | [_], _ => rfl
  have F6 := fun_mk (st := s_meet) l6 c6 k6
  have b6 := F6.binds (ps := ["name", "n", "x"]) fun _ _ _ _ _ _ us hl => match us, hl with | [_, _, _], _ => rfl
  have F7 := fun_mk (st := s_send) l7 c7 k7
  have b7 := F7.binds (ps := ["name", "n", "expression"]) fun _ _ _ _ _ _ us hl => match us, hl with | [_, _, _], _ => rfl
  have F8 := fun_mk (st := s_receive) l8 c8 k8
  have b8 := F8.binds (ps := ["name", "n", "x"]) fun _ _ _ _ _ _ us hl => match us, hl with | [_, _, _], _ => rfl
  have F9 := fun_mk (st := s_swap) l9 c9 k9
  have b9 := F9.binds (ps := ["name", "x", "role"]) fun _ _ _ _ _ _ us hl => match us, hl with | [_, _, _], _ => rfl
  have F10 := fun_mk (st := s_block) l10 c10 k10
  have b10 := F10.binds (ps := ["body"]) fun _ _ _ _ _ _ us hl => match us, hl with | [_], _ => rfl
  have F11 := fun_mk (st := s_retry_if) l11 c11 k11
  have b11 := F11.binds (ps := ["expression"]) fun _ _ _ _ _ _ us hl => match us, hl with | [_], _ => rfl
  have F12 := fun_mk (st := s_one_more) l12 c12 k12
  have b12 := F12.binds (ps := ["expression"]) fun _ _ _ _ _ _ us hl => match us, hl with | [_], _ => rfl
  have F13 := fun_mk (st := s_law_draws) l13 c13 k13
  have b13 := F13.binds (ps := ["script"]) fun _ _ _ _ _ _ us hl => match us, hl with | [_], _ => rfl
  have F14 := fun_mk (st := s_law_take) l14 c14 k14
  have b14 := F14.binds (ps := ["draws", "bound"]) fun _ _ _ _ _ _ us hl => match us, hl with | [_, _], _ => rfl
  have F15 := fun_mk (st := s_law_same) l15 c15 k15
  have b15 := F15.binds (ps := ["actual", "due"]) fun _ _ _ _ _ _ us hl => match us, hl with | [_, _], _ => rfl
  have F16 := fun_mk (st := s_law_keys) l16 c16 k16
  have b16 := F16.binds (ps := []) fun _ _ _ _ _ _ us hl => match us, hl with | [], _ => rfl
  have F17 := fun_mk (st := s_law_names) l17 c17 k17
  have b17 := F17.binds (ps := ["draws", "many"]) fun _ _ _ _ _ _ us hl => match us, hl with | [_, _], _ => rfl
  have F18 := fun_mk (st := s_law_number) l18 c18 k18
  have b18 := F18.binds (ps := ["draws"]) fun _ _ _ _ _ _ us hl => match us, hl with | [_], _ => rfl
  have F19 := fun_mk (st := s_law_exp) l19 c19 k19
  have b19 := F19.binds (ps := ["draws", "variables", "cells", "depth"]) fun _ _ _ _ _ _ us hl => match us, hl with | [_, _, _, _], _ => rfl
  have F20 := fun_mk (st := s_law_cell) l20 c20 k20
  have b20 := F20.binds (ps := ["name", "n"]) fun _ _ _ _ _ _ us hl => match us, hl with | [_, _], _ => rfl
  have F21 := fun_mk (st := s_law_put) l21 c21 k21
  have b21 := F21.binds (ps := ["name", "n", "exp"]) fun _ _ _ _ _ _ us hl => match us, hl with | [_, _, _], _ => rfl
  have F22 := fun_mk (st := s_law_retry) l22 c22 k22
  have b22 := F22.binds (ps := ["exp"]) fun _ _ _ _ _ _ us hl => match us, hl with | [_], _ => rfl
  have F23 := fun_mk (st := s_law_plus) l23 c23 k23
  have b23 := F23.binds (ps := ["exp", "n"]) fun _ _ _ _ _ _ us hl => match us, hl with | [_, _], _ => rfl
  have F24 := fun_mk (st := s_law_refused) l24 c24 k24
  have b24 := F24.binds (ps := ["kind", "name", "n"]) fun _ _ _ _ _ _ us hl => match us, hl with | [_, _, _], _ => rfl
  have F25 := fun_mk (st := s_law) l25 c25 k25
  have b25 := F25.binds (ps := ["script"]) fun _ _ _ _ _ _ us hl => match us, hl with | [_], _ => rfl
  let A : Adr := { a_semaphore := f0, d_semaphore := PySem.W.fnOf "semaphore" "semaphore" (defArgs s_semaphore) (defBody s_semaphore) (defScope s_semaphore) .none kV0 dc0 pm0 an0 cd0 ct0, a_barrier := f1, d_barrier := PySem.W.fnOf "barrier" "barrier" (defArgs s_barrier) (defBody s_barrier) (defScope s_barrier) .none kV1 dc1 pm1 an1 cd1 ct1, a_channel := f2, d_channel := PySem.W.fnOf "channel" "channel" (defArgs s_channel) (defBody s_channel) (defScope s_channel) .none kV2 dc2 pm2 an2 cd2 ct2, a_exchange := f3, d_exchange := PySem.W.fnOf "exchange" "exchange" (defArgs s_exchange) (defBody s_exchange) (defScope s_exchange) .none kV3 dc3 pm3 an3 cd3 ct3, a_take := f4, d_take := PySem.W.fnOf "take" "take" (defArgs s_take) (defBody s_take) (defScope s_take) .none kV4 dc4 pm4 an4 cd4 ct4, a_give := f5, d_give := PySem.W.fnOf "give" "give" (defArgs s_give) (defBody s_give) (defScope s_give) .none kV5 dc5 pm5 an5 cd5 ct5, a_meet := f6, d_meet := PySem.W.fnOf "meet" "meet" (defArgs s_meet) (defBody s_meet) (defScope s_meet) .none kV6 dc6 pm6 an6 cd6 ct6, a_send := f7, d_send := PySem.W.fnOf "send" "send" (defArgs s_send) (defBody s_send) (defScope s_send) .none kV7 dc7 pm7 an7 cd7 ct7, a_receive := f8, d_receive := PySem.W.fnOf "receive" "receive" (defArgs s_receive) (defBody s_receive) (defScope s_receive) .none kV8 dc8 pm8 an8 cd8 ct8, a_swap := f9, d_swap := PySem.W.fnOf "swap" "swap" (defArgs s_swap) (defBody s_swap) (defScope s_swap) .none kV9 dc9 pm9 an9 cd9 ct9, a__block := f10, d__block := PySem.W.fnOf "_block" "_block" (defArgs s_block) (defBody s_block) (defScope s_block) .none kV10 dc10 pm10 an10 cd10 ct10, a__retry_if := f11, d__retry_if := PySem.W.fnOf "_retry_if" "_retry_if" (defArgs s_retry_if) (defBody s_retry_if) (defScope s_retry_if) .none kV11 dc11 pm11 an11 cd11 ct11, a__one_more := f12, d__one_more := PySem.W.fnOf "_one_more" "_one_more" (defArgs s_one_more) (defBody s_one_more) (defScope s_one_more) .none kV12 dc12 pm12 an12 cd12 ct12, a__law_draws := f13, d__law_draws := PySem.W.fnOf "_law_draws" "_law_draws" (defArgs s_law_draws) (defBody s_law_draws) (defScope s_law_draws) .none kV13 dc13 pm13 an13 cd13 ct13, a__law_take := f14, d__law_take := PySem.W.fnOf "_law_take" "_law_take" (defArgs s_law_take) (defBody s_law_take) (defScope s_law_take) .none kV14 dc14 pm14 an14 cd14 ct14, a__law_same := f15, d__law_same := PySem.W.fnOf "_law_same" "_law_same" (defArgs s_law_same) (defBody s_law_same) (defScope s_law_same) .none kV15 dc15 pm15 an15 cd15 ct15, a__law_keys := f16, d__law_keys := PySem.W.fnOf "_law_keys" "_law_keys" (defArgs s_law_keys) (defBody s_law_keys) (defScope s_law_keys) .none kV16 dc16 pm16 an16 cd16 ct16, a__law_names := f17, d__law_names := PySem.W.fnOf "_law_names" "_law_names" (defArgs s_law_names) (defBody s_law_names) (defScope s_law_names) .none kV17 dc17 pm17 an17 cd17 ct17, a__law_number := f18, d__law_number := PySem.W.fnOf "_law_number" "_law_number" (defArgs s_law_number) (defBody s_law_number) (defScope s_law_number) .none kV18 dc18 pm18 an18 cd18 ct18, a__law_exp := f19, d__law_exp := PySem.W.fnOf "_law_exp" "_law_exp" (defArgs s_law_exp) (defBody s_law_exp) (defScope s_law_exp) .none kV19 dc19 pm19 an19 cd19 ct19, a__law_cell := f20, d__law_cell := PySem.W.fnOf "_law_cell" "_law_cell" (defArgs s_law_cell) (defBody s_law_cell) (defScope s_law_cell) .none kV20 dc20 pm20 an20 cd20 ct20, a__law_put := f21, d__law_put := PySem.W.fnOf "_law_put" "_law_put" (defArgs s_law_put) (defBody s_law_put) (defScope s_law_put) .none kV21 dc21 pm21 an21 cd21 ct21, a__law_retry := f22, d__law_retry := PySem.W.fnOf "_law_retry" "_law_retry" (defArgs s_law_retry) (defBody s_law_retry) (defScope s_law_retry) .none kV22 dc22 pm22 an22 cd22 ct22, a__law_plus := f23, d__law_plus := PySem.W.fnOf "_law_plus" "_law_plus" (defArgs s_law_plus) (defBody s_law_plus) (defScope s_law_plus) .none kV23 dc23 pm23 an23 cd23 ct23, a__law_refused := f24, d__law_refused := PySem.W.fnOf "_law_refused" "_law_refused" (defArgs s_law_refused) (defBody s_law_refused) (defScope s_law_refused) .none kV24 dc24 pm24 an24 cd24 ct24, a_law := fa, d_law := PySem.W.fnOf "law" "law" (defArgs s_law) (defBody s_law) (defScope s_law) .none kV25 dc25 pm25 an25 cd25 ct25, a_ZERO := q_ZERO, a_ONE := q_ONE, a_TWO := q_TWO, a_InvalidCount := C_InvalidCount }
  have T : Txt K mg A := { F_semaphore := (F0), b_semaphore := (b0), g_semaphore := (PySem.W.mg_of X G a0), F_barrier := (F1), b_barrier := (b1), g_barrier := (PySem.W.mg_of X G a1), F_channel := (F2), b_channel := (b2), g_channel := (PySem.W.mg_of X G a2), F_exchange := (F3), b_exchange := (b3), g_exchange := (PySem.W.mg_of X G a3), F_take := (F4), b_take := (b4), g_take := (PySem.W.mg_of X G a4), F_give := (F5), b_give := (b5), g_give := (PySem.W.mg_of X G a5), F_meet := (F6), b_meet := (b6), g_meet := (PySem.W.mg_of X G a6), F_send := (F7), b_send := (b7), g_send := (PySem.W.mg_of X G a7), F_receive := (F8), b_receive := (b8), g_receive := (PySem.W.mg_of X G a8), F_swap := (F9), b_swap := (b9), g_swap := (PySem.W.mg_of X G a9), F__block := (F10), b__block := (b10), g__block := (PySem.W.mg_of X G a10), F__retry_if := (F11), b__retry_if := (b11), g__retry_if := (PySem.W.mg_of X G a11), F__one_more := (F12), b__one_more := (b12), g__one_more := (PySem.W.mg_of X G a12), F__law_draws := (F13), b__law_draws := (b13), g__law_draws := (PySem.W.mg_of X G a13), F__law_take := (F14), b__law_take := (b14), g__law_take := (PySem.W.mg_of X G a14), F__law_same := (F15), b__law_same := (b15), g__law_same := (PySem.W.mg_of X G a15), F__law_keys := (F16), b__law_keys := (b16), g__law_keys := (PySem.W.mg_of X G a16), F__law_names := (F17), b__law_names := (b17), g__law_names := (PySem.W.mg_of X G a17), F__law_number := (F18), b__law_number := (b18), g__law_number := (PySem.W.mg_of X G a18), F__law_exp := (F19), b__law_exp := (b19), g__law_exp := (PySem.W.mg_of X G a19), F__law_cell := (F20), b__law_cell := (b20), g__law_cell := (PySem.W.mg_of X G a20), F__law_put := (F21), b__law_put := (b21), g__law_put := (PySem.W.mg_of X G a21), F__law_retry := (F22), b__law_retry := (b22), g__law_retry := (PySem.W.mg_of X G a22), F__law_plus := (F23), b__law_plus := (b23), g__law_plus := (PySem.W.mg_of X G a23), F__law_refused := (F24), b__law_refused := (b24), g__law_refused := (PySem.W.mg_of X G a24), F_law := (F25), b_law := (b25), g_law := (PySem.W.mg_of X G a25), n_len := PySem.W.mg_none_of X G z_len, n_abs := PySem.W.mg_none_of X G z_abs, n_int := PySem.W.mg_none_of X G z_int, n_list := PySem.W.mg_none_of X G z_list, n_reversed := PySem.W.mg_none_of X G z_reversed, n_range := PySem.W.mg_none_of X G z_range, n_isinstance := PySem.W.mg_none_of X G z_isinstance, n_tuple := PySem.W.mg_none_of X G z_tuple, n_str := PySem.W.mg_none_of X G z_str, n_bool := PySem.W.mg_none_of X G z_bool, n_ValueError := PySem.W.mg_none_of X G z_ValueError, g_ZERO := PySem.W.mg_of X G h_ZERO, z_ZERO := fun H => .inr ⟨_, _, _, w_ZERO, rfl, rfl, by rw [sizeLine_eq]; exact Nat.le_of_ble_eq_true rfl, (.cons ⟨_, rfl⟩ (.cons ⟨_, rfl⟩ .nil))⟩, g_ONE := PySem.W.mg_of X G h_ONE, z_ONE := fun H => .inr ⟨_, _, _, w_ONE, rfl, rfl, by rw [sizeLine_eq]; exact Nat.le_of_ble_eq_true rfl, (.cons ⟨_, rfl⟩ (.cons ⟨_, rfl⟩ .nil))⟩, g_TWO := PySem.W.mg_of X G h_TWO, z_TWO := fun H => .inr ⟨_, _, _, w_TWO, rfl, rfl, by rw [sizeLine_eq]; exact Nat.le_of_ble_eq_true rfl, (.cons ⟨_, rfl⟩ (.cons ⟨_, rfl⟩ .nil))⟩, g_InvalidCount := PySem.W.mg_of X G h_InvalidCount, x_IC := xIC, k_IC := kIC, b_IC := bIC, t_IC := tIC, i_IC := iIC, s_IC := sIC, e_IC := ⟨e1, e2, bIC, e4, e5, e6, e7, e8⟩, v_IC := vIC }
  exact ⟨A.d_law, fun s v => .of_eq rfl, fun base _ _ => ok_law T⟩
theorem walk {l : PySem.W.OpenLaw} {q : Program} {loose : List Str} {XP : (Str → Option Value) → Heap → Prop} {YP : World → Heap → Prop} {d : DefRec} {K : Params → PySem.W.Frag} (hn : l.most = some 63) (hdf : d.params.defaults = [])
    (hY : ∀ (w : World) (h : Heap), YP w h → (K w.params).In h)
    (F : ∀ (w : World) (mg : Str → Option Value) (fa : Addr) (h : Heap), (K w.params).In h → h.Ns mainGlobals mg → mg d.name = some (.ref fa) →
      ∃ fd : FuncData, (∀ (s : Shared) (u : Value), BindsTo s fd ⟨[u], []⟩ [("script", u)]) ∧ ∀ base : Heap, (K w.params).In base → base.Ns mainGlobals mg → FnOk l.prog w (K w.params) mg base CX0 30 fa fd ["script"] (spLaw (K w.params))) :
    PySem.W.WalkO q loose XP YP l.row.toRowW d [] (fun f vs => PySem.call f vs) :=
  L2.walk_of (n := 63) (k := 30) (x := "script") (CX := fun _ => CX0) (sp := fun w => spLaw (K w.params)) hn (by decide) hdf ⟨rfl, by decide, by decide⟩ hY F (fun _ _ a ns hl _ hS => ⟨a, ns, rfl, hS, hl, fun _ => rfl⟩) fun _ _ _ _ _ z => z
end K07

open PySem PySem.W PyProof.Rows in
set_option maxRecDepth 100000 in
set_option maxHeartbeats 0 in
theorem PySem.Challenge.cw_handshaker_k07_library_cells_and_blocks_holds : PySem.Challenge.rw_handshaker_k07_library_cells_and_blocks.Holds := by
  w_on; o_law; k_head; (case hw => w_witness2)
  k_fill
  refine K07.walk (l := PySem.Challenge.rw_handshaker_k07_library_cells_and_blocks) rfl rfl (fun w h Y => PySem.W.kIn_of Y) ?F
  case F =>
    intro w mg fa h KX G hmg
    refine' K07.all_mk KX G hmg ?a0 ?l0 ?c0 ?k0 ?a1 ?l1 ?c1 ?k1 ?a2 ?l2 ?c2 ?k2 ?a3 ?l3 ?c3 ?k3 ?a4 ?l4 ?c4 ?k4 ?a5 ?l5 ?c5 ?k5 ?a6 ?l6 ?c6 ?k6 ?a7 ?l7 ?c7 ?k7 ?a8 ?l8 ?c8 ?k8 ?a9 ?l9 ?c9 ?k9 ?a10 ?l10 ?c10 ?k10 ?a11 ?l11 ?c11 ?k11 ?a12 ?l12 ?c12 ?k12 ?a13 ?l13 ?c13 ?k13 ?a14 ?l14 ?c14 ?k14 ?a15 ?l15 ?c15 ?k15 ?a16 ?l16 ?c16 ?k16 ?a17 ?l17 ?c17 ?k17 ?a18 ?l18 ?c18 ?k18 ?a19 ?l19 ?c19 ?k19 ?a20 ?l20 ?c20 ?k20 ?a21 ?l21 ?c21 ?k21 ?a22 ?l22 ?c22 ?k22 ?a23 ?l23 ?c23 ?k23 ?a24 ?l24 ?c24 ?k24 ?a25 ?l25 ?c25 ?k25 ?z_len ?z_abs ?z_int ?z_list ?z_reversed ?z_range ?z_isinstance ?z_tuple ?z_str ?z_bool ?z_ValueError ?h_ZERO ?w_ZERO ?h_ONE ?w_ONE ?h_TWO ?w_TWO ?h_InvalidCount ?xIC ?kIC ?bIC ?tIC ?iIC ?sIC ?e1 ?e2 ?e4 ?e5 ?e6 ?e7 ?e8 ?vIC
    (case a0 => k_is)
    (case l0 => k_is)
    (case c0 => k_is)
    (case k0 => k_is)
    (case a1 => k_is)
    (case l1 => k_is)
    (case c1 => k_is)
    (case k1 => k_is)
    (case a2 => k_is)
    (case l2 => k_is)
    (case c2 => k_is)
    (case k2 => k_is)
    (case a3 => k_is)
    (case l3 => k_is)
    (case c3 => k_is)
    (case k3 => k_is)
    (case a4 => k_is)
    (case l4 => k_is)
    (case c4 => k_is)
    (case k4 => k_is)
    (case a5 => k_is)
    (case l5 => k_is)
    (case c5 => k_is)
    (case k5 => k_is)
    (case a6 => k_is)
    (case l6 => k_is)
    (case c6 => k_is)
    (case k6 => k_is)
    (case a7 => k_is)
    (case l7 => k_is)
    (case c7 => k_is)
    (case k7 => k_is)
    (case a8 => k_is)
    (case l8 => k_is)
    (case c8 => k_is)
    (case k8 => k_is)
    (case a9 => k_is)
    (case l9 => k_is)
    (case c9 => k_is)
    (case k9 => k_is)
    (case a10 => k_is)
    (case l10 => k_is)
    (case c10 => k_is)
    (case k10 => k_is)
    (case a11 => k_is)
    (case l11 => k_is)
    (case c11 => k_is)
    (case k11 => k_is)
    (case a12 => k_is)
    (case l12 => k_is)
    (case c12 => k_is)
    (case k12 => k_is)
    (case a13 => k_is)
    (case l13 => k_is)
    (case c13 => k_is)
    (case k13 => k_is)
    (case a14 => k_is)
    (case l14 => k_is)
    (case c14 => k_is)
    (case k14 => k_is)
    (case a15 => k_is)
    (case l15 => k_is)
    (case c15 => k_is)
    (case k15 => k_is)
    (case a16 => k_is)
    (case l16 => k_is)
    (case c16 => k_is)
    (case k16 => k_is)
    (case a17 => k_is)
    (case l17 => k_is)
    (case c17 => k_is)
    (case k17 => k_is)
    (case a18 => k_is)
    (case l18 => k_is)
    (case c18 => k_is)
    (case k18 => k_is)
    (case a19 => k_is)
    (case l19 => k_is)
    (case c19 => k_is)
    (case k19 => k_is)
    (case a20 => k_is)
    (case l20 => k_is)
    (case c20 => k_is)
    (case k20 => k_is)
    (case a21 => k_is)
    (case l21 => k_is)
    (case c21 => k_is)
    (case k21 => k_is)
    (case a22 => k_is)
    (case l22 => k_is)
    (case c22 => k_is)
    (case k22 => k_is)
    (case a23 => k_is)
    (case l23 => k_is)
    (case c23 => k_is)
    (case k23 => k_is)
    (case a24 => k_is)
    (case l24 => k_is)
    (case c24 => k_is)
    (case k24 => k_is)
    (case a25 => k_is)
    (case l25 => k_is)
    (case c25 => k_is)
    (case k25 => k_is)
    (case z_len => k_is)
    (case z_abs => k_is)
    (case z_int => k_is)
    (case z_list => k_is)
    (case z_reversed => k_is)
    (case z_range => k_is)
    (case z_isinstance => k_is)
    (case z_tuple => k_is)
    (case z_str => k_is)
    (case z_bool => k_is)
    (case z_ValueError => k_is)
    (case h_ZERO => k_is)
    (case w_ZERO => k_is)
    (case h_ONE => k_is)
    (case w_ONE => k_is)
    (case h_TWO => k_is)
    (case w_TWO => k_is)
    (case h_InvalidCount => k_is)
    (case xIC => first | k_exc | k_is)
    (case kIC => k_is)
    (case bIC => k_is)
    (case tIC => k_is)
    (case iIC => k_is)
    (case sIC => first | rfl | k_is)
    (case e1 => k_is)
    (case e2 => k_is)
    (case e4 => k_is)
    (case e5 => k_is)
    (case e6 => k_is)
    (case e7 => k_is)
    (case e8 => k_is)
    (case vIC => first | k_is | rfl)

