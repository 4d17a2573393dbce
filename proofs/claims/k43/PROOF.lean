import PyProof.Rows.All
import Wide.All
import OpenK.AllK
import Wide.FinOn
import HandS.ForMost
import HandS.Rev
import HandS.IsInst
import HandS.Exc
import HandS.ExcOwn
import HandS.TryOnly
import HandS.WordsExc
import HandS.ExcIs
import HandS.TryMany
import HandS.Dict
import HandS.Walk
import HandS.More
import HandS.SortKw
import HandS.DictComp
import PyProof.MinMaxWalk
import PyProof.WalkInts
import HandS.ExcInit
import HandS.ExcCtx
import HandS.HotCalls
import HandS.ExcInitHot
import HandS.ExcField
import HandS.Defaults
import HandS.Head0
import HandS.Head1
import HandS.Head2
import HandS.HeadEnd
import HandS.HeadHook1
import HandS.HeadHook2
import HandS.HeadHook3
import HandS.HeadHook4
import HandS.HeadWalk
import HandS.EndTab
import HandS.TupAny
import HandS.Codes
import KE.SortData
import KE.KDictKeyed
import KE.KeyNested
import HandS.Star
import PySem.Challenge.RW_handshaker_k43_orders_of_fewer_records
set_option Elab.async false
set_option maxRecDepth 100000
set_option maxHeartbeats 4000000
set_option linter.all false
/-! list(reversed(xs)) -/
namespace YF
open PySem PySem.Spec PyProof.Rows L2
section
variable {prog : Program} {w : World} {A : Around} {E : Value → Shared → Prop} {s : Shared} {R : Result → Shared → Prop} {it l S : Addr} {items : Array Value} {c₀ : Nat}
theorem rev_into (hh : A.handled = none) (hi : s.heap.IsRevIter it l ((items.size : Int) - 1)) (hl : s.heap.IsList l items) (nl : l ≠ it) (nS : S ≠ it) (nSl : S ≠ l) (hz : items.size ≤ sizeLine)
    (hS : s.heap.get? S = some { cls := .type "list", data := .seq #[] c₀ })
    (hR : ∀ (h' : Heap) (tk : Nat) (acc : Array Value) (c' : Nat), (∀ b o, b ≠ S → b ≠ it → s.heap.get? b = some o → h'.get? b = some o) → h'.get? S = some { cls := .type "list", dict := none, data := .seq acc c', slots := #[] } →
      ItemsOf (fun i v => items[items.size - 1 - i]? = some v) acc items.size → R (.ok (.ret .none)) { s with heap := h', toks := tk }) :
    wpAny (model prog w) A.in1 (Builtin.List.listExtendWith (.ref S) (.ref it) .none)
      (fun fin s' => match fin with | .done f => R (.ok f) s' | .again c' => c'.quiet = true ∧ codeAny (model prog w) A c' R s') (fun e s' => R (.error e) s') s := by
  have walk := (Walks.listRev (prog := prog) (w := w) (A := A.in1) hh it l nl items).toS
  have out : S ∉ [it, l] := fun m => by
    rcases List.mem_cons.mp m with e | m
    · exact nS e
    · exact nSl (List.mem_singleton.mp m)
  have ty : s.TypeIs (.ref it) "list_reverseiterator" := hi.typeIs
  have differ : Builtin.List.listSameRef (.ref S) (.ref it) = false := by simp [Builtin.List.listSameRef, nS]
  unfold Builtin.List.listExtendWith
  refine wpAny_bind (wpAny_typeOf ty ?_)
  rw [if_neg (by rw [differ]; decide)]
  refine wpAny_bind (wpAny_pyIter_revIter hi (wpAny_bind (wpAny_holding ?_)))
  unfold Builtin.List.listLengthHint
  refine wpAny_bind (wpAny_specialOf ty RT.nolen_lri ?_)
  show wpAny _ A.in1 (specialOf (.ref it) (Str.ofString "__length_hint__") >>= _) _ _ s
  refine wpAny_bind (wpAny_specialOf ty RT.hint_lri ?_)
  generalize same : ("list_reverseiterator.__length_hint__" : String) = nm
  wp_delta
  have sp : splitId nm = some ("list_reverseiterator", "__length_hint__") := by subst same; decide +kernel
  rw [sp]
  subst same
  refine wpAny_bind (wpAny_isInstance (b := true) ty (by rw [isSubtype_type]; kernel_rfl) ?_)
  refine wpAny_pure ?_
  rw [if_neg (by decide)]
  have start : ((items.size : Nat) : Int) - 1 - ((0 : Nat) : Int) = (items.size : Int) - 1 := by omega
  refine wpAny_pure ⟨plainId_quiet F.plain_extend_loop _, ?_⟩
  refine codeAny_extend_loopS walk hz S out .none items.size 0 s #[] c₀ rfl (Nat.zero_le _) ⟨Nat.zero_le _, start.symm ▸ hi, hl⟩ hS (ItemsOf.nil _) fun s' acc c' mv at' got => ?_
  rw [Moved.eq_with mv]
  refine hR s'.heap s'.toks acc c' (fun b o h1 h2 e => mv.heap b o (fun m => ?_) e) at' got
  rcases List.mem_cons.mp m with q | m
  · exact h1 q
  · exact h2 (List.mem_singleton.mp m)
theorem rev_init (hh : A.handled = none) (hi : s.heap.IsRevIter it l ((items.size : Int) - 1)) (hl : s.heap.IsList l items) (nl : l ≠ it) (nS : S ≠ it) (nSl : S ≠ l) (hz : items.size ≤ sizeLine)
    (hS : s.heap.get? S = some { cls := .type "list", data := .seq #[] })
    (hR : ∀ (h' : Heap) (tk : Nat) (acc : Array Value) (c' : Nat), (∀ b o, b ≠ S → b ≠ it → s.heap.get? b = some o → h'.get? b = some o) → h'.get? S = some { cls := .type "list", dict := none, data := .seq acc c', slots := #[] } →
      ItemsOf (fun i v => items[items.size - 1 - i]? = some v) acc items.size → R (.ok (.ret .none)) { s with heap := h', toks := tk }) :
    wpAny (model prog w) A.in1 (Builtin.«list.__init__» ⟨[.ref S, .ref it], []⟩)
      (fun fin s' => match fin with | .done f => R (.ok f) s' | .again c' => c'.quiet = true ∧ codeAny (model prog w) A c' R s') (fun e s' => R (.error e) s') s := by
  show wpAny _ A.in1 (do let old ← Builtin.List.listItems (.ref S)
                         Builtin.List.listUpdate (.ref S) (fun _ => #[])
                         letGo old.toList.reverse
                         Builtin.List.listExtendWith (.ref S) (.ref it) .none) _ _ s
  refine wpAny_bind ?_
  unfold Builtin.List.listItems
  refine wpAny_bind (wpAny_seqItems hS rfl (wpAny_pure ?_))
  show wpAny _ A.in1 (updateSeq S (fun _ => #[]) >>= fun _ =>
      letGo (#[] : Array Value).toList.reverse >>= fun _ => Builtin.List.listExtendWith (.ref S) (.ref it) .none) _ _ s
  refine wpAny_bind (wpAny_updateSeq hS rfl (wpAny_bind (wpAny_letGo ?_)))
  have there := Heap.get?_update_self (Obj.mapSeq (fun _ => (#[] : Array Value))) hS rfl
  have kept : ∀ b o, b ≠ S → s.heap.get? b = some o → (s.heap.update S (Obj.mapSeq (fun _ => (#[] : Array Value)))).get? b = some o := fun b o ne e => by
    rw [Heap.get?_update_other _ _ (Ne.symm ne)]
    exact e
  refine rev_into (s := { s with heap := s.heap.update S (Obj.mapSeq (fun _ => (#[] : Array Value))) }) hh (hi.at fun o e => kept it o nS.symm e) ?_ nl nS nSl hz there fun h' tk acc c' k at' got => ?_
  · obtain ⟨o, ho, r⟩ := hl
    exact ⟨o, kept l o nSl.symm ho, r⟩
  · exact hR h' tk acc c' (fun b o n1 n2 e => k b o n1 n2 (kept b o n1 e)) at' got
theorem list_of_rev {Q : Value → Shared → Prop} (hh : A.handled = none) (hi : s.heap.IsRevIter it l ((items.size : Int) - 1)) (hl : s.heap.IsList l items) (nl : l ≠ it) (hz : items.size ≤ sizeLine)
    (hQ : ∀ (h' : Heap) (tk : Nat) (acc : Array Value) (c' : Nat), (∀ b o, b ≠ it → s.heap.get? b = some o → h'.get? b = some o) → h'.get? s.heap.objs.size = some { cls := .type "list", dict := none, data := .seq acc c', slots := #[] } →
      ItemsOf (fun i v => items[items.size - 1 - i]? = some v) acc items.size → Q (.ref s.heap.objs.size) { s with heap := h', toks := tk }) :
    wpAny (model prog w) A (call (.type "list") [.ref it]) Q E s := by
  obtain ⟨oi, ei, _⟩ := id hi
  obtain ⟨ol, el, _⟩ := id hl
  refine callType_codes (Q₁ := fun obj s₁ => obj = .ref s.heap.objs.size ∧ s₁ = { s with heap := s.heap.push { cls := .type "list", data := .seq #[] } })
    F.called_list (F.typeCall_list_1 _) F.entry_list_init (code_list_new _ ⟨rfl, rfl⟩) fun obj s₁ h₁ => ?_
  obtain ⟨rfl, rfl⟩ := h₁
  have there : (s.heap.push { cls := .type "list", data := .seq #[] }).get? s.heap.objs.size = some { cls := .type "list", data := .seq #[] } := Heap.get?_push_size _ rfl
  refine ⟨⟨_, there, rfl⟩, F.args_list_init_2 _ _, ?_⟩
  refine rev_init (A := A.in1) (s := { s with heap := s.heap.push { cls := .type "list", data := .seq #[] } }) hh (hi.at fun o e => Heap.get?_push_of_some _ e) (hl.push _) nl (Nat.ne_of_gt (Heap.lt_size ei)) (Nat.ne_of_gt (Heap.lt_size el)) hz there fun h' tk acc c' k at' got => ?_
  exact ⟨rfl, hQ h' tk acc c' (fun b o ne e => k b o (Nat.ne_of_lt (Heap.lt_size e)) ne (Heap.get?_push_of_some _ e)) at' got⟩
end
/-- list(reversed(x)), x a list: a new list -/
def tLstRev (K : PySem.W.Frag) (te : TE) : TE := fun σ H Q => te σ H fun v H1 => ∃ (a : Addr) (xs : List V), v = .ref a ∧ SqL K H1 a xs ∧ ∀ q, H1 q = none → Q (.ref q) (upd H1 q (.lst xs.reverse))
theorem pe_lstRev {X : Cx} {e : Expr} {te : TE} {p p2 pos pos2 : Pos} (hc : X.calm = true) (hg : Gl X "list") (hm : X.mg "list" = none) (hg2 : Gl X "reversed") (hm2 : X.mg "reversed" = none) (he : PE X e te)
    (hs : starEach [e] X.env = (false, eval e X.env) :: starEach [] X.env := by rfl)
    (hs2 : starEach [.Call (.Name "reversed" p2) [e] [] pos2] X.env = (false, eval (.Call (.Name "reversed" p2) [e] [] pos2) X.env) :: starEach [] X.env := by rfl) :
    PE X (.Call (.Name "list" p) [.Call (.Name "reversed" p2) [e] [] pos2] [] pos) (tLstRev X.K te) := by
  refine ⟨fun pins s σ H Q I h => ?_⟩
  refine Call_ (ld_blt I hg hm boot_list (PyProof.Rows.callWith_type1 (args_cons (Call_ (ld_blt I hg2 hm2 PyProof.Rows.boot_reversed
    (PyProof.Rows.callWith_type1 (args_cons (thn (he.run pins s σ H _ I h) fun u s1 ⟨v, H1, J, r1, q1⟩ => args_nil ?_) hs) hs rfl))) hs2) hs2 rfl))
  obtain ⟨a, xs, ev, hq, q⟩ := q1
  subst ev
  obtain rfl : u = Value.ref a := r1
  obtain ⟨its, rv, pl, hz⟩ := J.list hq
  refine call_reversed_list pl.isList (args_nil ?_)
  obtain ⟨ol, el, _⟩ := id pl.isList
  have n0 : s1.heap.get? s1.heap.objs.size = none := by
    cases e : s1.heap.get? s1.heap.objs.size with
    | none => rfl
    | some o => exact absurd (Heap.lt_size e) (Nat.lt_irrefl _)
  have hz' : its.toArray.size ≤ sizeLine := by
    rw [List.size_toArray, ← rv.length]
    exact hz
  refine list_of_rev (s := { s1 with heap := s1.heap.push (revObj a ((its.toArray.size : Int) - 1)) }) (J.ok.hd hc) ⟨_, Heap.get?_push_size _ rfl, rfl, rfl⟩ (pl.isList.push _) (Nat.ne_of_lt (Heap.lt_size el)) hz' fun h' tk acc c' k there got => ?_
  have k1 : ∀ b o, s1.heap.get? b = some o → h'.get? b = some o := fun b o e => k b o (Nat.ne_of_lt (Heap.lt_size e)) (Heap.get?_push_of_some _ e)
  have big : s1.heap.objs.size ≤ (s1.heap.push (revObj a ((its.toArray.size : Int) - 1))).objs.size := by
    rw [Heap.size_push]
    exact Nat.le_succ _
  refine ⟨.ref _, upd H1 _ (.lst xs.reverse), J.laid (t' := tk) k1 big (show ObjOk X.prog X.w _ _ _ (.lst xs.reverse) from ⟨by rw [List.length_reverse]; exact hz, acc.toList, c', RT.vals_rev rv got, ?_⟩), rfl, q _ (J.hok.fresh big)⟩
  rw [Array.toArray_toList]
  exact there
end YF

/-! data as trees, how they lie in a heap, heaps that grow -/
namespace YF
open PySem PySem.Spec PyProof.Rows L2
abbrev St := L2.St

/-- a tree of data; a row of trees is a chain of cons -/
inductive D where
  | non | bl (b : Bool) | int (i : Int) | str (x : Str) | tup (ds : D) | lst (ds : D) | nil | cons (d ds : D)
  deriving DecidableEq
namespace D
def row : List D → D
  | [] => .nil
  | d :: r => .cons d (row r)
def isRow : D → Bool
  | .nil => true
  | .cons _ r => isRow r
  | _ => false
def dep : D → Nat
  | .tup ds => dep ds + 1
  | .lst ds => dep ds + 1
  | .cons d r => max (dep d) (dep r)
  | _ => 0
def len : D → Nat
  | .cons _ r => len r + 1
  | _ => 0
/-- a tree proper: rows stand in tuples and lists alone -/
def ok : D → Bool
  | .tup ds => isRow ds && ok ds
  | .lst ds => isRow ds && ok ds
  | .nil => true
  | .cons d r => !isRow d && ok d && isRow r && ok r
  | _ => true
end D
/-- the values vs are the trees of the row; of a tree that is no row: the one value -/
def Rp (K : PySem.W.Frag) (H : Hp) : D → List V → Prop
  | .non, vs => vs = [.non]
  | .bl b, vs => vs = [.bl b]
  | .int i, vs => vs = [.int i]
  | .str x, vs => vs = [.str x]
  | .tup ds, vs => ∃ a xs, vs = [.ref a] ∧ SqT K H a xs ∧ xs.length ≤ 100000 ∧ Rp K H ds xs
  | .lst ds, vs => ∃ a xs, vs = [.ref a] ∧ SqL K H a xs ∧ xs.length ≤ 100000 ∧ Rp K H ds xs
  | .nil, vs => vs = []
  | .cons d r, vs => ∃ x xs, vs = x :: xs ∧ Rp K H d [x] ∧ Rp K H r xs
section
variable {K : PySem.W.Frag} {H H' : Hp}
theorem Same.sqL {a : Addr} {xs : List V} (e : Same H H') (h : SqL K H a xs) : SqL K H' a xs := Same.seq e h
theorem Same.sqT {a : Addr} {xs : List V} (e : Same H H') (h : SqT K H a xs) : SqT K H' a xs := by
  rcases h with (h | ⟨o, h⟩) | h
  · exact .inl (.inl (e _ _ h))
  · exact .inl (.inr ⟨o, e _ _ h⟩)
  · exact .inr h
theorem Rp.mono (e : Same H H') : ∀ {d : D} {vs : List V}, Rp K H d vs → Rp K H' d vs
  | .non, _, h => h
  | .bl _, _, h => h
  | .int _, _, h => h
  | .str _, _, h => h
  | .tup _, _, ⟨a, xs, e1, h1, h2, h3⟩ => ⟨a, xs, e1, Same.sqT e h1, h2, Rp.mono e h3⟩
  | .lst _, _, ⟨a, xs, e1, h1, h2, h3⟩ => ⟨a, xs, e1, Same.sqL e h1, h2, Rp.mono e h3⟩
  | .nil, _, h => h
  | .cons _ _, _, ⟨x, xs, e1, h1, h2⟩ => ⟨x, xs, e1, Rp.mono e h1, Rp.mono e h2⟩
theorem Rp.row_len : ∀ {d : D} {vs : List V}, d.isRow = true → Rp K H d vs → vs.length = d.len
  | .nil, _, _, h => by
    have e : _ = [] := h
    rw [e]
    rfl
  | .cons _ r, _, q, ⟨x, xs, e1, _, h2⟩ => by
    subst e1
    have := Rp.row_len (d := r) q h2
    simp [D.len, this]
theorem Rp.at_ : ∀ {d : D} {vs ws : List V} {i : Nat} {v : V}, d.isRow = true → d.ok = true → Rp K H d vs → vs[i]? = some v → Rp K H d ws → ∃ (c : D) (u : V), ws[i]? = some u ∧ c.isRow = false ∧ c.ok = true ∧ c.dep ≤ d.dep ∧ Rp K H c [v] ∧ Rp K H c [u]
  | .nil, vs, ws, i, v, _, _, h, e, _ => by
    have h : vs = [] := h
    rw [h] at e
    cases i <;> cases e
  | .cons d r, vs, ws, 0, v, q, o, ⟨x, xs, e1, h1, h2⟩, e, ⟨y, ys, e2, k1, k2⟩ => by
    subst e1 e2
    simp only [D.ok, Bool.and_eq_true, Bool.not_eq_true'] at o
    have ev : x = v := by simpa using e
    rw [ev] at h1
    exact ⟨d, y, rfl, o.1.1.1, o.1.1.2, Nat.le_max_left _ _, h1, k1⟩
  | .cons d r, vs, ws, i + 1, v, q, o, ⟨x, xs, e1, h1, h2⟩, e, ⟨y, ys, e2, k1, k2⟩ => by
    subst e1 e2
    simp only [D.ok, Bool.and_eq_true, Bool.not_eq_true'] at o
    obtain ⟨c, u, g1, g2, g3, g4, g5, g6⟩ := Rp.at_ (d := r) (i := i) (v := v) q o.2 h2 (by simpa using e) k2
    exact ⟨c, u, by simpa using g1, g2, g3, Nat.le_trans g4 (Nat.le_max_right _ _), g5, g6⟩
end

/-! ### heaps that grow: B the part that stands, X what may be written -/
theorem Same.upd {H : Hp} {p : Addr} {o : HO} (h : H p = none) : Same H (upd H p o) := fun b u e => by
  rw [upd_ne (ne_of_none e h)]
  exact e
theorem Same.wr {B H : Hp} {p : Addr} {o : HO} (e : Same B H) (h : B p = none) : Same B (L2.upd H p o) := fun b u q => by
  rw [upd_ne (ne_of_none q h)]
  exact e b u q
structure Grow (X : List Addr) (B H N H' : Hp) : Prop where
  bn : Same B N
  nh : Same N H'
  keep : ∀ a o, a ∉ X → H a = some o → H' a = some o
  there : ∀ a o, H a = some o → ∃ o', H' a = some o'
  frs : ∀ a o, N a = some o → B a = some o ∨ H a = none
/-- every address of X holds a list of ints -/
def Ints (X : List Addr) (H : Hp) : Prop := ∀ p ∈ X, ∃ ns : List Int, H p = some (.lst (ns.map V.int))
def Off (X : List Addr) (B : Hp) : Prop := ∀ p ∈ X, B p = none
section
variable {X : List Addr} {B H N H' N' H'' : Hp}
theorem Grow.refl (e : Same B H) : Grow X B H B H := ⟨Same.refl B, e, fun _ _ _ h => h, fun _ o h => ⟨o, h⟩, fun _ _ h => .inl h⟩
theorem Grow.trans (g : Grow X B H N H') (k : Grow X N H' N' H'') : Grow X B H N' H'' :=
  ⟨g.bn.trans k.bn, k.nh, fun a o n h => k.keep a o n (g.keep a o n h), fun a o h => by
    obtain ⟨o', h'⟩ := g.there a o h
    exact k.there a o' h', fun a o h => by
    rcases k.frs a o h with q | q
    · exact g.frs a o q
    · right
      cases e : H a with
      | none => rfl
      | some u =>
        obtain ⟨o', h'⟩ := g.there a u e
        rw [q] at h'
        cases h'⟩
theorem Grow.more {Y : List Addr} (g : Grow X B H N H') (s : ∀ p ∈ X, p ∈ Y) : Grow Y B H N H' := ⟨g.bn, g.nh, fun a o n h => g.keep a o (fun m => n (s a m)) h, g.there, g.frs⟩
theorem Grow.same (g : Grow [] B H N H') : Same H H' := fun a o h => g.keep a o (by simp) h
/-- a new object, known from now on -/
theorem Grow.new {p : Addr} {o : HO} (e : Same B H) (h : H p = none) : Grow X B H (upd B p o) (upd H p o) := by
  have hb : B p = none := e.free h
  refine ⟨Same.upd hb, fun a u q => ?_, fun a u _ q => Same.upd h a u q, fun a u q => ⟨u, Same.upd h a u q⟩, fun a u q => ?_⟩
  · by_cases z : a = p
    · subst z
      rw [upd_same] at q ⊢
      exact q
    · rw [upd_ne z] at q ⊢
      exact e a u q
  · by_cases z : a = p
    · subst z
      exact .inr h
    · rw [upd_ne z] at q
      exact .inl q
/-- a new object, not known (it may be written later) -/
theorem Grow.new0 {p : Addr} {o : HO} (e : Same B H) (h : H p = none) : Grow X B H B (upd H p o) :=
  ⟨Same.refl B, Same.wr e (e.free h), fun a u _ q => Same.upd h a u q, fun a u q => ⟨u, Same.upd h a u q⟩, fun _ _ q => .inl q⟩
/-- an object of X is written -/
theorem Grow.wr {p : Addr} {o : HO} (e : Same B H) (m : p ∈ X) (h : B p = none) : Grow X B H B (upd H p o) :=
  ⟨Same.refl B, Same.wr e h, fun a u n q => by rw [upd_ne (fun z => n (by rw [z]; exact m))]; exact q, fun a u q => by
    by_cases z : a = p
    · subst z
      exact ⟨o, upd_same⟩
    · exact ⟨u, by rw [upd_ne z]; exact q⟩, fun _ _ q => .inl q⟩
/-- what was made since the start comes to be known -/
theorem Grow.know {B0 H0 : Hp} {p : Addr} {o : HO} (g : Grow X B0 H0 N H') (h0 : H0 p = none) (h : H' p = some o) : Grow X B0 H0 (upd N p o) H' := by
  refine ⟨fun a u q => ?_, fun a u q => ?_, g.keep, g.there, fun a u q => ?_⟩
  · by_cases z : a = p
    · subst z
      have w := g.nh a u (g.bn a u q)
      rw [h] at w
      cases w
      exact upd_same
    · rw [upd_ne z]
      exact g.bn a u q
  · by_cases z : a = p
    · subst z
      rw [upd_same] at q
      cases q
      exact h
    · rw [upd_ne z] at q
      exact g.nh a u q
  · by_cases z : a = p
    · subst z
      exact .inr h0
    · rw [upd_ne z] at q
      exact g.frs a u q
/-- an object that was made since the start, and is not known, is written -/
theorem Grow.wrNew {p : Addr} {o : HO} (g : Grow X B H N H') (h0 : H p = none) (hN : N p = none) : Grow X B H N (upd H' p o) :=
  ⟨g.bn, Same.wr g.nh hN, fun a u n q => by rw [upd_ne (ne_of_none q h0)]; exact g.keep a u n q, fun a u q => by
    rw [upd_ne (ne_of_none q h0)]
    exact g.there a u q, g.frs⟩
theorem Grow.off {Y : List Addr} (g : Grow X B H N H') (hB : Off Y B) (hH : ∀ p ∈ Y, ∃ o, H p = some o) : Off Y N := fun p m => by
  cases e : N p with
  | none => rfl
  | some o =>
    rcases g.frs p o e with q | q
    · rw [hB p m] at q
      cases q
    · obtain ⟨u, hu⟩ := hH p m
      rw [q] at hu
      cases hu
theorem Grow.offI (g : Grow X B H N H') (hB : Off X B) (hI : Ints X H) : Off X N := g.off hB fun p m => by
  obtain ⟨ns, h⟩ := hI p m
  exact ⟨_, h⟩
end

/-! ### evaluation: an expression whose reading is te gives, in the slots σ and over the base B, some tree of which φ holds -/
def EvP (K : PySem.W.Frag) (X : List Addr) (B : Hp) (te : TE) (σ : St) (φ : D → Prop) : Prop :=
  ∀ H1, Same B H1 → Off X B → Ints X H1 → ∀ Q : VK, (∀ v d N H2, Grow X B H1 N H2 → Ints X H2 → φ d → Rp K N d [v] → Q v H2) → te σ H1 Q
def EvPs (K : PySem.W.Frag) (X : List Addr) (B : Hp) (ta : TA) (σ : St) (φ : D → Prop) : Prop :=
  ∀ H1, Same B H1 → Off X B → Ints X H1 → ∀ Q : List V → Hp → Prop, (∀ vs d N H2, Grow X B H1 N H2 → Ints X H2 → φ d → Rp K N d vs → Q vs H2) → ta σ H1 Q
section
variable {K : PySem.W.Frag} {X : List Addr} {B N : Hp} {σ : St} {te tb : TE} {ta : TA} {φ ψ : D → Prop}
theorem EvP.imp (h : EvP K X B te σ φ) (k : ∀ d, φ d → ψ d) : EvP K X B te σ ψ := fun H1 e o j Q q => h H1 e o j Q fun v d N H2 g j2 p r => q v d N H2 g j2 (k d p) r
theorem EvPs.imp (h : EvPs K X B ta σ φ) (k : ∀ d, φ d → ψ d) : EvPs K X B ta σ ψ := fun H1 e o j Q q => h H1 e o j Q fun v d N H2 g j2 p r => q v d N H2 g j2 (k d p) r
theorem EvP.val {v : V} {d : D} (r : Rp K B d [v]) : EvP K X B (tC v) σ (· = d) := fun H1 e _ j Q q => q v d B H1 (Grow.refl e) j rfl r
theorem EvP.var {i : Nat} {v : V} {d : D} (h : σ[i]? = some (some v)) (r : Rp K B d [v]) : EvP K X B (tVar i) σ (· = d) := fun H1 e _ j Q q => ⟨v, h, q v d B H1 (Grow.refl e) j rfl r⟩
theorem EvPs.nil : EvPs K X B tNil σ (· = .nil) := fun H1 e _ j Q q => q [] .nil B H1 (Grow.refl e) j rfl rfl
/-- the base may have grown since -/
theorem EvP.grown (h : ∀ N, Same B N → EvP K X N te σ φ) {H1 H2 : Hp} (g : Grow X B H1 N H2) (o : Off X B) (j1 : Ints X H1) (j : Ints X H2) {Q : VK} (q : ∀ v d N' H3, Grow X B H1 N' H3 → Ints X H3 → φ d → Same N N' → Rp K N' d [v] → Q v H3) : te σ H2 Q :=
  h N g.bn H2 g.nh (g.offI o j1) j Q fun v d N' H3 g2 j2 p r => q v d N' H3 (g.trans g2) j2 p g2.bn r
theorem EvPs.cons (h : EvP K X B te σ φ) (k : ∀ N, Same B N → EvPs K X N ta σ ψ) : EvPs K X B (tCons te ta) σ (fun d => ∃ x r, d = .cons x r ∧ φ x ∧ ψ r) := fun H1 e o j Q q =>
  h H1 e o j _ fun v d N H2 g j2 p r => k N g.bn H2 g.nh (g.offI o j) j2 _ fun vs ds N' H3 g2 j3 p2 r2 =>
    q (v :: vs) (.cons d ds) N' H3 (g.trans g2) j3 ⟨d, ds, rfl, p, p2⟩ ⟨v, vs, rfl, Rp.mono g2.bn r, r2⟩
theorem EvP.tup (h : EvPs K X B ta σ φ) (hl : ∀ d, φ d → d.isRow = true ∧ d.len ≤ 100000) : EvP K X B (tTup ta) σ (fun d => ∃ ds, d = .tup ds ∧ φ ds) := fun H1 e o j Q q =>
  h H1 e o j _ fun vs d N H2 g j2 p r => by
    obtain ⟨h1, h2⟩ := hl d p
    have h3 : vs.length ≤ 100000 := by rw [Rp.row_len h1 r]; exact h2
    refine ⟨Nat.le_trans h3 (by decide), fun a ha => ?_⟩
    have g2 : Grow X N H2 (upd N a (.tup vs)) (upd H2 a (.tup vs)) := Grow.new g.nh ha
    refine q (.ref a) (.tup d) _ _ (g.trans g2) (fun y m => ?_) ⟨d, rfl, p⟩ ⟨a, vs, rfl, SqT.of upd_same, h3, Rp.mono g2.bn r⟩
    obtain ⟨ns, hy⟩ := j2 y m
    exact ⟨ns, Same.upd ha y _ hy⟩
theorem EvP.lst (h : EvPs K X B ta σ φ) (hl : ∀ d, φ d → d.isRow = true ∧ d.len ≤ 100000) : EvP K X B (tLst ta) σ (fun d => ∃ ds, d = .lst ds ∧ φ ds) := fun H1 e o j Q q =>
  h H1 e o j _ fun vs d N H2 g j2 p r => by
    obtain ⟨h1, h2⟩ := hl d p
    have h3 : vs.length ≤ 100000 := by rw [Rp.row_len h1 r]; exact h2
    refine ⟨Nat.le_trans h3 (by decide), fun a ha => ?_⟩
    have g2 : Grow X N H2 (upd N a (.lst vs)) (upd H2 a (.lst vs)) := Grow.new g.nh ha
    refine q (.ref a) (.lst d) _ _ (g.trans g2) (fun y m => ?_) ⟨d, rfl, p⟩ ⟨a, vs, rfl, SqL.of upd_same, h3, Rp.mono g2.bn r⟩
    obtain ⟨ns, hy⟩ := j2 y m
    exact ⟨ns, Same.upd ha y _ hy⟩
/-! the same where the tree is told -/
theorem ed_nil : EvPs K X B tNil σ (· = .nil) := EvPs.nil
theorem ed_cons {d r : D} (h : EvP K X B te σ (· = d)) (k : ∀ N, Same B N → EvPs K X N ta σ (· = r)) : EvPs K X B (tCons te ta) σ (· = .cons d r) :=
  (EvPs.cons h k).imp fun _ ⟨_, _, e, e1, e2⟩ => by rw [e, e1, e2]
theorem ed_tup {ds : D} (h : EvPs K X B ta σ (· = ds)) (h1 : ds.isRow = true := by rfl) (h2 : ds.len ≤ 100000 := by decide) : EvP K X B (tTup ta) σ (· = .tup ds) :=
  (EvP.tup h fun d e => by rw [e]; exact ⟨h1, h2⟩).imp fun _ ⟨_, e, e1⟩ => by rw [e, e1]
theorem ed_lst {ds : D} (h : EvPs K X B ta σ (· = ds)) (h1 : ds.isRow = true := by rfl) (h2 : ds.len ≤ 100000 := by decide) : EvP K X B (tLst ta) σ (· = .lst ds) :=
  (EvP.lst h fun d e => by rw [e]; exact ⟨h1, h2⟩).imp fun _ ⟨_, e, e1⟩ => by rw [e, e1]
theorem ed_int {i : Int} : EvP K X B (tC (.int i)) σ (· = .int i) := EvP.val rfl
theorem ed_str {x : Str} : EvP K X B (tC (.str x)) σ (· = .str x) := EvP.val rfl
theorem ed_non : EvP K X B (tC .non) σ (· = .non) := EvP.val rfl
theorem ed_bl {b : Bool} : EvP K X B (tC (.bl b)) σ (· = .bl b) := EvP.val rfl
theorem ed_var {i : Nat} {v : V} {d : D} (h : σ[i]? = some (some v)) (r : Rp K B d [v]) {N : Hp} (e : Same B N) : EvP K X N (tVar i) σ (· = d) := EvP.var h (Rp.mono e r)
theorem ed_add {i j : Int} (h : EvP K X B te σ (· = .int i)) (k : ∀ N, Same B N → EvP K X N tb σ (· = .int j)) : EvP K X B (tOp (rI0 fun i j => .int (i + j)) te tb) σ (· = .int (i + j)) := fun H1 e o jj Q q =>
  h H1 e o jj _ fun v d N H2 g j2 p r => k N g.bn H2 g.nh (g.offI o jj) j2 _ fun u d' N' H3 g2 j3 p2 r2 => by
    subst p p2
    have e1 : v = .int i := by simpa [Rp] using r
    have e2 : u = .int j := by simpa [Rp] using r2
    exact ⟨i, j, e1, e2, q _ _ N' H3 (g.trans g2) j3 rfl rfl⟩
theorem ed_sub {i j : Int} (h : EvP K X B te σ (· = .int i)) (k : ∀ N, Same B N → EvP K X N tb σ (· = .int j)) : EvP K X B (tOp (rI0 fun i j => .int (i - j)) te tb) σ (· = .int (i - j)) := fun H1 e o jj Q q =>
  h H1 e o jj _ fun v d N H2 g j2 p r => k N g.bn H2 g.nh (g.offI o jj) j2 _ fun u d' N' H3 g2 j3 p2 r2 => by
    subst p p2
    have e1 : v = .int i := by simpa [Rp] using r
    have e2 : u = .int j := by simpa [Rp] using r2
    exact ⟨i, j, e1, e2, q _ _ N' H3 (g.trans g2) j3 rfl rfl⟩
end

/-! ### promises: a def that makes of trees a tree; one that pops from a list of ints besides -/
def SpD (K : PySem.W.Frag) (n : Nat) (pre : D → Prop) (post : D → D → Prop) : Sp := fun vs H Q _ => ∃ B ds, vs.length = n ∧ Same B H ∧ Rp K B ds vs ∧ pre ds ∧
  ∀ v d N H', Grow [] B H N H' → post ds d → Rp K N d [v] → Q v H'
def SpX (K : PySem.W.Frag) (n : Nat) (pre : D → Prop) (post : D → D → Prop) : Sp := fun vs H Q _ => ∃ B p us ds, vs = .ref p :: us ∧ us.length = n ∧ Same B H ∧ Off [p] B ∧ Ints [p] H ∧ Rp K B ds us ∧ pre ds ∧
  ∀ v d N H', Grow [p] B H N H' → Ints [p] H' → post ds d → Rp K N d [v] → Q v H'
section
variable {K : PySem.W.Frag} {X : List Addr} {B : Hp} {σ : St} {ta : TA} {φ : D → Prop} {pre : D → Prop} {post : D → D → Prop} {E : XK} {n : Nat}
theorem EvP.call (h : EvPs K X B ta σ φ) (hp : ∀ d, φ d → pre d ∧ d.isRow = true ∧ d.len = n) : EvP K X B (tCall (SpD K n pre post) [] E ta) σ (fun d => ∃ ds, φ ds ∧ post ds d) := fun H1 e o j Q q =>
  h H1 e o j _ fun vs ds N H2 g j2 p r => by
    obtain ⟨h1, h2, h3⟩ := hp ds p
    show SpD K n pre post (vs ++ []) H2 Q E
    rw [List.append_nil]
    refine ⟨N, ds, (Rp.row_len h2 r).trans h3, g.nh, r, h1, fun v d N' H' g2 p2 r2 => q v d N' H' (g.trans (g2.more (by simp))) (fun y m => ?_) ⟨ds, p, p2⟩ r2⟩
    obtain ⟨ns, hy⟩ := j2 y m
    exact ⟨ns, g2.same y _ hy⟩
theorem EvP.callX {p : Addr} {i : Nat} (hi : σ[i]? = some (some (.ref p))) (h : EvPs K [p] B ta σ φ) (hp : ∀ d, φ d → pre d ∧ d.isRow = true ∧ d.len = n) : EvP K [p] B (tCall (SpX K n pre post) [] E (tCons (tVar i) ta)) σ (fun d => ∃ ds, φ ds ∧ post ds d) := fun H1 e o j Q q =>
  ⟨.ref p, hi, h H1 e o j _ fun vs ds N H2 g j2 p1 r => by
    obtain ⟨h1, h2, h3⟩ := hp ds p1
    show SpX K n pre post ((.ref p :: vs) ++ []) H2 Q E
    rw [List.append_nil]
    exact ⟨N, p, vs, ds, rfl, (Rp.row_len h2 r).trans h3, g.nh, g.offI o j, j2, r, h1, fun v d N' H' g2 j3 p2 r2 => q v d N' H' (g.trans g2) j3 ⟨ds, p1, p2⟩ r2⟩⟩
end
end YF

/-! told trees: what an expression gives, over every base that has grown from B -/
namespace YF
open PySem PySem.Spec PyProof.Rows L2

def Ed (K : PySem.W.Frag) (X : List Addr) (B : Hp) (te : TE) (σ : St) (d : D) : Prop := ∀ N, Same B N → EvP K X N te σ (· = d)
def Eds (K : PySem.W.Frag) (X : List Addr) (B : Hp) (ta : TA) (σ : St) (d : D) : Prop := ∀ N, Same B N → EvPs K X N ta σ (· = d)
/-- what is known of values: their trees -/
def Env (K : PySem.W.Frag) (B : Hp) (l : List (V × D)) : Prop := ∀ p ∈ l, Rp K B p.2 [p.1]
section
variable {K : PySem.W.Frag} {X : List Addr} {B N H H2 : Hp} {σ : St} {te tb tl : TE} {ta : TA} {l : List (V × D)} {v : V} {d : D}
theorem Env.nil : Env K B [] := fun _ h => by cases h
theorem Env.add (e : Env K B l) (r : Rp K B d [v]) : Env K B ((v, d) :: l) := fun p h => by
  rcases List.mem_cons.mp h with h | h
  · rw [h]
    exact r
  · exact e p h
theorem Env.mono (e : Env K B l) (s : Same B N) : Env K N l := fun p h => Rp.mono s (e p h)
theorem Env.at_ (e : Env K B l) (i : Nat) (h : l[i]? = some (v, d)) : Rp K B d [v] := e _ (List.mem_of_getElem? h)
/-- a value's tree, at the i-th place -/
theorem ev_at (j : Nat) (e : Env K B l) {i : Nat} (hs : σ[i]? = some (some v)) (h : l[j]? = some (v, d)) : Ed K X B (tVar i) σ d := fun N s => EvP.var hs (Rp.mono s (e.at_ j h))
theorem ev_var {i : Nat} (hs : σ[i]? = some (some v)) (r : Rp K B d [v]) : Ed K X B (tVar i) σ d := fun N s => EvP.var hs (Rp.mono s r)
theorem ev_val (r : Rp K B d [v]) : Ed K X B (tC v) σ d := fun N s => EvP.val (Rp.mono s r)
theorem ev_int {i : Int} : Ed K X B (tC (.int i)) σ (.int i) := fun N s => ed_int
theorem ev_str {x : Str} : Ed K X B (tC (.str x)) σ (.str x) := fun N s => ed_str
theorem ev_non : Ed K X B (tC .non) σ .non := fun N s => ed_non
theorem ev_bl {b : Bool} : Ed K X B (tC (.bl b)) σ (.bl b) := fun N s => ed_bl
theorem ev_nil : Eds K X B tNil σ .nil := fun N s => EvPs.nil
theorem ev_cons {d r : D} (h : Ed K X B te σ d) (k : Eds K X B ta σ r) : Eds K X B (tCons te ta) σ (.cons d r) := fun N s => ed_cons (h N s) fun N' s' => k N' (s.trans s')
theorem ev_tup {ds : D} (h : Eds K X B ta σ ds) (h1 : ds.isRow = true := by rfl) (h2 : ds.len ≤ 100000 := by first | decide | simp [D.len]) : Ed K X B (tTup ta) σ (.tup ds) := fun N s => ed_tup (h N s) h1 h2
theorem ev_lst {ds : D} (h : Eds K X B ta σ ds) (h1 : ds.isRow = true := by rfl) (h2 : ds.len ≤ 100000 := by first | decide | simp [D.len]) : Ed K X B (tLst ta) σ (.lst ds) := fun N s => ed_lst (h N s) h1 h2
theorem ev_add {i j : Int} (h : Ed K X B te σ (.int i)) (k : Ed K X B tb σ (.int j)) : Ed K X B (tOp (rI0 fun i j => .int (i + j)) te tb) σ (.int (i + j)) := fun N s => ed_add (h N s) fun N' s' => k N' (s.trans s')
theorem ev_sub {i j : Int} (h : Ed K X B te σ (.int i)) (k : Ed K X B tb σ (.int j)) : Ed K X B (tOp (rI0 fun i j => .int (i - j)) te tb) σ (.int (i - j)) := fun N s => ed_sub (h N s) fun N' s' => k N' (s.trans s')
/-- an item of a tuple that stands -/
theorem ev_ixT {a : Addr} {xs : List V} {ds : D} {i : Int} {c : D} {u : V} (hv : Ed K X B te σ (.tup ds)) (hi : Ed K X B tb σ (.int i)) (h : ∀ N xs, Rp K N ds xs → ∃ u, atI xs i = some u ∧ Rp K N c [u]) : Ed K X B (tOp (rIxT K) te tb) σ c := fun N s H1 e o j Q q =>
  hv N s H1 e o j _ fun v d N2 H2 g j2 p r => hi N2 (s.trans g.bn) H2 g.nh (g.offI o j) j2 _ fun w d' N3 H3 g3 j3 p3 r3 => by
    subst p p3
    obtain ⟨a, xs, e1, r1, _, r2⟩ := r
    have e2 : w = .int i := by simpa [Rp] using r3
    obtain ⟨u, h1, h2⟩ := h N3 xs (Rp.mono g3.bn r2)
    exact ⟨a, xs, i, u, (List.cons.inj e1).1, e2, Same.sqT (g3.bn.trans g3.nh) r1, h1, q u c N3 H3 (g.trans g3) j3 rfl h2⟩
theorem ev_ixL {ds : D} {i : Int} {c : D} (hv : Ed K X B te σ (.lst ds)) (hi : Ed K X B tb σ (.int i)) (h : ∀ N xs, Rp K N ds xs → ∃ u, atI xs i = some u ∧ Rp K N c [u]) : Ed K X B (tOp (rIxL K) te tb) σ c := fun N s H1 e o j Q q =>
  hv N s H1 e o j _ fun v d N2 H2 g j2 p r => hi N2 (s.trans g.bn) H2 g.nh (g.offI o j) j2 _ fun w d' N3 H3 g3 j3 p3 r3 => by
    subst p p3
    obtain ⟨a, xs, e1, r1, _, r2⟩ := r
    have e2 : w = .int i := by simpa [Rp] using r3
    obtain ⟨u, h1, h2⟩ := h N3 xs (Rp.mono g3.bn r2)
    exact ⟨a, xs, i, u, (List.cons.inj e1).1, e2, Same.sqL (g3.bn.trans g3.nh) r1, h1, q u c N3 H3 (g.trans g3) j3 rfl h2⟩
/-- a def that makes of trees the tree that f says -/
def SpG (K : PySem.W.Frag) (n : Nat) (pre : D → Prop) (f : D → D) : Sp := SpD K n (fun ds => ds.isRow = true ∧ ds.len = n ∧ pre ds) (fun ds d => d = f ds)
theorem ev_call {ds d : D} {pre : D → Prop} {f : D → D} {E : XK} {n : Nat} (h : Eds K X B ta σ ds) (hp : pre ds) (h1 : ds.isRow = true := by rfl) (h2 : ds.len = n := by rfl) (h3 : f ds = d := by rfl) : Ed K X B (tCall (SpG K n pre f) [] E ta) σ d := fun N s =>
  (EvP.call (h N s) fun d e => by subst e; exact ⟨⟨h1, h2, hp⟩, h1, h2⟩).imp fun _ ⟨_, e, e1⟩ => by rw [e1, e, h3]
theorem ev_tupX {ds : D} (h : Eds K X B ta σ ds) (h1 : ds.isRow = true) (h2 : ds.len ≤ 100000) : Ed K X B (tTup ta) σ (.tup ds) := ev_tup h h1 h2
theorem ev_lstX {ds : D} (h : Eds K X B ta σ ds) (h1 : ds.isRow = true) (h2 : ds.len ≤ 100000) : Ed K X B (tLst ta) σ (.lst ds) := ev_lst h h1 h2
theorem ev_callX {ds d : D} {pre : D → Prop} {f : D → D} {E : XK} {n : Nat} (h : Eds K X B ta σ ds) (hp : pre ds) (h1 : ds.isRow = true) (h2 : ds.len = n) (h3 : f ds = d) : Ed K X B (tCall (SpG K n pre f) [] E ta) σ d := ev_call h hp h1 h2 h3

/-! statements -/
theorem Ed.go {Q : VK} (h : Ed K X B te σ d) (s : Same B H) (o : Off X B) (j : Ints X H) (k : ∀ v N H2, Grow X B H N H2 → Ints X H2 → Rp K N d [v] → Q v H2) : te σ H Q :=
  h B (Same.refl B) H s o j Q fun v d' N H2 g j2 p r => by subst p; exact k v N H2 g j2 r
variable {E : Ends} {rest : TS} {i : Nat}
theorem go_ret (h : Ed K X B te σ d) (s : Same B H) (o : Off X B) (j : Ints X H) (k : ∀ v N H2, Grow X B H N H2 → Ints X H2 → Rp K N d [v] → E.rt v H2) : tRet te E σ H := h.go s o j k
theorem go_asg (h : Ed K X B te σ d) (s : Same B H) (o : Off X B) (j : Ints X H) (e : Env K B l) (k : ∀ v N H2, Grow X B H N H2 → Ints X H2 → Env K N ((v, d) :: l) → rest E (σ.set i (some v)) H2) : tSeq (tAsg te (gName i)) rest E σ H :=
  h.go s o j fun v N H2 g j2 r => k v N H2 g j2 ((e.mono g.bn).add r)
theorem go_next (h : E.nx σ H) : tNext E σ H := h
theorem no_ints : Ints [] H := fun _ h => by cases h
theorem no_off : Off [] B := fun _ h => by cases h
/-- a def's arguments: a row of one, two, three trees -/
theorem row1 {ds : D} {vs : List V} (h : ds.isRow = true ∧ ds.len = 1) (r : Rp K B ds vs) : ∃ a v, ds = .cons a .nil ∧ vs = [v] ∧ Env K B [(v, a)] := by
  obtain ⟨h1, h2⟩ := h
  match ds, h1, h2, r with
  | .cons a .nil, _, _, ⟨v, us, e, r1, r2⟩ =>
    have e2 : us = [] := r2
    subst e e2
    exact ⟨a, v, rfl, rfl, Env.nil.add r1⟩
theorem row2 {ds : D} {vs : List V} (h : ds.isRow = true ∧ ds.len = 2) (r : Rp K B ds vs) : ∃ a b v w, ds = .cons a (.cons b .nil) ∧ vs = [v, w] ∧ Env K B [(v, a), (w, b)] := by
  obtain ⟨h1, h2⟩ := h
  match ds, h1, h2, r with
  | .cons a (.cons b .nil), _, _, ⟨v, us, e, r1, w, us', e', r1', r2⟩ =>
    have e2 : us' = [] := r2
    subst e e' e2
    exact ⟨a, b, v, w, rfl, rfl, (Env.nil.add r1').add r1⟩
theorem row3 {ds : D} {vs : List V} (h : ds.isRow = true ∧ ds.len = 3) (r : Rp K B ds vs) : ∃ a b c v w x, ds = .cons a (.cons b (.cons c .nil)) ∧ vs = [v, w, x] ∧ Env K B [(v, a), (w, b), (x, c)] := by
  obtain ⟨h1, h2⟩ := h
  match ds, h1, h2, r with
  | .cons a (.cons b (.cons c .nil)), _, _, ⟨v, us, e, r1, w, us', e', r1', x, us2, e3, r3, r2⟩ =>
    have e2 : us2 = [] := r2
    subst e e' e3 e2
    exact ⟨a, b, c, v, w, x, rfl, rfl, ((Env.nil.add r3).add r1').add r1⟩
/-- what a def's end asks -/
theorem SpD.len {n : Nat} {pre : D → Prop} {post : D → D → Prop} {vs : List V} {Q : VK} {E : XK} (h : SpD K n pre post vs H Q E) : vs.length = n := by
  obtain ⟨_, _, e, _⟩ := h
  exact e
end
end YF

namespace YF
open PySem PySem.Spec PyProof.Rows L2
section
variable {X : Cx} {C : Addr} {bmB : List Value} {B newId initId : String}
/-- X(), an own exception class without __init__, made of nothing -/
theorem pmk_none {x : Str} {p pos : Pos} (F : ExcBaseFacts B newId initId bmB) (q : PySem.W.excIn X.K C bmB newId = true) (gC : X.mg x = some (.ref C)) (kC : PySem.W.keepIn X.K (.ref C) = true) (r : Raises X (.ref C)) (hg : Gl X x)
    (hdb : (x == ("__debug__" : Str)) = false := by decide) : PMk X (.Call (.Name x p) [] [] pos) (fun _ H Q => Q (.ref C) none H) := fun pins s σ H Q I h => by
  refine wpAny_Call_Name_kw (ld_glob I hg gC (PySem.W.callWith_K0 I.kIn kC ?_) hdb)
  obtain ⟨bm, N, nm, qn, bs, hdct, sn, sub, ab, col, dd, k0, k1, k2, k3, k5, mN, h1, h2, h3, h4⟩ := exc_obj I.kIn q
  exact wpAny_call_exc_subT F h4 h1 h2 h3 (fun h' e hm => mk_of I hm r h (I.hok.gone hm.new)) (Nat.zero_le _)
end
/-- a call of what stands at a place of a list: the def is told by its address -/
def tCallE (te : TE) (S : Addr → Sp → Prop) (E : St → XK) (t : TA) : TE := fun σ H Q => te σ H fun v H1 => ∃ f sp, v = .ref f ∧ S f sp ∧ t σ H1 fun vs H2 => sp vs H2 Q (E σ)
theorem call_sub (e i : Expr) (p2 : Pos) (args : List Expr) (pos : Pos) (env : PySem.Env) : eval (.Call (.Subscript e i p2) args [] pos) env = (do
    callWith pos (← eval (.Subscript e i p2) env) [] (backTo pos (starEach args env)) (backToKw pos (keywordEach [] env))) := rfl
theorem pe_callE {X : Cx} {e0 i0 : Expr} {p2 pos : Pos} {te : TE} {S : Addr → Sp → Prop} {E : St → XK} {e : Expr} {es : List Expr} {t : TA} {CX : CXT} {k : Nat} (he : PE X (.Subscript e0 i0 p2) te)
    (hS : ∀ f sp, S f sp → ∃ (fd : FuncData) (ps : List Str), FnOk X.prog X.w X.K X.mg X.base CX k f fd ps sp ∧ PySem.W.keepIn X.K (.ref f) = true ∧ Binds X.K fd ps []) (hr : Room k X.A) (hx : ∀ σ, PassesAt CX X σ (E σ)) (ha : PA X (e :: es) t)
    (hst : starEach (e :: es) X.env = (false, eval e X.env) :: starEach es X.env := by rfl) (hpl : (backTo pos (starEach es X.env)).any (·.1) = false := by rfl) : PE X (.Call (.Subscript e0 i0 p2) (e :: es) [] pos) (tCallE te S E t) := by
  refine ⟨fun pins s σ H Q I h => ?_⟩
  rw [call_sub]
  refine wpAny_bind (thn (he.run pins s σ H _ I h) fun u s1 ⟨v, H1, I1, r1, f, sp, ev, hs, q⟩ => ?_)
  subst ev
  cases r1
  obtain ⟨fd, ps, F, hk, hb⟩ := hS f sp hs
  refine PySem.W.callWith_K (h₀ := X.base) I1.ok.mod.kin hk (thn (ha.run pos pins s1 σ H1 _ I1 q) fun us s2 ⟨vs, H2, I2, r2, q2⟩ => ⟨I2.kIn, ?_⟩) hst hpl
  exact run_fnS F hr hb (hx σ) I2 r2 q2
end YF

/-! readings that leave the heap as it is: Te gives a value, Tt a truth value -/
namespace YF
open PySem PySem.Spec PyProof.Rows L2
def Te (te : TE) (σ : St) (H : Hp) (v : V) : Prop := ∀ Q : VK, Q v H → te σ H Q
def Tt (t : TT) (σ : St) (H : Hp) (b : Bool) : Prop := ∀ Q : Bool → Hp → Prop, Q b H → t σ H Q
section
variable {K : PySem.W.Frag} {σ : St} {H : Hp} {ta tb te : TE} {t u : TT} {x y z v : V} {a b : Bool} {i j : Int}
theorem te_var {i : Nat} (h : σ[i]? = some (some v)) : Te (tVar i) σ H v := fun Q q => ⟨v, h, q⟩
theorem te_c : Te (tC v) σ H v := fun Q q => q
theorem te_i0 {g : Int → Int → V} (ha : Te ta σ H (.int i)) (hb : Te tb σ H (.int j)) : Te (tOp (rI0 g) ta tb) σ H (g i j) := fun Q q => ha _ (hb _ ⟨i, j, rfl, rfl, q⟩)
theorem te_i {C : Int → Int → Prop} {g : Int → Int → V} (ha : Te ta σ H (.int i)) (hb : Te tb σ H (.int j)) (hc : C i j) : Te (tOp (rI C g) ta tb) σ H (g i j) := fun Q q => ha _ (hb _ ⟨i, j, rfl, rfl, hc, q⟩)
theorem te_eq (ha : Te ta σ H x) (hb : Te tb σ H y) (hs : scal x y = true) : Te (tOp rEq ta tb) σ H (.bl (decide (x = y))) := fun Q q => ha _ (hb _ ⟨hs, q⟩)
theorem te_ne (ha : Te ta σ H x) (hb : Te tb σ H y) (hs : scal x y = true) : Te (tOp rNe ta tb) σ H (.bl (!decide (x = y))) := fun Q q => ha _ (hb _ ⟨hs, q⟩)
theorem te_len {p : Addr} {xs : List V} (ha : Te te σ H (.ref p)) (h : SqL K H p xs ∨ SqT K H p xs) : Te (tCB (fun vs H Q => ∃ p ys, vs = [.ref p] ∧ (SqL K H p ys ∨ SqT K H p ys) ∧ Q (.int ys.length) H) (tCons te tNil)) σ H (.int (xs.length : Int)) := fun Q q => ha _ ⟨p, xs, rfl, h, q⟩
theorem te_lens {w : Str} (ha : Te te σ H (.str w)) (h : w.length ≤ sizeLine) : Te (tCB (fun xs H Q => ∃ z, xs = [V.str z] ∧ z.length ≤ sizeLine ∧ Q (.int z.length) H) (tCons te tNil)) σ H (.int (w.length : Int)) := fun Q q => ha _ ⟨w, rfl, h, q⟩
theorem tt_test (h : Te te σ H (.bl b)) : Tt (tTest te) σ H b := fun Q q => h _ ⟨b, rfl, q⟩
theorem tt_b (h : Te te σ H (.bl b)) : Tt (tB te) σ H b := fun Q q => h _ ⟨b, rfl, q⟩
theorem tt_and (h1 : Tt t σ H a) (h2 : a = true → Tt u σ H b) : Tt (tAnd t u) σ H (a && b) := fun Q q => h1 _ (by
  cases a with
  | true => exact h2 rfl Q q
  | false => exact q)
theorem tt_or (h1 : Tt t σ H a) (h2 : a = false → Tt u σ H b) : Tt (tOr t u) σ H (a || b) := fun Q q => h1 _ (by
  cases a with
  | true => exact q
  | false => exact h2 rfl Q q)
theorem tt_not (h : Tt t σ H a) : Tt (tNot t) σ H (!a) := fun Q q => h _ q
variable {D : Ends} {tu tw rest : TS}
theorem if_go (h : Tt t σ H b) (h1 : b = true → tu D σ H) (h2 : b = false → tw D σ H) : tIfS t tu tw D σ H := h _ (by
  cases b with
  | true => exact h1 rfl
  | false => exact h2 rfl)
/-- if t: (leaves); then the rest -/
theorem if_seq (h : Tt t σ H b) (h1 : b = true → tu { D with nx := rest D } σ H) (h2 : b = false → rest D σ H) : tSeq (tIfS t tu tNext) rest D σ H := if_go h h1 h2
theorem ret_te (h : Te te σ H v) (k : D.rt v H) : tRet te D σ H := h _ k
theorem asg_te {i : Nat} (h : Te te σ H v) (k : rest D (σ.set i (some v)) H) : tSeq (tAsg te (gName i)) rest D σ H := h _ k
end
end YF

/-! methods and makings that may raise within a try: what is wanted of the raised thing may hang on the slots -/
namespace YF
open PySem PySem.Spec PyProof.Rows L2
def tMethE (m : Str) (sp : Sp) (E : St → XK) (to : TE) (t : TA) : TE := fun σ H Q => to σ H fun x H1 => ∃ a C dx fs, x = .ref a ∧ H1 a = some (.ins C dx fs) ∧ fs.lookup m = none ∧ t σ H1 fun vs H2 => sp (x :: vs) H2 Q (E σ)
def tMethC (C : Addr) (m : Str) (sp : Sp) (E : St → XK) (to : TE) (t : TA) : TE := fun σ H Q => to σ H fun x H1 =>
  ∃ a dx fs, x = .ref a ∧ H1 a = some (.ins C dx fs) ∧ fs.lookup m = none ∧ t σ H1 fun vs H2 => sp (x :: vs) H2 Q (E σ)
def tMakeE (C : Addr) (sp : Sp) (E : St → XK) (t : TA) : TE := fun σ H Q => t σ H fun vs H1 =>
  ∀ x dx, H1 x = none → H1 dx = none → dx ≠ x → sp (.ref x :: vs) (upd (upd H1 dx (.own x)) x (.ins C dx [])) (fun v H2 => v = .non ∧ Q (.ref x) H2) (E σ)
section
variable {X : Cx} {CX : CXT} {k : Nat} {f C : Addr} {fd : FuncData} {ps : List Str} {sp : Sp} {E : St → XK} {x m : Str} {p pos apos : Pos} {e o : Expr} {es : List Expr} {to : TE} {t : TA}
theorem pe_methE {pl : Sem Bool} (he : PE X o to) (c : Cls X.K C) (hm : Meth X.K C m f) (F : FnOk X.prog X.w X.K X.mg X.base CX k f fd ps sp) (hr : Room k X.A) (hb : Binds X.K fd ps []) (hx : ∀ σ, PassesAt CX X σ (E σ)) (ha : PA X (e :: es) t)
    (hst : starEach (e :: es) X.env = (false, eval e X.env) :: starEach es X.env := by rfl)
    (hpl : (backTo pos (starEach es X.env)).any (·.1) = false := by rfl)
    (ht : eval (.Call (.Attribute o m apos) (e :: es) [] pos) X.env = (eval o X.env >>= fun ov => standAt apos.atName >>= fun _ =>
      holding [ov] (getMethod ov m pl) >>= fun g => callWith pos g.1 g.2 (backTo pos (starEach (e :: es) X.env)) (backToKw pos (keywordEach [] X.env))) := by rfl) :
    PE X (.Call (.Attribute o m apos) (e :: es) [] pos) (tMethC C m sp E to t) := by
  constructor
  intro pins s σ H Q I h
  refine PySem.W.methodCall_KW (pl := pl) (thn (he.run pins s σ H _ I h) fun u s1 hh => ?_) ht
  obtain ⟨x, H1, I1, rx, a, dx, fs, ex, ea, l, q⟩ := hh
  subst ex
  cases rx
  refine getmeth_ok I1 ea c hm l ?_
  refine PySem.W.callWith_K (first := [.ref a]) (h₀ := X.base) I.ok.mod.kin hm.kp ?_ hst hpl
  refine thn (ha.run pos pins s1 σ H1 _ I1 q) fun us s2 hq => ?_
  obtain ⟨vs, H2, I2, r, q2⟩ := hq
  exact ⟨I2.kIn, run_fnS (us := .ref a :: us) (vs := .ref a :: vs) F hr hb (hx σ) I2 (.cons rfl r) q2⟩
theorem run_makeE {pins : List (Addr × Obj)} {σ : St} {H : Hp} {s : Shared} {Q : VK} {us : List Value} {vs : List V} (M : Mk X.K C f) (F : FnOk X.prog X.w X.K X.mg X.base CX k f fd ps sp) (hr : Room (k + 1) X.A) (hb : Binds X.K fd ps [])
    (hx : PassesAt CX X σ (E σ)) (I : Inv X pins σ H s) (r : Vals vs us)
    (h : ∀ x dx, H x = none → H dx = none → dx ≠ x → sp (.ref x :: vs) (upd (upd H dx (.own x)) x (.ins C dx [])) (fun v H2 => v = .non ∧ Q (.ref x) H2) (E σ)) :
    wpAny (model X.prog X.w) X.A (call (.ref C) us) (EP X pins σ Q) X.xe s := by
  have n0 := I.hok.fresh (Nat.le_succ s.heap.objs.size)
  have n1 := I.hok.fresh (Nat.le_refl s.heap.objs.size)
  have hq := h _ _ n0 n1 (Nat.ne_of_lt (Nat.lt_succ_self _))
  have J := Inv.made (C := C) I
  have r2 : Vals (V.ref (s.heap.objs.size + 1) :: vs) (Value.ref (s.heap.objs.size + 1) :: us) := .cons rfl r
  have hl : (Value.ref (s.heap.objs.size + 1) :: us).length = ps.length := by
    rw [← r2.length]
    exact F.len _ _ _ _ hq
  have b := hb _ (Value.ref (s.heap.objs.size + 1) :: us) J.kIn (by rw [List.append_nil]; exact hl)
  rw [List.append_nil] at b
  refine wpAny_call (make_map (f := f) I.kIn M.makes M.init (beq_iff_eq.mp M.fn) (codeAny_mono (F.run _ X.stack _ _ ⟨Value.ref (s.heap.objs.size + 1) :: us, []⟩ _ _ _ (E σ) (hr.make C us []) (J.env0.make C us []) b r2 hq) fun z s' w => ?_))
  cases z with
  | error er => exact hx pins _ _ er s' J w
  | ok fl =>
    cases fl with
    | ret u =>
      obtain ⟨v, H', J3, rv, ev, q3⟩ := J.after w
      subst ev
      exact ⟨rv, V.ref (s.heap.objs.size + 1), H', J3, rfl, q3⟩
    | next => exact w.elim
    | brk => exact w.elim
    | cont => exact w.elim
theorem pe_makeE (M : Mk X.K C f) (F : FnOk X.prog X.w X.K X.mg X.base CX k f fd ps sp) (hr : Room (k + 1) X.A) (hg : Gl X x) (hm : X.mg x = some (.ref C)) (hb : Binds X.K fd ps []) (hx : ∀ σ, PassesAt CX X σ (E σ)) (ha : PA X (e :: es) t)
    (hdb : (x == ("__debug__" : Str)) = false := by decide) (he : starEach (e :: es) X.env = (false, eval e X.env) :: starEach es X.env := by rfl)
    (hpl : (backTo pos (starEach es X.env)).any (·.1) = false := by rfl) : PE X (.Call (.Name x p) (e :: es) [] pos) (tMakeE C sp E t) := by
  constructor
  intro pins s σ H Q I h
  refine wpAny_Call_Name_kw (ld_glob I hg hm ?_ hdb)
  refine PySem.W.callWith_K (h₀ := X.base) I.ok.mod.kin M.kp ?_ he hpl
  refine thn (ha.run pos pins s σ H _ I h) fun us s1 hq => ?_
  obtain ⟨vs, H1, I1, r, q⟩ := hq
  exact ⟨I1.kIn, run_makeE M F hr hb (hx σ) I1 r q⟩
end
end YF

/-! more readings that leave the heap as it is, and stores told by their heap -/
namespace YF
open PySem PySem.Spec PyProof.Rows L2
/-- arguments that leave the heap as it is -/
def Ta (ta : TA) (σ : St) (H : Hp) (vs : List V) : Prop := ∀ Q : List V → Hp → Prop, Q vs H → ta σ H Q
/-- a promise kept without a change: v is given back -/
def Gives (sp : Sp) (vs : List V) (H : Hp) (v : V) (E : XK) : Prop := ∀ Q : VK, Q v H → sp vs H Q E
theorem lk_here {k f : Str} {v : V} {r : List (Str × V)} (h : (f == k) = true) : List.lookup f ((k, v) :: r) = some v := by
  rw [List.lookup_cons, h]
theorem lk_on {k f : Str} {v : V} {r : List (Str × V)} (h : (f == k) = false) : List.lookup f ((k, v) :: r) = List.lookup f r := by
  rw [List.lookup_cons, h]
theorem pf_here {k f : Str} {v u : V} {r : List (Str × V)} (h : k = f) : putF f u ((k, v) :: r) = (k, u) :: r := by
  show (if k = f then (k, u) :: r else (k, v) :: putF f u r) = _
  rw [if_pos h]
theorem pf_on {k f : Str} {v u : V} {r : List (Str × V)} (h : ¬ k = f) : putF f u ((k, v) :: r) = (k, v) :: putF f u r := by
  show (if k = f then (k, u) :: r else (k, v) :: putF f u r) = _
  rw [if_neg h]
section
variable {K : PySem.W.Frag} {σ : St} {H : Hp} {ta tb tc te to : TE} {t : TA} {x y z v : V} {i j : Int} {p C dx : Addr} {fs : List (Str × V)} {xs vs : List V} {f m : Str} {sp : Sp} {E : XK}
theorem ta_nil : Ta tNil σ H [] := fun Q q => q
theorem ta_cons (ha : Te te σ H v) (hb : Ta t σ H vs) : Ta (tCons te t) σ H (v :: vs) := fun Q q => ha _ (hb _ q)
theorem te_ixL (ha : Te ta σ H (.ref p)) (hb : Te tb σ H (.int i)) (h : SqL K H p xs) (e : atI xs i = some v) : Te (tOp (rIxL K) ta tb) σ H v := fun Q q => ha _ (hb _ ⟨p, xs, i, v, rfl, rfl, h, e, q⟩)
theorem te_ixT {p : Addr} (ha : Te ta σ H (.ref p)) (hb : Te tb σ H (.int i)) (h : SqT K H p xs) (e : atI xs i = some v) : Te (tOp (rIxT K) ta tb) σ H v := fun Q q => ha _ (hb _ ⟨p, xs, i, v, rfl, rfl, h, e, q⟩)
theorem te_fld (ha : Te ta σ H (.ref p)) (h : H p = some (.ins C dx fs)) (c : Cls K C) (n : NoAttr K C f) (l : fs.lookup f = some v) : Te (tFld K ta f) σ H v := fun Q q => ha _ ⟨p, C, dx, fs, v, rfl, h, c, n, l, q⟩
theorem te_dgetI {kvs : List (Key × V)} (ha : Te ta σ H (.ref p)) (hb : Te tb σ H (.int i)) (h : H p = some (.dK kvs)) (e : valV kvs (.inl i : Key) = some v) : Te (tDGet ta tb) σ H v := fun Q q =>
  ha _ (hb _ ⟨p, v, rfl, by rw [← e]; exact DGet.k (k := (.inl i : Key)) h, q⟩)
theorem te_dgetS {kvs : List (Key × V)} {s : Str} (ha : Te ta σ H (.ref p)) (hb : Te tb σ H (.str s)) (h : H p = some (.dK kvs)) (e : valV kvs (.inr s : Key) = some v) : Te (tDGet ta tb) σ H v := fun Q q =>
  ha _ (hb _ ⟨p, v, rfl, by rw [← e]; exact DGet.k (k := (.inr s : Key)) h, q⟩)
theorem te_dget1I {kvs : List (Key × V)} (ha : Te ta σ H (.ref p)) (hb : Te tb σ H (.int i)) (h : H p = some (.dK kvs)) (d : IsD H p) : Te (tDGet1 ta tb) σ H ((valV kvs (.inl i : Key)).getD .non) := fun Q q =>
  ha _ ⟨p, rfl, d, hb _ ⟨_, DGet.k (k := (.inl i : Key)) h, q⟩⟩
theorem te_dget2I {kvs : List (Key × V)} (ha : Te ta σ H (.ref p)) (hb : Te tb σ H (.int i)) (hc : Te tc σ H z) (h : H p = some (.dK kvs)) (d : IsD H p) : Te (tDGet2 ta tb tc) σ H ((valV kvs (.inl i : Key)).getD z) := fun Q q =>
  ha _ ⟨p, rfl, d, hb _ (hc _ ⟨_, DGet.k (k := (.inl i : Key)) h, q⟩)⟩
theorem te_isN (ha : Te ta σ H x) : Te (tOp (fun x y H Q => y = .non ∧ Q (.bl (decide (x = .non))) H) ta (tC .non)) σ H (.bl (decide (x = .non))) := fun Q q => ha _ ⟨rfl, q⟩
theorem te_notN (ha : Te ta σ H x) : Te (tOp (fun x y H Q => y = .non ∧ Q (.bl (!decide (x = .non))) H) ta (tC .non)) σ H (.bl (!decide (x = .non))) := fun Q q => ha _ ⟨rfl, q⟩
theorem te_int1 (ha : Te ta σ H (.int i)) : Te (tCB (fun xs H Q => (∃ i, xs = [.int i] ∧ Q (.int i) H) ∨ ∃ k, xs = [.bl k] ∧ Q (.int (if k then 1 else 0)) H) (tCons ta tNil)) σ H (.int i) := fun Q q => ha _ (.inl ⟨i, rfl, q⟩)
theorem te_int1b {b : Bool} (ha : Te ta σ H (.bl b)) : Te (tCB (fun xs H Q => (∃ i, xs = [.int i] ∧ Q (.int i) H) ∨ ∃ k, xs = [.bl k] ∧ Q (.int (if k then 1 else 0)) H) (tCons ta tNil)) σ H (.int (if b then 1 else 0)) := fun Q q => ha _ (.inr ⟨b, rfl, q⟩)
theorem te_call (ha : Ta t σ H vs) (g : Gives sp vs H v E) : Te (tCall sp [] E t) σ H v := fun Q q => ha _ (by
  show sp (vs ++ []) H Q E
  rw [List.append_nil]
  exact g Q q)
theorem te_meth (ha : Te to σ H (.ref p)) (h : H p = some (.ins C dx fs)) (l : fs.lookup m = none) (hb : Ta t σ H vs) (g : Gives sp (.ref p :: vs) H v E) : Te (tMeth C m sp [] E to t) σ H v := fun Q q => ha _ ⟨p, dx, fs, rfl, h, l, hb _ (by
  show sp (.ref p :: (vs ++ [])) H Q E
  rw [List.append_nil]
  exact g Q q)⟩
theorem te_andV {a b : Bool} (ha : Te ta σ H (.bl a)) (hb : a = true → Te tb σ H (.bl b)) : Te (tAndV ta tb) σ H (.bl (a && b)) := fun Q q => ha _ ⟨a, rfl, by
  cases a with
  | true => exact hb rfl Q q
  | false => exact q⟩
theorem te_orV {a b : Bool} (ha : Te ta σ H (.bl a)) (hb : a = false → Te tb σ H (.bl b)) : Te (tOrV ta tb) σ H (.bl (a || b)) := fun Q q => ha _ ⟨a, rfl, by
  cases a with
  | true => exact q
  | false => exact hb rfl Q q⟩
theorem te_notV {a : Bool} (ha : Te ta σ H (.bl a)) : Te (tNotV ta) σ H (.bl (!a)) := fun Q q => ha _ ⟨a, rfl, q⟩
theorem tt_true {b : Bool} (h : Te te σ H (.bl b)) : Tt (tTest te) σ H b := tt_test h
variable {D : Ends} {rest : TS}
/-- a[k] = e, a list -/
theorem st_lst {q j : Nat} {k : Int} (h : Te te σ H v) (hp : Te to σ H (.ref p)) (hi : Te ta σ H (.int k)) (e : H p = some (.lst xs)) (hk : ixN xs.length k = some j) (r : rest D σ (upd H p (.lst (xs.set j v)))) :
    tSeq (tAsg te (gSub to ta rSetL)) rest D σ H := h _ (hp _ (hi _ ⟨p, xs, k, j, rfl, rfl, e, hk, r⟩))
theorem st_fld (h : Te te σ H v) (hp : Te to σ H (.ref p)) (e : H p = some (.ins C dx fs)) (c : Cls K C) (n : NoAttr K C f) (l : fs.length < 1000) (r : rest D σ (upd H p (.ins C dx (putF f v fs)))) :
    tSeq (sFld K to te f) rest D σ H := h _ (hp _ ⟨p, C, dx, fs, rfl, e, c, n, l, r⟩)
theorem st_dputI {kvs : List (Key × V)} (h : Te te σ H v) (hp : Te to σ H (.ref p)) (hi : Te ta σ H (.int i)) (e : H p = some (.dK kvs)) (l : kvs.length < sizeLine) (r : D.nx σ (upd H p (.dK (putK kvs (.inl i : Key) v)))) :
    sDPut to ta te D σ H := h _ (hp _ (hi _ ⟨p, _, rfl, DPut.k (k := (.inl i : Key)) e l, r⟩))
theorem st_dputS {kvs : List (Key × V)} {s : Str} (h : Te te σ H v) (hp : Te to σ H (.ref p)) (hi : Te ta σ H (.str s)) (e : H p = some (.dK kvs)) (l : kvs.length < sizeLine) (r : D.nx σ (upd H p (.dK (putK kvs (.inr s : Key) v)))) :
    sDPut to ta te D σ H := h _ (hp _ (hi _ ⟨p, _, rfl, DPut.k (k := (.inr s : Key)) e l, r⟩))
theorem sq_go {t u : TS} (h : t { D with nx := u D } σ H) : tSeq t u D σ H := h
end
end YF

/-! what stays but for what stands at some addresses; dicts from ints to ints -/
namespace YF
open PySem PySem.Spec PyProof.Rows L2
/-- nothing but what stands at addresses of X is otherwise -/
def Fr (X : List Addr) (H H' : Hp) : Prop := ∀ b o, b ∉ X → H b = some o → H' b = some o
/-- the part that stays -/
def kp (X : List Addr) (H : Hp) : Hp := fun b => if b ∈ X then none else H b
section
variable {X Y : List Addr} {H H1 H2 H' : Hp} {a b : Addr} {o u : HO}
theorem Fr.refl : Fr X H H := fun _ _ _ h => h
theorem Fr.trans (s : Fr X H H1) (t : Fr X H1 H2) : Fr X H H2 := fun b o n h => t b o n (s b o n h)
theorem Fr.of (s : Same H H') : Fr X H H' := fun b o _ h => s b o h
theorem Fr.more (s : Fr X H H') (h : ∀ a ∈ X, a ∈ Y) : Fr Y H H' := fun b o n e => s b o (fun m => n (h b m)) e
theorem Fr.new (s : Fr X H H') (h : H' a = none) : Fr X H (upd H' a o) := fun b u n e => by
  have q := s b u n e
  rw [upd_ne (ne_of_none q h)]
  exact q
theorem Fr.wr (s : Fr X H H') (h : a ∈ X) : Fr X H (upd H' a o) := fun b u n e => by
  rw [upd_ne (fun z => n (by rw [z]; exact h))]
  exact s b u n e
theorem Fr.less (s : Fr (a :: X) H H') (h : H a = none) : Fr X H H' := fun b u n e => s b u (fun m => by
  rcases List.mem_cons.mp m with m | m
  · rw [m, h] at e
    cases e
  · exact n m) e
theorem Fr.same (s : Fr [] H H') : Same H H' := fun b u e => s b u (by simp) e
theorem kp_in (h : a ∈ X) : kp X H a = none := if_pos h
theorem kp_out (h : a ∉ X) : kp X H a = H a := if_neg h
theorem kp_at (e : H a = some o) (h : a ∉ X) : kp X H a = some o := by rw [kp_out h, e]
theorem kp_some (e : kp X H a = some o) : a ∉ X ∧ H a = some o := by
  by_cases h : a ∈ X
  · rw [kp_in h] at e
    cases e
  · rw [kp_out h] at e
    exact ⟨h, e⟩
theorem kp_none (e : H a = none) : kp X H a = none := by
  by_cases h : a ∈ X
  · exact kp_in h
  · rw [kp_out h, e]
theorem kp_sub : Same (kp X H) H := fun _ _ e => (kp_some e).2
theorem Fr.kp (s : Fr X H H') : Same (kp X H) (kp X H') := fun b o e => kp_at (s b o (kp_some e).1 (kp_some e).2) (kp_some e).1
theorem Fr.base (s : Fr X H H') : Same (YF.kp X H) H' := fun b o e => s b o (kp_some e).1 (kp_some e).2
theorem kp_more (h : ∀ a ∈ X, a ∈ Y) : Same (YF.kp Y H) (YF.kp X H) := fun b o e => kp_at (kp_some e).2 fun m => (kp_some e).1 (h b m)
theorem Same.kpX {B : Hp} (s : Same B H) (h : ∀ a ∈ X, B a = none) : Same B (YF.kp X H) := fun b o e => kp_at (s b o e) fun m => by
  rw [h b m] at e
  cases e
theorem kp_nil : kp [] H = H := funext fun b => kp_out (by simp)
end
/-! a list of ints -/
def Row (H : Hp) (p : Addr) : Prop := ∃ ns : List Int, H p = some (.lst (ns.map V.int))
section
variable {H : Hp} {p a : Addr} {o : HO}
theorem Row.ne (r : Row H p) (h : H a = none) : a ≠ p := by
  obtain ⟨ns, e⟩ := r
  exact (ne_of_none e h).symm
theorem Row.upd (r : Row H p) (h : a ≠ p) : Row (upd H a o) p := by
  obtain ⟨ns, e⟩ := r
  exact ⟨ns, by rw [upd_ne h.symm]; exact e⟩
theorem Row.new (r : Row H p) (h : H a = none) : Row (L2.upd H a o) p := r.upd (r.ne h)
theorem Row.same {H' : Hp} (r : Row H p) (s : Same H H') : Row H' p := by
  obtain ⟨ns, e⟩ := r
  exact ⟨ns, s _ _ e⟩
end
/-! two rows of one length -/
theorem paired_len {α β : Type} {F : α → β → Prop} {l : List α} {vs : List β} (h : Paired F l vs) : vs.length = l.length := by
  induction h with
  | nil => rfl
  | cons _ _ ih => simp [ih]
theorem paired_snoc {α β : Type} {F : α → β → Prop} : ∀ {l : List α} {vs : List β} {x : α} {v : β}, Paired F l vs → F x v → Paired F (l ++ [x]) (vs ++ [v])
  | [], [], _, _, .nil, h => .cons h .nil
  | _ :: _, _ :: _, _, _, .cons h t, k => .cons h (paired_snoc t k)
theorem paired_at {α β : Type} {F : α → β → Prop} : ∀ {l : List α} {vs : List β} {i : Nat} {x : α}, Paired F l vs → l[i]? = some x → ∃ v, vs[i]? = some v ∧ F x v
  | a :: _, b :: _, 0, x, .cons h _, e => by
    have e2 : a = x := by simpa using e
    exact ⟨b, rfl, by rw [← e2]; exact h⟩
  | _ :: l, _ :: vs, i + 1, x, .cons _ t, e => by
    obtain ⟨v, h1, h2⟩ := paired_at (i := i) (x := x) t (by simpa using e)
    exact ⟨v, by simpa using h1, h2⟩
theorem paired_at2 {α β : Type} {F : α → β → Prop} : ∀ {l : List α} {vs : List β} {i : Nat} {v : β}, Paired F l vs → vs[i]? = some v → ∃ x, l[i]? = some x ∧ F x v
  | [], [], i, v, .nil, e => by simp at e
  | a :: _, b :: _, 0, v, .cons h _, e => by
    have e2 : b = v := by simpa using e
    exact ⟨a, rfl, by rw [← e2]; exact h⟩
  | _ :: l, _ :: vs, i + 1, v, .cons _ t, e => by
    obtain ⟨x, h1, h2⟩ := paired_at2 (i := i) (v := v) t (by simpa using e)
    exact ⟨x, by simpa using h1, h2⟩
/-- the same rows in another order -/
theorem paired_perm {α β : Type} {F : α → β → Prop} {l l' : List α} (p : l'.Perm l) : ∀ {vs : List β}, Paired F l vs → ∃ vs', vs'.Perm vs ∧ Paired F l' vs' := by
  induction p with
  | nil =>
    intro vs h
    exact ⟨vs, .refl _, h⟩
  | cons x p ih =>
    intro vs h
    cases h with
    | cons h t =>
      obtain ⟨ws, p1, h1⟩ := ih t
      exact ⟨_, .cons _ p1, .cons h h1⟩
  | swap x y l =>
    intro vs h
    cases h with
    | cons h t =>
      cases t with
      | cons h2 t => exact ⟨_, .swap _ _ _, .cons h2 (.cons h t)⟩
  | trans p q ih1 ih2 =>
    intro vs h
    obtain ⟨ws, p1, h1⟩ := ih2 h
    obtain ⟨ws2, p2, h2⟩ := ih1 h1
    exact ⟨ws2, p2.trans p1, h2⟩
/-! dicts from ints to ints -/
abbrev Mp := List (Int × Int)
def kvI (l : Mp) : List (Key × V) := l.map fun q => (.inl q.1, .int q.2)
def getI (l : Mp) (i : Int) : Option Int := (l.find? fun q => decide (q.1 = i)).map (·.2)
def putI (l : Mp) (i x : Int) : Mp := if (l.any fun q => decide (q.1 = i)) = true then l.map (fun q => if q.1 = i then (q.1, x) else q) else l ++ [(i, x)]
theorem keyI {i j : Int} : ((Sum.inl i : Key) = .inl j) ↔ i = j := ⟨fun h => Sum.inl.inj h, fun h => by rw [h]⟩
theorem valV_kvI (i : Int) : ∀ l : Mp, valV (kvI l) (.inl i : Key) = (getI l i).map V.int
  | [] => rfl
  | q :: r => by
    have ih := valV_kvI i r
    by_cases h : q.1 = i
    · rw [show kvI (q :: r) = (.inl q.1, .int q.2) :: kvI r from rfl, valV_pos (keyI.mpr h)]
      simp [getI, h]
    · rw [show kvI (q :: r) = (.inl q.1, .int q.2) :: kvI r from rfl, valV_neg (fun z => h (keyI.mp z)), ih]
      simp [getI, h]
theorem putK_kvI {l : Mp} {i x : Int} : putK (kvI l) (.inl i : Key) (.int x) = kvI (putI l i x) := by
  have e : ((kvI l).any fun kv => decide (kv.1 = (.inl i : Key))) = l.any fun q => decide (q.1 = i) := by
    unfold kvI
    rw [List.any_map]
    refine congrArg (fun f => List.any l f) (funext fun q => ?_)
    simp [keyI]
  unfold putK putI
  rw [e]
  by_cases h : (l.any fun q => decide (q.1 = i)) = true
  · rw [if_pos h, if_pos h]
    unfold kvI
    rw [List.map_map, List.map_map]
    refine List.map_congr_left fun q _ => ?_
    by_cases h2 : q.1 = i
    · simp [h2]
    · simp [h2]
  · rw [if_neg h, if_neg h]
    unfold kvI
    rw [List.map_append]
    rfl
theorem getI_mem {l : Mp} {i x : Int} (h : getI l i = some x) : (i, x) ∈ l := by
  unfold getI at h
  cases e : l.find? fun q => decide (q.1 = i) with
  | none =>
    rw [e] at h
    cases h
  | some q =>
    rw [e] at h
    have h1 := List.find?_some e
    have h2 := List.mem_of_find?_eq_some e
    have h3 : q.2 = x := by simpa using h
    have h4 : q.1 = i := by simpa using h1
    rw [← h3, ← h4]
    exact h2
theorem getI_of {l : Mp} (n : (l.map (·.1)).Nodup) {i x : Int} (h : (i, x) ∈ l) : getI l i = some x := by
  induction l with
  | nil => cases h
  | cons q r ih =>
    rw [List.map_cons, List.nodup_cons] at n
    unfold getI
    rcases List.mem_cons.mp h with h | h
    · rw [← h]
      simp
    · have h2 : ¬ q.1 = i := fun z => n.1 (List.mem_map.mpr ⟨_, h, z.symm⟩)
      have h3 := ih n.2 h
      unfold getI at h3
      rw [List.find?_cons_of_neg (by simpa using h2)]
      exact h3
theorem putI_mem {l : Mp} {i x : Int} {q : Int × Int} (h : q ∈ putI l i x) : q ∈ l ∨ q = (i, x) := by
  unfold putI at h
  split at h
  · obtain ⟨r, h1, h2⟩ := List.mem_map.mp h
    by_cases z : r.1 = i
    · rw [if_pos z] at h2
      exact .inr (by rw [← h2, z])
    · rw [if_neg z] at h2
      exact .inl (by rw [← h2]; exact h1)
  · rcases List.mem_append.mp h with h | h
    · exact .inl h
    · exact .inr (List.mem_singleton.mp h)
theorem putI_nodup {l : Mp} {i x : Int} (n : (l.map (·.1)).Nodup) : ((putI l i x).map (·.1)).Nodup := by
  unfold putI
  split
  · have e : (l.map fun q => if q.1 = i then (q.1, x) else q).map (·.1) = l.map (·.1) := by
      rw [List.map_map]
      refine List.map_congr_left fun q _ => ?_
      by_cases z : q.1 = i
      · simp [z]
      · simp [z]
    rw [e]
    exact n
  · rename_i h
    rw [List.map_append, List.nodup_append]
    refine ⟨n, by simp, fun a h1 b h2 z => h ?_⟩
    obtain ⟨q, h3, h4⟩ := List.mem_map.mp h1
    have h5 : b = i := by simpa using h2
    exact List.any_eq_true.mpr ⟨q, h3, by simp [h4, z, h5]⟩
theorem putI_len {l : Mp} {i x : Int} : (putI l i x).length ≤ l.length + 1 := by
  unfold putI
  split
  · simp
  · simp
/-- keys from 0 to n, none twice, few -/
structure OkD (n m : Nat) (l : Mp) : Prop where
  key : ∀ q ∈ l, 0 ≤ q.1 ∧ q.1 < n
  nod : (l.map (·.1)).Nodup
  len : l.length ≤ m
theorem OkD.nil {n m : Nat} : OkD n m [] := ⟨fun q h => (by cases h), by simp, Nat.zero_le _⟩
theorem OkD.put {n m : Nat} {l : Mp} {i x : Int} (h : OkD n m l) (h0 : 0 ≤ i) (h1 : i < n) : OkD n (m + 1) (putI l i x) :=
  ⟨fun q hq => by
    rcases putI_mem hq with hq | hq
    · exact h.key q hq
    · rw [hq]
      exact ⟨h0, h1⟩, putI_nodup h.nod, Nat.le_trans putI_len (Nat.succ_le_succ h.len)⟩
theorem OkD.more {n m m' : Nat} {l : Mp} (h : OkD n m l) (k : m ≤ m') : OkD n m' l := ⟨h.key, h.nod, Nat.le_trans h.len k⟩
/-! what is read in a comprehension, by K -/
@[reducible] def rLenS (K : PySem.W.Frag) : List V → Hp → VK → Prop := fun vs H Q => ∃ p ys, vs = [.ref p] ∧ (SqL K H p ys ∨ SqT K H p ys) ∧ Q (.int ys.length) H
/-! terms -/
section
variable {K : PySem.W.Frag} {σ : St} {H : Hp} {ta tb tc te : TE} {p : Addr} {i : Int} {l : Mp}
theorem te_getI {x : Int} (ha : Te ta σ H (.ref p)) (hb : Te tb σ H (.int i)) (h : H p = some (.dK (kvI l))) (e : getI l i = some x) : Te (tDGet ta tb) σ H (.int x) :=
  te_dgetI ha hb h (by rw [valV_kvI, e]; rfl)
theorem te_getF {x : Int} {od : Obj} (ha : Te ta σ H (.ref p)) (hb : Te tb σ H (.int i)) (h : H p = some (.frz od (.dK (kvI l)))) (e : getI l i = some x) : Te (tDGet ta tb) σ H (.int x) := fun Q q =>
  ha _ (hb _ ⟨p, _, rfl, .inl ⟨kvI l, .inl i, .inr ⟨_, h⟩, rfl, by rw [valV_kvI, e]; rfl⟩, q⟩)
theorem st_putI {D : Ends} {x : Int} (h : Te te σ H (.int x)) (hp : Te ta σ H (.ref p)) (hi : Te tb σ H (.int i)) (e : H p = some (.dK (kvI l))) (hl : l.length < sizeLine) (r : D.nx σ (upd H p (.dK (kvI (putI l i x))))) :
    sDPut ta tb te D σ H := st_dputI h hp hi e (by unfold kvI; rw [List.length_map]; exact hl) (by rw [putK_kvI]; exact r)
end
/-! loops and comprehensions over whatever is walked -/
section
variable {K : PySem.W.Frag} {σ : St} {H : Hp} {te : TE} {a d : Addr} {xs : List V} {J : It} {wi : TI} {g : TG} {tb : TS} {D : Ends} {n : Nat} {G : Hp → Prop} {Y : Nat → Hp → V → Hp → Prop} {kvs : List (Key × V)} {o : Obj}
theorem Tt.go {t : TT} {b : Bool} {Q : Bool → Hp → Prop} (h : Tt t σ H b) (k : Q b H) : t σ H Q := h Q k
theorem Te.go {v : V} {Q : VK} (h : Te te σ H v) (k : Q v H) : te σ H Q := h Q k
/-- what is walked, the heap as it was -/
def Ti (wi : TI) (σ : St) (H : Hp) (J : It) : Prop := ∀ R : It → Hp → Prop, R J H → wi σ H R
theorem ti_rng {m : Int} (h : Te te σ H (.int m)) (h0 : 0 ≤ m) (h1 : m ≤ 100000) : Ti (iRng1 (tCons te tNil)) σ H (Itr 0 m.toNat) := fun R q => h _ ⟨m, rfl, by omega, by omega, q⟩
theorem ti_rngN (h : Te te σ H (.int (n : Int))) (h1 : n ≤ 100000) : Ti (iRng1 (tCons te tNil)) σ H (Itr 0 n) := fun R q => h _ ⟨(n : Int), rfl, by omega, by omega, q⟩
theorem ti_list (h : Te te σ H (.ref a)) (hs : SqL K H a xs) : Ti (iList K te) σ H (Itl K a) := fun R q => h _ ⟨a, rfl, ⟨xs, hs⟩, q⟩
theorem ti_enum (h : Te te σ H (.ref a)) (hs : SqL K H a xs) : Ti (iEnum K (tCons te tNil)) σ H (Ite K a) := fun R q => h _ ⟨a, xs, rfl, hs, q⟩
theorem ti_items (h : Te te σ H (.ref d)) (e : H d = some (.frz o (.dK kvs))) : Ti (iItems te) σ H (Iti d o kvs) := fun R q => h _ ⟨d, o, kvs, rfl, e, q⟩
theorem ti_keys (h : Te te σ H (.ref d)) (e : H d = some (.frz o (.dK kvs))) : Ti (iKeys te) σ H (Itk d o kvs) := fun R q => h _ ⟨d, o, rfl, .inl ⟨kvs, e, q⟩⟩
theorem for_go (t : Ti wi σ H J) (w : Walk J n G Y) (Pv : Nat → St → Hp → Prop) (h0 : Pv 0 σ H) (hG : ∀ i σ H, i ≤ n → Pv i σ H → G H)
    (hs : ∀ i x σ H H', i < n → Pv i σ H → Y i H x H' → g x σ H' fun σ2 H2 => tb { D with nx := Pv (i + 1), ct := Pv (i + 1), bk := D.nx } σ2 H2) (hd : ∀ σ H, Pv n σ H → D.nx σ H) : tFor wi g tb D σ H := t _ (for_it w Pv h0 hG hs hd)
theorem lc_go {tt : TT} {vs : List Nat} {Q : VK} (t : Ti wi σ H J) (w : Walk J n G Y) (Pv : Addr → Nat → Hp → Prop) (h0 : ∀ L, H L = none → Pv L 0 (upd H L (.lst []))) (hG : ∀ L i H', i ≤ n → Pv L i H' → G H')
    (hs : ∀ L i x H1 H', H L = none → i < n → Pv L i H1 → Y i H1 x H' → g x (wipe σ vs) H' fun σ2 H2 => wipe σ2 vs = wipe σ vs ∧ tt σ2 H2 fun b H3 =>
      if b = true then te σ2 H3 fun y H4 => ∃ acc, H4 L = some (.lst acc) ∧ acc.length < sizeLine ∧ Pv L (i + 1) (upd H4 L (.lst (acc ++ [y]))) else Pv L (i + 1) H3)
    (hd : ∀ L H', H L = none → Pv L n H' → Q (.ref L) H') : tLc wi g tt te vs σ H Q :=
  t _ fun L hL => lc_it w (Pv L) (h0 L hL) (hG L) (fun i x H1 H' hi p y => hs L i x H1 H' hL hi p y) fun H' p => hd L H' hL p
theorem lock_go {t : TS} (e : H d = some (.dK kvs)) (k : ∀ od, t ⟨fun σ' H' => H' d = some (.frz od (.dK kvs)) ∧ D.nx σ' (upd H' d (.dK kvs)), fun v H' => H' d = some (.frz od (.dK kvs)) ∧ D.rt v (upd H' d (.dK kvs)), fun σ' H' => H' d = some (.frz od (.dK kvs)) ∧ D.bk σ' (upd H' d (.dK kvs)), fun σ' H' => H' d = some (.frz od (.dK kvs)) ∧ D.ct σ' (upd H' d (.dK kvs))⟩ σ (upd H d (.frz od (.dK kvs)))) : tLock t D σ H := ⟨d, _, e, trivial, k⟩
theorem lockE_go {Q : VK} (e : H d = some (.dK kvs)) (k : ∀ od, te σ (upd H d (.frz od (.dK kvs))) fun v H' => H' d = some (.frz od (.dK kvs)) ∧ Q v (upd H' d (.dK kvs))) : tLockE te σ H Q := ⟨d, _, e, trivial, k⟩
end
theorem go_make {σ : St} {H : Hp} {C : Addr} {sp : Sp} {E : XK} {ta : TA} {vs : List V} {Q : VK} (ha : Ta ta σ H vs) (k : ∀ x dx, H x = none → H dx = none → dx ≠ x → sp (.ref x :: vs) (upd (upd H dx (.own x)) x (.ins C dx [])) (fun v H2 => v = .non ∧ Q (.ref x) H2) E) : tMake C sp [] E ta σ H Q :=
  ha _ fun x dx h1 h2 h3 => by
    have q := k x dx h1 h2 h3
    show sp (.ref x :: (vs ++ [])) _ _ _
    rw [List.append_nil]
    exact q
theorem yes_go {σ : St} {H : Hp} {P R : Hp → Prop} (h : P H) : tYes σ H fun b H3 => if b = true then P H3 else R H3 := by
  show (if true = true then P H else R H)
  rw [if_pos rfl]
  exact h
theorem te_sl {σ σ' : St} {H : Hp} {te : TE} {Q : VK} (e : σ = σ') (h : te σ' H Q) : te σ H Q := by
  rw [e]
  exact h
theorem tt_sl {σ σ' : St} {H : Hp} {t : TT} {Q : Bool → Hp → Prop} (e : σ = σ') (h : t σ' H Q) : t σ H Q := by
  rw [e]
  exact h
theorem ts_sl {σ σ' : St} {H : Hp} {t : TS} {E : Ends} (e : σ = σ') (h : t E σ' H) : t E σ H := by
  rw [e]
  exact h
theorem te_chain {σ : St} {H : Hp} {ta tb tc : TE} {i j l : Int} {p q : Int → Int → Bool} (ha : Te ta σ H (.int i)) (hb : Te tb σ H (.int j)) (hc : Te tc σ H (.int l)) : Te (tChain (rI0 fun i j => .bl (p i j)) (rI0 fun i j => .bl (q i j)) ta tb tc) σ H (.bl (p i j && q j l)) := fun Q k =>
  ha _ (hb _ ⟨i, j, rfl, rfl, p i j, rfl, by
    cases h : p i j with
    | true => rw [if_pos rfl]; exact hc _ ⟨j, l, rfl, rfl, by rw [h] at k; exact k⟩
    | false => rw [if_neg (by simp)]; rw [h] at k; exact k⟩)
theorem pair_go {K : PySem.W.Frag} {σ : St} {H : Hp} {T : Addr} {x y : V} {i j : Nat} {P : St → Hp → Prop} (h : H T = some (.tup [x, y])) (k : P ((σ.set i (some x)).set j (some y)) H) : gTup K 2 (gCons (gName i) (gCons (gName j) gNil)) (.ref T) σ H P :=
  ⟨T, [x, y], rfl, SqT.of h, rfl, x, [y], rfl, y, [], rfl, rfl, k⟩
theorem atI_int {xs : List V} {i : Int} {v : V} (h0 : 0 ≤ i) (e : xs[i.toNat]? = some v) : atI xs i = some v := by
  obtain ⟨n, rfl⟩ := Int.eq_ofNat_of_zero_le h0
  exact atI_nat e
theorem Fr.wrNew {X : List Addr} {H H' : Hp} {a : Addr} {o : HO} (s : Fr X H H') (h : H a = none) : Fr X H (upd H' a o) := fun b u n e => by
  rw [upd_ne (ne_of_none e h)]
  exact s b u n e
theorem Fr.back {H H' : Hp} {d : Addr} {u : HO} (s : Fr [d] H H') (e : H d = some u) : Same H (upd H' d u) := fun b o q => by
  by_cases z : b = d
  · subst z
    rw [e] at q
    cases q
    exact upd_same
  · rw [upd_ne z]
    exact s b o (by simpa using z) q
theorem upd_none {H : Hp} {d L : Addr} {o : HO} (h : upd H d o L = none) : L ≠ d ∧ H L = none := by
  have n : L ≠ d := fun z => by rw [z, upd_same] at h; cases h
  rw [upd_ne n] at h
  exact ⟨n, h⟩
theorem name_go {σ σ' : St} {H : Hp} {i : Nat} {x : V} {P : St → Hp → Prop} (e : σ.set i (some x) = σ') (h : P σ' H) : gName i x σ H P := by
  subst e
  exact h
theorem isD_of {H : Hp} {p : Addr} {kvs : List (Key × V)} (h : H p = some (.dK kvs)) : IsD H p := by
  first | exact .inl ⟨_, .inl h⟩ | exact ⟨_, .inl h⟩ | exact .inl ⟨_, h⟩ | exact ⟨_, h⟩
theorem te_getD {σ : St} {H : Hp} {ta tb tc : TE} {p : Addr} {i x : Int} {l : Mp} (ha : Te ta σ H (.ref p)) (hb : Te tb σ H (.int i)) (hc : Te tc σ H (.int x)) (h : H p = some (.dK (kvI l))) : Te (tDGet2 ta tb tc) σ H (.int ((getI l i).getD x)) := by
  have t := te_dget2I ha hb hc h (isD_of h)
  rw [valV_kvI] at t
  cases e : getI l i with
  | none =>
    rw [e] at t
    exact t
  | some y =>
    rw [e] at t
    exact t
theorem st_lst1 {σ : St} {H : Hp} {te to ta : TE} {D : Ends} {p : Addr} {xs : List V} {v : V} {k : Int} {j : Nat} (h : Te te σ H v) (hp : Te to σ H (.ref p)) (hi : Te ta σ H (.int k)) (e : H p = some (.lst xs)) (hk : ixN xs.length k = some j) (r : D.nx σ (upd H p (.lst (xs.set j v)))) :
    tAsg te (gSub to ta rSetL) D σ H := h _ (hp _ (hi _ ⟨p, xs, k, j, rfl, rfl, e, hk, r⟩))
theorem ixN_nat {n : Nat} {k : Int} (h0 : 0 ≤ k) (h1 : k < n) : ixN n k = some k.toNat := by
  unfold ixN
  first | (rw [if_pos (by omega), if_pos (by omega)]) | (simp only []; split <;> first | rfl | omega | (split <;> first | rfl | omega)) | (split <;> first | rfl | omega)
theorem cut_to {xs : List V} (n : Nat) : cutV xs none (some (n : Int)) = xs.take n := by
  unfold cutV
  have e1 : HT.sIx xs.length xs.length (some (n : Int)) = min n xs.length := by
    unfold HT.sIx
    dsimp only
    rw [if_neg (by omega)]
    omega
  have e2 : HT.sIx xs.length 0 none = 0 := rfl
  rw [e1, e2]
  simp [List.take_eq_take_iff]
/-! what makes a new list -/
def Tn (te : TE) (σ : St) (H : Hp) (xs : List V) : Prop := ∀ Q : VK, (∀ q, H q = none → Q (.ref q) (upd H q (.lst xs))) → te σ H Q
theorem Tn.go {te : TE} {σ : St} {H : Hp} {xs : List V} {Q : VK} (h : Tn te σ H xs) (k : ∀ q, H q = none → Q (.ref q) (upd H q (.lst xs))) : te σ H Q := h Q k
theorem tn_take {K : PySem.W.Frag} {σ : St} {H : Hp} {to tn : TE} {a : Addr} {xs : List V} {n : Nat} (h : Te to σ H (.ref a)) (t : Te tn σ H (.int n)) (hs : SqL K H a xs) : Tn (tSl (rSlL K) to tNoPart (tPart tn)) σ H (xs.take n) := fun Q k =>
  h _ (t _ ⟨_, rfl, a, xs, rfl, hs, fun q hq => by
    rw [cut_to]
    exact k q hq⟩)
theorem tn_list {K : PySem.W.Frag} {σ : St} {H : Hp} {te : TE} {a : Addr} {xs : List V} (h : Te te σ H (.ref a)) (hs : SqL K H a xs ∨ SqT K H a xs) : Tn (tCB (fun xs H Q => ∃ p ys, xs = [.ref p] ∧ (SqL K H p ys ∨ SqT K H p ys) ∧ ∀ l, H l = none → Q (.ref l) (upd H l (.lst ys))) (tCons te tNil)) σ H xs := fun Q k =>
  h _ ⟨a, xs, rfl, hs, k⟩
theorem tn_lst {σ : St} {H : Hp} {ta : TA} {vs : List V} (h : Ta ta σ H vs) (l : vs.length ≤ sizeLine) : Tn (tLst ta) σ H vs := fun Q k => h _ ⟨l, k⟩
theorem for_new {K : PySem.W.Frag} {σ : St} {H : Hp} {te : TE} {g : TG} {tb : TS} {D : Ends} {xs : List V} (t : Tn te σ H xs) (k : ∀ q, H q = none → tFor (iList K (tC (.ref q))) g tb D σ (upd H q (.lst xs))) : tFor (iList K te) g tb D σ H := t _ fun q hq => k q hq
/-- x = a new list -/
theorem asg_new {σ : St} {H : Hp} {te : TE} {D : Ends} {rest : TS} {i : Nat} {xs : List V} (t : Tn te σ H xs) (k : ∀ q, H q = none → rest D (σ.set i (some (.ref q))) (upd H q (.lst xs))) : tSeq (tAsg te (gName i)) rest D σ H := t _ fun q hq => k q hq
theorem go_call {σ : St} {H : Hp} {sp : Sp} {E : XK} {ta : TA} {vs : List V} {Q : VK} (ha : Ta ta σ H vs) (k : sp vs H Q E) : tCall sp [] E ta σ H Q := ha _ (by
  show sp (vs ++ []) H Q E
  rw [List.append_nil]
  exact k)
/-! what a term asks, opened by hand -/
section
variable {σ : St} {H : Hp} {ta tb te : TE} {t : TA} {D : Ends} {rest : TS} {i : Nat} {r : R2} {Q : VK}
theorem asg_un (h : te σ H fun v H' => rest D (σ.set i (some v)) H') : tSeq (tAsg te (gName i)) rest D σ H := h
theorem asg1_un (h : te σ H fun v H' => D.nx (σ.set i (some v)) H') : tAsg te (gName i) D σ H := h
theorem ret_un (h : te σ H D.rt) : tRet te D σ H := h
theorem op_un (h : ta σ H fun x H1 => tb σ H1 fun y H2 => r x y H2 Q) : tOp r ta tb σ H Q := h
theorem cb_un {c : List V → Hp → VK → Prop} (h : t σ H fun vs H1 => c vs H1 Q) : tCB c t σ H Q := h
theorem cons_un {R : List V → Hp → Prop} (h : te σ H fun v H1 => t σ H1 fun vs H2 => R (v :: vs) H2) : tCons te t σ H R := h
theorem dput_un (h : te σ H fun v H1 => ta σ H1 fun x H2 => tb σ H2 fun y H3 => ∃ a H', x = .ref a ∧ DPut H3 a y v H' ∧ D.nx σ H') : sDPut ta tb te D σ H := h
theorem lst_un (h : te σ H fun v H1 => ta σ H1 fun x H2 => tb σ H2 fun y H3 => rSetL x y v H3 fun H4 => D.nx σ H4) : tAsg te (gSub ta tb rSetL) D σ H := h
theorem call_un {sp : Sp} {E : XK} (h : t σ H fun vs H1 => sp vs H1 Q E) : tCall sp [] E t σ H Q := by
  have e : (fun vs H1 => sp (vs ++ []) H1 Q E) = fun vs H1 => sp vs H1 Q E := funext fun vs => by rw [List.append_nil]
  show t σ H fun vs H1 => sp (vs ++ []) H1 Q E
  rw [e]
  exact h
end
theorem lstd_un {σ : St} {H : Hp} {ta : TA} {Q : VK} (h : ta σ H fun vs H1 => vs.length ≤ sizeLine ∧ ∀ p, H1 p = none → Q (.ref p) (upd H1 p (.lst vs))) : tLst ta σ H Q := h
theorem nil_un {σ : St} {H : Hp} {R : List V → Hp → Prop} (h : R [] H) : tNil σ H R := h
theorem if_and {σ : St} {H : Hp} {t u : TT} {tu tw : TS} {D : Ends} {b : Bool} (h : Tt t σ H b) (h1 : b = true → tIfS u tu tw D σ H) (h2 : b = false → tw D σ H) : tIfS (tAnd t u) tu tw D σ H := h _ (by
  cases b with
  | true => exact h1 rfl
  | false => exact h2 rfl)
theorem fld_un {K : PySem.W.Frag} {σ : St} {H : Hp} {to te : TE} {D : Ends} {f : Str} (h : te σ H fun v H1 => to σ H1 fun y H2 => ∃ p C dx fs, y = .ref p ∧ H2 p = some (.ins C dx fs) ∧ Cls K C ∧ NoAttr K C f ∧ fs.length < 1000 ∧ D.nx σ (upd H2 p (.ins C dx (putF f v fs)))) : sFld K to te f D σ H := h
theorem lc_un {K : PySem.W.Frag} {σ : St} {H : Hp} {te el : TE} {g : TG} {tt : TT} {vs : List Nat} {Q : VK} (h : te σ H fun x H1 => tLc (iList K (tC x)) g tt el vs σ H1 Q) : tLc (iList K te) g tt el vs σ H Q := h
theorem for_un {K : PySem.W.Frag} {σ : St} {H : Hp} {te : TE} {g : TG} {tb : TS} {D : Ends} (h : te σ H fun x H1 => tFor (iList K (tC x)) g tb D σ H1) : tFor (iList K te) g tb D σ H := h
theorem tup_un {σ : St} {H : Hp} {ta : TA} {Q : VK} (h : ta σ H fun vs H1 => vs.length ≤ sizeLine ∧ ∀ p, H1 p = none → Q (.ref p) (upd H1 p (.tup vs))) : tTup ta σ H Q := h
theorem te_neg {σ : St} {H : Hp} {te : TE} {i : Int} (h : Te te σ H (.int i)) : Te (tUn (fun x H Q => ∃ i, x = .int i ∧ Q (.int (-i)) H) te) σ H (.int (-i)) := fun Q q => h _ ⟨i, rfl, q⟩
theorem drop_un {σ : St} {H : Hp} {te : TE} {D : Ends} (h : te σ H fun _ H1 => D.nx σ H1) : tDrop te D σ H := h
theorem app_un {K : PySem.W.Frag} {σ : St} {H : Hp} {to te : TE} {Q : VK} {l : Addr} {zs : List V} (h : Te to σ H (.ref l)) (hl : SqL K H l zs) (k : te σ H fun y H1 => rAppend (.ref l) [y] H1 Q) : tBM K "list" rAppend to (tCons te tNil) σ H Q :=
  h _ ⟨.inl ⟨rfl, _, hl⟩, k⟩
theorem atI_neg1 {xs : List V} {v : V} {n : Nat} (l : xs.length = n + 1) (e : xs[n]? = some v) : atI xs (-1) = some v := by
  unfold atI ixN
  rw [if_neg (by decide), if_pos (by omega), Option.bind_some]
  have : (-1 + (xs.length : Int)).toNat = n := by omega
  rw [this]
  exact e
theorem pair_goT {K : PySem.W.Frag} {σ : St} {H : Hp} {T : Addr} {x y : V} {i j : Nat} {P : St → Hp → Prop} (h : SqT K H T [x, y]) (k : P ((σ.set i (some x)).set j (some y)) H) : gTup K 2 (gCons (gName i) (gCons (gName j) gNil)) (.ref T) σ H P :=
  ⟨T, [x, y], rfl, h, rfl, x, [y], rfl, y, [], rfl, rfl, k⟩
theorem b_un {σ : St} {H : Hp} {te : TE} {Q : Bool → Hp → Prop} (h : te σ H fun x H1 => ∃ c, x = .bl c ∧ Q c H1) : tB te σ H Q := h
theorem iff_un {σ : St} {H : Hp} {t : TT} {tu tw : TS} {D : Ends} (h : t σ H fun b H1 => if b = true then tu D σ H1 else tw D σ H1) : tIfS t tu tw D σ H := h
theorem and_un {σ : St} {H : Hp} {t u : TT} {Q : Bool → Hp → Prop} {b : Bool} (h : Tt t σ H b) (h1 : b = true → u σ H Q) (h2 : b = false → Q false H) : tAnd t u σ H Q := h _ (by
  cases b with
  | true => exact h1 rfl
  | false => exact h2 rfl)
theorem meth_un {C : Addr} {m : Str} {sp : Sp} {E : XK} {σ : St} {H : Hp} {to : TE} {t : TA} {Q : VK} (h : to σ H fun x H1 => ∃ a dx fs, x = .ref a ∧ H1 a = some (.ins C dx fs) ∧ fs.lookup m = none ∧ t σ H1 fun vs H2 => sp (x :: vs) H2 Q E) : tMeth C m sp [] E to t σ H Q := by
  have e : (fun x vs H2 => sp (x :: (vs ++ [])) H2 Q E) = fun x vs H2 => sp (x :: vs) H2 Q E := by
    funext x vs H2
    rw [List.append_nil]
  show to σ H fun x H1 => ∃ a dx fs, x = .ref a ∧ H1 a = some (.ins C dx fs) ∧ fs.lookup m = none ∧ t σ H1 ((fun x vs H2 => sp (x :: (vs ++ [])) H2 Q E) x)
  rw [e]
  exact h
theorem cut_from {xs : List V} (n : Nat) : cutV xs (some (n : Int)) none = xs.drop n := by
  unfold cutV
  have e1 : HT.sIx xs.length 0 (some (n : Int)) = min n xs.length := by
    unfold HT.sIx
    dsimp only
    rw [if_neg (by omega)]
    omega
  have e2 : HT.sIx xs.length xs.length none = xs.length := rfl
  rw [e1, e2]
  rcases Nat.le_total n xs.length with h | h
  · rw [Nat.min_eq_left h]
    exact List.take_of_length_le (by rw [List.length_drop]; omega)
  · rw [Nat.min_eq_right h, List.drop_eq_nil_of_le (Nat.le_refl _), List.drop_eq_nil_of_le h, List.take_nil]
theorem tn_drop {K : PySem.W.Frag} {σ : St} {H : Hp} {to tn : TE} {a : Addr} {xs : List V} {n : Nat} (h : Te to σ H (.ref a)) (t : Te tn σ H (.int n)) (hs : SqL K H a xs) : Tn (tSl (rSlL K) to (tPart tn) tNoPart) σ H (xs.drop n) := fun Q k =>
  h _ (t _ ⟨_, rfl, a, xs, rfl, hs, fun q hq => by
    rw [cut_from]
    exact k q hq⟩)
end YF

/-! max(xs, default=d) of a list of ints, d what an empty one gives -/
namespace YF
open PySem PySem.Spec PyProof.Rows L2
section
variable {Pg : Program} {wd : World} {Ar : Around} {Rs : Result → Shared → Prop} {it : Addr} {fr ws : List Addr} {m : Nat} {Pi : Nat → Value → Prop} {Sx : Nat → Heap → Prop}
theorem mx_args (x d : Value) : argsOk "max" ⟨[x], [(Str.ofString "default", d)]⟩ := by
  unfold argsOk; kernel_rfl
theorem mx_name : (toString "max" ++ toString ".loop" : String) = "max.loop" := by
  decide
/-- j + 1 of them are seen, the best stands in B -/
theorem mx_loop (kw : List (Str × Value)) (Wk : Walks Pg wd Ar.in1 it fr ws m Pi Sx) (bt : Nat → Nat → Bool) (cm : CmpOf Pg wd Ar.in1 .Gt Pi bt) (B : Addr) (nB : B ∉ fr) : ∀ (left j : Nat) (t : Shared) (best : Value) (cap : Nat), m = j + 1 + left → Sx (j + 1) t.heap → Pi (argBest bt j) best →
    t.heap.get? B = some ⟨.type "list", none, .seq #[best, best] cap, #[]⟩ → (∀ v h' tk, Pi (argBest bt (m - 1)) v → (∀ b o, b ∉ ws → b ≠ B → t.heap.get? b = some o → h'.get? b = some o) → Rs (.ok (.ret v)) { t with heap := h', toks := tk }) →
    codeAny (model Pg wd) Ar (.builtin "max.loop" ⟨[.ref it, .none, .ref B], kw⟩) Rs t := by
  have nBw : B ∉ ws := fun q => nB (Wk.sub _ q)
  intro left
  induction left with
  | zero =>
    intro j t best cap em st hb hB k
    have em2 : j + 1 = m := by omega
    refine codeAny_builtin F.entry_max_loop (by
      rw [Around.under_plainId F.plain_max_loop _]
      refine wpAny_bind (wpAny_seqItems hB rfl (wpAny_bind (wpAny_tryCatch (Wk.done t _ _ (em2 ▸ st) fun h' tk kept => ?_))))
      have hB' := kept B _ nBw hB
      refine wpAny_bind (wpAny_updateSeq hB' rfl (wpAny_bind (wpAny_letGo (wpAny_pure (k best _ tk (by rw [← em2]; exact hb) fun b o n1 n2 e => ?_)))))
      rw [Heap.get?_update_other _ _ (fun z => n2 z.symm)]
      exact kept b o n1 e)
  | succ left ih =>
    intro j t best cap em st hb hB k
    refine codeAny_builtin F.entry_max_loop (by
      rw [Around.under_plainId F.plain_max_loop _]
      refine wpAny_bind (wpAny_seqItems hB rfl (wpAny_bind (wpAny_tryCatch (Wk.item (j + 1) t _ _ (by omega) st fun v h' tk hv st' kept => ?_))))
      have hB' := kept B _ nBw hB
      refine wpAny_bind (wpAny_pure (wpAny_bind (wpAny_tryCatch (wpAny_holding (wpAny_bind (cm (j + 1) (argBest bt j) v best _ _ _ hv hb ?_))))))
      refine wpAny_bind (wpAny_holding (wpAny_truthy_bool (wpAny_bind (wpAny_letGo (wpAny_pure ?_)))))
      cases e : bt (j + 1) (argBest bt j) with
      | true =>
        rw [if_pos rfl]
        refine wpAny_bind (wpAny_updateSeq hB' rfl (wpAny_bind (wpAny_letGo ?_)))
        rw [mx_name]
        refine wpAny_pure ⟨plainId_quiet F.plain_max_loop _, ih (j + 1) _ v _ (by omega) (Wk.frame _ _ _ st' fun b hf o q => ?_) (by simp only [argBest, e, if_true]; exact hv) (Heap.get?_update_self _ hB' rfl) fun u h2 tk2 hu kept2 => k u h2 tk2 hu fun b o n1 n2 q => kept2 b o n1 n2 ?_⟩
        · rw [Heap.get?_update_other _ _ (fun z : B = b => nB (z ▸ hf))]
          exact q
        · rw [Heap.get?_update_other _ _ (fun z => n2 z.symm)]
          exact kept b o n1 q
      | false =>
        rw [if_neg (by simp)]
        refine wpAny_bind (wpAny_letGo ?_)
        rw [mx_name]
        exact wpAny_pure ⟨plainId_quiet F.plain_max_loop _, ih (j + 1) _ best cap (by omega) st' (by simp only [argBest, e, Bool.false_eq_true, if_false]; exact hb) hB' fun u h2 tk2 hu kept2 => k u h2 tk2 hu fun b o n1 n2 q => kept2 b o n1 n2 (kept b o n1 q)⟩)
/-- the first of them, or none at all -/
theorem mx_start {d : Value} (Wk : Walks Pg wd Ar.in1 it fr ws m Pi Sx) (bt : Nat → Nat → Bool) (cm : CmpOf Pg wd Ar.in1 .Gt Pi bt) (B : Addr) (nB : B ∉ fr) {t : Shared} {cap : Nat} (st : Sx 0 t.heap) (hB : t.heap.get? B = some ⟨.type "list", none, .seq #[] cap, #[]⟩)
    (k0 : m = 0 → ∀ h' tk, (∀ b o, b ∉ ws → b ≠ B → t.heap.get? b = some o → h'.get? b = some o) → Rs (.ok (.ret d)) { t with heap := h', toks := tk })
    (k : 0 < m → ∀ v h' tk, Pi (argBest bt (m - 1)) v → (∀ b o, b ∉ ws → b ≠ B → t.heap.get? b = some o → h'.get? b = some o) → Rs (.ok (.ret v)) { t with heap := h', toks := tk }) :
    codeAny (model Pg wd) Ar (.builtin "max.loop" ⟨[.ref it, .none, .ref B], [(Str.ofString "default", d)]⟩) Rs t := by
  have nBw : B ∉ ws := fun q => nB (Wk.sub _ q)
  refine codeAny_builtin F.entry_max_loop (by
    rw [Around.under_plainId F.plain_max_loop _]
    by_cases hm : m = 0
    · refine wpAny_bind (wpAny_seqItems hB rfl (wpAny_bind (wpAny_tryCatch (Wk.done t _ _ (hm ▸ st) fun h' tk kept => ?_))))
      exact wpAny_bind (wpAny_rule (wpAny_pure (k0 hm h' tk fun b o n1 _ e => kept b o n1 e)))
    · refine wpAny_bind (wpAny_seqItems hB rfl (wpAny_bind (wpAny_tryCatch (Wk.item 0 t _ _ (by omega) st fun v h' tk hv st' kept => ?_))))
      have hB' := kept B _ nBw hB
      refine wpAny_bind (wpAny_pure (wpAny_bind (wpAny_updateSeq hB' rfl ?_)))
      rw [mx_name]
      refine wpAny_pure ⟨plainId_quiet F.plain_max_loop _, mx_loop _ Wk bt cm B nB (m - 1) 0 _ v _ (by omega) (Wk.frame _ _ _ st' fun b hf o q => ?_) hv (Heap.get?_update_self _ hB' rfl) fun u h2 tk2 hu kept2 => k (by omega) u h2 tk2 hu fun b o n1 n2 q => kept2 b o n1 n2 ?_⟩
      · rw [Heap.get?_update_other _ _ (fun z : B = b => nB (z ▸ hf))]
        exact q
      · rw [Heap.get?_update_other _ _ (fun z => n2 z.symm)]
        exact kept b o n1 q)
end
section
variable {Pg : Program} {wd : World} {Ar : Around} {Ex : Value → Shared → Prop} {t : Shared} {a : Addr} {xs : Array (Int × Tok)}
theorem mx_call {d : Value} {Q : Value → Shared → Prop} (hh : Ar.handled = none) (hl : t.heap.IsList a (intItems xs)) (k0 : xs.size = 0 → ∀ h' tk, (∀ b o, t.heap.get? b = some o → h'.get? b = some o) → Q d { t with heap := h', toks := tk })
    (k : 0 < xs.size → ∀ v h' tk, (intItems xs)[argBest (fun i j => decide (numAt xs i > numAt xs j)) (xs.size - 1)]? = some v → (∀ b o, t.heap.get? b = some o → h'.get? b = some o) → Q v { t with heap := h', toks := tk }) :
    wpAny (model Pg wd) Ar (call (.builtin "max") [.ref a] [(Str.ofString "default", d)]) Q Ex t := by
  refine PyProof.Rows.kmk_tree F.kind_max F.plain_max F.entry_max (mx_args _ _) ?_
  have e0 : Builtin.Builtins.bindParams "max" ["key", "default"] 0 ⟨[], [(Str.ofString "default", d)]⟩ = pure [none, some d] := rfl
  show wpAny _ Ar.in1 (Builtin.Builtins.bindParams "max" ["key", "default"] 0 ⟨[], [(Str.ofString "default", d)]⟩ >>= _) _ _ t
  refine wpAny_bind (wpAny_of_eq e0 (wpAny_bind (wpAny_pure (wpAny_bind (iter_intList hl fun s2 e st hf _ => ?_)))))
  subst e
  refine wpAny_bind (wpAny_newObj_type ?_)
  rw [mx_name]
  have Wk := Walks.list (prog := Pg) (w := wd) (A := Ar.in1) hh t.heap.objs.size a (Nat.ne_of_lt (by obtain ⟨_, e, _⟩ := hl; exact Heap.lt_size e)) (intItems xs)
  have fr : ∀ b o, t.heap.get? b = some o → ((t.heap.push { cls := .type "list_iterator", data := .fields #[.ref a, .int 0 0] }).push { cls := .type "list", data := .seq #[] 0 }).get? b = some o := fun b o e => Heap.get?_push_of_some _ (Heap.get?_push_of_some _ e)
  have back : ∀ {h' : Heap} {B : Addr}, B = (t.heap.push { cls := .type "list_iterator", data := .fields #[.ref a, .int 0 0] }).objs.size → (∀ b o, b ∉ [t.heap.objs.size] → b ≠ B → ((t.heap.push { cls := .type "list_iterator", data := .fields #[.ref a, .int 0 0] }).push { cls := .type "list", data := .seq #[] 0 }).get? b = some o → h'.get? b = some o) → ∀ b o, t.heap.get? b = some o → h'.get? b = some o := fun eB kp b o e => by
    have lb := Heap.lt_size e
    refine kp b o (fun z => Nat.ne_of_lt lb (List.mem_singleton.mp z)) (fun z => ?_) (fr b o e)
    rw [z, eB, Heap.size_push] at lb
    exact Nat.lt_irrefl _ (Nat.lt_of_succ_lt lb)
  refine wpAny_pure ⟨plainId_quiet F.plain_max_loop _, mx_start Wk _ (CmpOf.ints_gt (numAt xs) fun _ _ => intItems_at) _ (fun q => Nat.lt_irrefl _ (hf _ q)) (Wk.frame _ _ _ st fun b _ o e => Heap.get?_push_of_some _ e) (Heap.get?_push_size _ rfl) (fun hm h' tk kp => ?_) fun hm v h' tk hv kp => ?_⟩
  · exact k0 (by simpa [intItems] using hm) h' tk (back rfl kp)
  · exact k (by simpa [intItems] using hm) v h' tk (by simpa [intItems] using hv) (back rfl kp)
end
section
variable {X : Cx}
theorem ints_of_nums {its : List Value} {ns : List Int} (hi : PyProof.Rows.IntsAre its ns) : ∃ xs : Array (Int × Tok), its.toArray = intItems xs ∧ (xs.toList.map (·.1)) = ns := by
  obtain ⟨xs, e⟩ := hi.allInts.items
  have hn : numsOf (intItems xs).toList = ns := by rw [← e]; exact hi.numsOf
  rw [nums_intItems] at hn
  exact ⟨xs, e, hn⟩
/-- max(ints, default=d) -/
def rMaxDf (K : PySem.W.Frag) : List V → List V → Hp → VK → Prop := fun vs zs H Q => ∃ (a : Addr) (ns : List Int) (d : V), vs = [V.ref a] ∧ zs = [d] ∧ SqL K H a (ns.map V.int) ∧ (ns = [] → Q d H) ∧ ∀ m, m ∈ ns → (∀ y, y ∈ ns → y ≤ m) → Q (.int m) H
theorem cr_maxDf (hc : X.calm = true) : CallRK X (.builtin "max") [Str.ofString "default"] (rMaxDf X.K) := by
  intro pins s σ H vs zs us ws Q I r rz h
  obtain ⟨a, ns, d, rfl, rfl, hs, q0, q⟩ := h
  obtain ⟨its, rv, hl, _⟩ := I.list hs
  obtain ⟨dv, rfl, rd⟩ := vals1 rz
  rw [Vals.ref1 r]
  obtain ⟨xs, e, en⟩ := ints_of_nums rv.ints
  have hl' := hl.isList
  rw [e] at hl'
  subst en
  refine mx_call (I.ok.hd hc) hl' (fun hm h' tk hk => ⟨d, H, I.kept hk, rd, q0 ?_⟩) fun hm v h' tk hv hk => ?_
  · have : xs.toList = [] := by
      apply List.length_eq_zero_iff.mp
      rw [Array.length_toList]
      exact hm
    rw [this]
    rfl
  · obtain ⟨tk', rfl⟩ := intItems_at hv
    obtain ⟨h1, h2⟩ := argBest_gt (numAt xs) (xs.size - 1)
    refine ⟨.int _, H, I.kept hk, ⟨_, rfl⟩, q _ ?_ fun y hy => ?_⟩
    · rw [numAt_eq]
      exact PySem.getD_mem (by rw [List.length_map, Array.length_toList]; omega)
    · obtain ⟨j, hj, rfl⟩ := mem_getD hy
      rw [List.length_map, Array.length_toList] at hj
      rw [← numAt_eq]
      exact h2 j (by omega)
end
/-! dict comprehensions over whatever is walked; ranges from .. to -/
section
variable {K : PySem.W.Frag} {σ : St} {H : Hp} {te : TE} {J : It} {wi : TI} {g : TG} {n : Nat} {G : Hp → Prop} {Y : Nat → Hp → V → Hp → Prop}
theorem ti_rng2 {tb : TE} {i j : Int} (h : Te te σ H (.int i)) (h2 : Te tb σ H (.int j)) (hi : -100000 ≤ i ∧ i ≤ 100000) (hj : -100000 ≤ j ∧ j ≤ 100000) : Ti (iRng2 (tCons te (tCons tb tNil))) σ H (Itr i (j - i).toNat) := fun R q => h _ (h2 _ ⟨i, j, rfl, ⟨by omega, by omega, by omega, by omega⟩, q⟩)
theorem dc_go {tt : TT} {tk tv : TE} {vs : List Nat} {Q : VK} (t : Ti wi σ H J) (w : Walk J n G Y) (Pv : Addr → Nat → Hp → Prop) (h0 : ∀ L, H L = none → Pv L 0 (upd H L (.dK []))) (hG : ∀ L i H', i ≤ n → Pv L i H' → G H')
    (hs : ∀ L i x H1 H', H L = none → i < n → Pv L i H1 → Y i H1 x H' → g x (wipe σ vs) H' fun σ2 H2 => wipe σ2 vs = wipe σ vs ∧ tt σ2 H2 fun b H3 =>
      if b = true then tk σ2 H3 fun y H4 => tv σ2 H4 fun z H5 => ∃ kvs k, y = kV k ∧ H5 L = some (.dK kvs) ∧ kvs.length < sizeLine ∧ Pv L (i + 1) (upd H5 L (.dK (putK kvs k z))) else Pv L (i + 1) H3)
    (hd : ∀ L H', H L = none → Pv L n H' → Q (.ref L) H') : tDc wi g tt tk tv vs σ H Q :=
  t _ fun L hL => ⟨fun i m H' => m = n - i ∧ i ≤ n ∧ Pv L i H', ⟨n, by simp, Nat.zero_le _, h0 L hL⟩, fun i m H' ⟨em, hi, p⟩ => by
    subst em
    by_cases hlt : i < n
    · exact .inr ⟨w.goes i H' hlt (hG L i H' hi p), Pv L (i + 1), fun H'' p' => ⟨n - (i + 1), by omega, rfl, hlt, p'⟩, fun x H2 y => hs L i x H' H2 hL hlt p (w.yields i H' x H2 hlt (hG L i H' hi p) y)⟩
    · have e : i = n := by omega
      subst e
      exact .inl ⟨w.stops H' (hG L i H' hi p), hd L H' hL p⟩⟩
end
theorem ckw_un {σ : St} {H : Hp} {r : List V → List V → Hp → VK → Prop} {t tk : TA} {Q : VK} (h : t σ H fun vs H1 => tk σ H1 fun zs H2 => r vs zs H2 Q) : tCKw r t tk σ H Q := h
theorem max_both {Q : VK} {ns : List Int} {H : Hp} (k : ∀ M : Int, (∀ y ∈ ns, y ≤ M) → (M = 0 ∨ M ∈ ns) → (ns = [] → M = 0) → Q (.int M) H) : (ns = [] → Q (.int 0) H) ∧ ∀ m, m ∈ ns → (∀ y, y ∈ ns → y ≤ m) → Q (.int m) H :=
  ⟨fun e => k 0 (fun y hy => by rw [e] at hy; cases hy) (.inl rfl) fun _ => rfl, fun m hm hx => k m hx (.inr hm) fun e => by rw [e] at hm; cases hm⟩
theorem maxdf_go {K : PySem.W.Frag} {Q : VK} {ns : List Int} {H : Hp} {a : Addr} (hs : SqL K H a (ns.map V.int)) (k : ∀ M : Int, (∀ y ∈ ns, y ≤ M) → (M = 0 ∨ M ∈ ns) → (ns = [] → M = 0) → Q (.int M) H) : rMaxDf K [.ref a] [.int 0] H Q := ⟨a, ns, .int 0, rfl, rfl, hs, max_both k⟩
end YF

/-! an exception with an own __init__ is made where none is handled: it has no context -/
namespace YF
open PySem PySem.Spec PyProof.Rows L2
theorem pmkN_oex {X : Cx} {e : Expr} {es : List Expr} {ta : TA} {p pos : Pos} {CX : CXT} {x : Str} {C fI : Addr} {k : Nat} {fd : FuncData} {ps : List Str} {sp : Sp} (T : OexC X.K C) (iC : PySem.W.findIn X.K (.ref C) "__init__" = some (some (.ref fI))) (tI : PySem.W.typeIn X.K (.ref fI) = some (.type "function"))
    (F1 : FnOk X.prog X.w X.K X.mg X.base CX k fI fd ps sp) (hr : Room (k + 1) X.A) (hb : Binds X.K fd ps []) (hx : Passes CX X (fun _ _ _ => False)) (hg : Gl X x) (hm : X.mg x = some (.ref C)) (ha : PA X (e :: es) ta)
    (hdb : (x == ("__debug__" : Str)) = false := by decide) (he : starEach (e :: es) X.env = (false, eval e X.env) :: starEach es X.env := by rfl) (hpl : (backTo pos (starEach es X.env)).any (·.1) = false := by rfl) : L2N.PMk X (.Call (.Name x p) (e :: es) [] pos) (tMkO C sp [] ta) := by
  intro pins s σ H Q I h
  obtain ⟨nm, q, N, bs, bm, sn, sub, ab, col, dd, k0, k1, k2, k3, k5, hC, hbm⟩ := T.cls
  refine wpAny_Call_Name_kw (ld_glob I hg hm (PySem.W.callWith_K (h₀ := X.base) I.ok.mod.kin T.kC (thn (ha.run pos pins s σ H _ I h) fun us s1 hh => ?_) he hpl) hdb)
  obtain ⟨vs, H1, I1, r1, hz, q1⟩ := hh
  refine ⟨I1.kIn, ?_⟩
  obtain ⟨hp, g, dr, tk, os⟩ := s1
  show wpAny _ _ (call (.ref C) us) _ _ _
  have hsz : hp.objs.size ≤ hp.objs.size + 1 := Nat.le_succ _
  have hn : H1 (hp.objs.size + 1) = none := I1.hok.fresh hsz
  have hq := q1 (hp.objs.size + 1) hn
  have kk : ∀ b o, hp.get? b = some o → ((hp.push (PySem.W.kdv_tup us)).push (HandSPX.excO C hp.objs.size)).get? b = some o := fun b o e => Heap.get?_push_of_some _ (Heap.get?_push_of_some _ e)
  have hget : ((hp.push (PySem.W.kdv_tup us)).push (HandSPX.excO C hp.objs.size)).get? (hp.objs.size + 1) = some (HandSPX.excO C hp.objs.size) := by heap_get
  have I2 := I1.laid (t' := tk) kk hsz (exo_ok hget)
  have r2 : Vals (V.ref (hp.objs.size + 1) :: (vs ++ [])) (Value.ref (hp.objs.size + 1) :: (us ++ [])) := Paired.cons rfl (Vals.append r1 Paired.nil)
  have hl : (Value.ref (hp.objs.size + 1) :: (us ++ [])).length = ps.length := by
    rw [← Vals.length r2]
    exact F1.len _ _ _ _ hq
  have hus : us.length ≤ sizeLine := by
    rw [← Vals.length r1, sizeLine_eq]
    omega
  refine wpAny_call (HandSPX.call_own F.excBase_ValueError (fun Y => HandSPX.refsVE_contains Y bm hbm) (I1.kIn C _ hC) (PySem.W.looks_findIn I1.kIn iC) (fun self => PySem.W.bind_fn I1.kIn self tI) hus
    (codeAny_mono (F1.run _ X.stack _ _ _ _ _ _ _ (hr.make C us []) (I2.env0.make C us []) (hb _ _ I2.kIn hl) r2 hq) fun r s' hq' => ?_))
  cases r with
  | error er => exact hx pins σ _ _ er s' I2 hq'
  | ok fl =>
    cases fl with
    | ret u =>
      obtain ⟨v, H2, os2, bare2, un2, hok2, rv, ev, d, fs, ea, ed, hd1, q2⟩ := hq'
      subst ev
      obtain ⟨h2, g2, d2, t2, os'⟩ := s'
      refine ⟨rv, ?_⟩
      obtain ⟨a, oe, vs', sI, H', cls, dd', e1, J, k1', n1, o1, z1, f1, f2, n2, s2, b2, rr, qq⟩ := mk_end (d2 := d2) (t2 := t2) (raises_own T.exC T.tyC) I1 hsz kk un2 hok2 os2 bare2 ea ed hd1 q2
      cases e1
      refine ⟨_, oe, vs', sI, H', cls, dd', rfl, J, k1', n1, o1, ⟨z1.1, z1.2, fun ws hw => ?_⟩, f1, f2, n2, s2, b2, rr, qq⟩
      obtain ⟨t1, ht⟩ : ∃ t1, h2.get? (hp.objs.size + 1) = some { cls := .ref C, dict := some d, data := .fields #[.ref t1, .none, .none, .none, .bool false, .none] } := (hok2 _ _ ea).1
      have o2 : oe = _ := Option.some.inj (o1.symm.trans ht)
      rw [o2] at hw
      cases hw
      rfl
    | _ => exact hq'.elim
/-- a def that may raise without a context -/
theorem okN {P : Program} {w : World} {K : PySem.W.Frag} {mg : Str → Option Value} {base : Heap} {x qual : Str} {st : Stmt} {f : Addr} {fd : FuncData} {N ps : List Str} {k : Nat} {sp : Sp} (F : Fun K x qual st f fd) (S : FnScope N ps (defScope st)) (len : ∀ (vs : List V) (H : Hp) (Q : VK) (E : XK), sp vs H Q E → vs.length = ps.length)
    (hb : ∀ (cdv : Value) (A : Around) (outer : List PySem.Env) (s : Shared) (H : Hp) (vs : List V) (Q : VK) (E : XK), Room k (A.deeper (PyProof.Rows.envOfC qual (defScope st) s.heap.objs.size f cdv)) → sp vs H Q E →
      ∃ t, PSs (cxOf (L2N.CX P w) P w K mg base N qual (defScope st) f cdv A outer s H E) (defBody st) t ∧ t { nx := fun _ H' => Q V.non H', rt := Q } (L2.start N vs) H) : FnOk P w K mg base (L2N.CX P w) (k + 1) f fd ps sp := by
  obtain ⟨oc, od, kV, doc, pm, an, cdv, ct, osl, rfl, lk, hcd⟩ := F.ex
  exact L2.fn_of lk hcd S len fun A outer s H vs Q E hr h => hb cdv A outer s H vs Q E hr h
theorem passLN {X : Cx} : Passes (L2N.CX X.prog X.w) X E0 := fun pins σ H s e s' I h => by
  obtain ⟨a, B, H', cls, d, _, _, _, _, _, _, _, h⟩ := h
  exact h.elim
theorem takes0N {X : Cx} : L2N.Takes X (fun _ _ _ _ => False) := fun u s' h => by
  obtain ⟨a, B, sI, pins, σ, H', cls, d, _, _, _, _, _, _, _, _, h⟩ := h
  exact (by first | exact h.elim | exact h.2.elim | exact h.2.2.elim)
end YF

/-! the end by facts that a Hook reads: what my texts ask of it besides -/
namespace YF
open PySem PySem.Spec PyProof.Rows L2
/-- an own exception class with an own __init__ over ValueError -/
def oexB (K : PySem.W.Frag) (C : Addr) : Bool := (match K.lookup C with
  | some ⟨.type "type", _, .cls cd, sl⟩ => (match cd.mro, sl.toList with
    | .ref C' :: bm, [_, _, _, _, some (.builtin n), _] => decide (C' = C) && (decide (n = "ValueError.__new__") && (!cd.hasDel && (cd.hasDict && HandSPX.refsVE bm)))
    | _, _ => false)
  | _ => false) && (decide (PySem.W.findIn K (.ref C) "__setattr__" = some (some (.builtin "object.__setattr__"))) && (decide (PySem.W.subIn K (.ref C) (.type "BaseException") = some true) &&
    (decide (PySem.W.typeIn K (.ref C) = some (.type "type")) && PySem.W.keepIn K (.ref C))))
theorem oexB_ok {K : PySem.W.Frag} {C : Addr} (h : oexB K C = true) : OexC K C := by
  unfold oexB at h
  obtain ⟨h1, h⟩ := Bool.and_eq_true_iff.mp h
  obtain ⟨h2, h⟩ := Bool.and_eq_true_iff.mp h
  obtain ⟨h3, h⟩ := Bool.and_eq_true_iff.mp h
  obtain ⟨h4, h5⟩ := Bool.and_eq_true_iff.mp h
  refine ⟨?_, of_decide_eq_true h2, of_decide_eq_true h3, of_decide_eq_true h4, h5⟩
  split at h1
  · rename_i dd cd sl ho
    split at h1
    · rename_i C' bm k0 k1 k2 k3 n k5 hm hs
      obtain ⟨g1, h1⟩ := Bool.and_eq_true_iff.mp h1
      obtain ⟨g2, h1⟩ := Bool.and_eq_true_iff.mp h1
      obtain ⟨g3, h1⟩ := Bool.and_eq_true_iff.mp h1
      obtain ⟨g4, g5⟩ := Bool.and_eq_true_iff.mp h1
      have e1 := of_decide_eq_true g1
      have e2 := of_decide_eq_true g2
      subst e1 e2
      obtain ⟨nm, bs, mro, ns, qn, hd, sn, sub, ab, col, del⟩ := cd
      dsimp only at hm g3 g4
      have g3' : del = false := by
        cases del with
        | false => rfl
        | true => cases g3
      subst hm g3' g4
      have hsl : sl = #[k0, k1, k2, k3, some (.builtin "ValueError.__new__"), k5] := by
        obtain ⟨l⟩ := sl
        simp only at hs
        rw [hs]
      subst hsl
      exact ⟨nm, qn, ns, bs, bm, sn, sub, ab, col, dd, k0, k1, k2, k3, k5, ho, g5⟩
    · cases h1
  · cases h1
/-- a def without defaults, told by the Hook, as my texts name it -/
theorem fun_of {K : PySem.W.Frag} {x q : Str} {st : Stmt} {f : Addr} {fd : FuncData} (F : FunD K x q (defArgs st) (defBody st) (defScope st) [] [] f fd) : Fun K x q st f fd := by
  obtain ⟨⟨oc, od, dV, kV, doc, pm, an, cdv, ct, osl, e, lk, hc, hd, hk⟩, kp⟩ := F
  have e1 : dV = .none := by
    rcases hd with ⟨_, h⟩ | ⟨h, _⟩
    · exact h
    · exact absurd rfl h
  subst e1 e
  exact fun_mk lk hc kp
def fnB (K : PySem.W.Frag) (C : Addr) (m : Str) (f : Addr) : Bool := decide (PySem.W.findIn K (.ref C) m = some (some (.ref f))) && decide (PySem.W.typeIn K (.ref f) = some (.type "function"))
def noB (K : PySem.W.Frag) (C : Addr) (m : Str) : Bool := decide (PySem.W.findIn K (.ref C) m = some none)
end YF

namespace O43
open PySem L2 YF
local macro_rules | `(tactic| walk_at "rd1") => `(tactic| first
  | refine ⟨_, _, rfl, rfl, ?_⟩
  | refine ⟨_, rfl, ?_⟩
  | refine ⟨(show CPow _ _ from ⟨by decide, by decide, by decide⟩), ?_⟩
  | refine ⟨(show CMul _ _ from Or.inr ⟨by decide, by decide⟩), ?_⟩
  | refine ⟨(show CDiv _ _ from ⟨by decide, by decide⟩), ?_⟩
  | refine ⟨(by show (0 : Int) < _; decide), ?_⟩
  | refine Or.inl ⟨_, rfl, ?_⟩)
local macro_rules | `(tactic| walk_at "rd") => `(tactic| repeat (walk_at "rd1"))
def topS (i : Nat) : Stmt := PySem.Challenge.pw_handshaker_k43_orders_of_fewer_records.main.body.getD i (.Pass ⟨0, 0, 0, 0⟩)
abbrev s_written : Stmt := topS 5
theorem sc_written : FnScope ["memory", "writes", "cell", "value"] ["memory", "writes"] (defScope s_written) := ⟨rfl, rfl, rfl, by decide +kernel, rfl, by decide +kernel, by decide +kernel⟩
abbrev s_agrees : Stmt := topS 6
theorem sc_agrees : FnScope ["reads", "memory", "cell", "value"] ["reads", "memory"] (defScope s_agrees) := ⟨rfl, rfl, rfl, by decide +kernel, rfl, by decide +kernel, by decide +kernel⟩
abbrev s_is_order : Stmt := topS 7
theorem sc_is_order : FnScope ["memory", "records", "order", "account", "others", "at", "record"] ["memory", "records", "order"] (defScope s_is_order) := ⟨rfl, rfl, rfl, by decide +kernel, rfl, by decide +kernel, by decide +kernel⟩
abbrev s_done : Stmt := topS 8
theorem sc_done : FnScope ["records", "at", "record"] ["records"] (defScope s_done) := ⟨rfl, rfl, rfl, by decide +kernel, rfl, by decide +kernel, by decide +kernel⟩
abbrev s_Account___init__ : Stmt := inClass (topS 9) 0
theorem sc_Account___init__ : FnScope ["self", "memory", "records", "order", "record", "places", "at", "place"] ["self", "memory", "records", "order"] (defScope s_Account___init__) := ⟨rfl, rfl, rfl, by decide +kernel, rfl, by decide +kernel, by decide +kernel⟩
abbrev s_Account_agrees_in_order : Stmt := inClass (topS 9) 1
theorem sc_Account_agrees_in_order : FnScope ["self", "k", "record"] ["self"] (defScope s_Account_agrees_in_order) := ⟨rfl, rfl, rfl, by decide +kernel, rfl, by decide +kernel, by decide +kernel⟩
abbrev s_Account_keeps_time : Stmt := inClass (topS 9) 2
theorem sc_Account_keeps_time : FnScope ["self", "begun", "record", "k"] ["self"] (defScope s_Account_keeps_time) := ⟨rfl, rfl, rfl, by decide +kernel, rfl, by decide +kernel, by decide +kernel⟩
abbrev s_Account_all_have_pasts : Stmt := inClass (topS 9) 3
theorem sc_Account_all_have_pasts : FnScope ["self", "indexes", "index"] ["self", "indexes"] (defScope s_Account_all_have_pasts) := ⟨rfl, rfl, rfl, by decide +kernel, rfl, by decide +kernel, by decide +kernel⟩
abbrev s_Account_pasts_of : Stmt := inClass (topS 9) 4
theorem sc_Account_pasts_of : FnScope ["self", "index", "record", "least", "most", "k", "ended"] ["self", "index"] (defScope s_Account_pasts_of) := ⟨rfl, rfl, rfl, by decide +kernel, rfl, by decide +kernel, by decide +kernel⟩
abbrev s_Account__most : Stmt := inClass (topS 9) 5
theorem sc_Account__most : FnScope ["self", "record", "k", "other"] ["self", "record"] (defScope s_Account__most) := ⟨rfl, rfl, rfl, by decide +kernel, rfl, by decide +kernel, by decide +kernel⟩
abbrev s_find_order : Stmt := topS 10
theorem sc_find_order : FnScope ["memory", "records", "done", "others", "at", "record"] ["memory", "records"] (defScope s_find_order) := ⟨rfl, rfl, rfl, by decide +kernel, rfl, by decide +kernel, by decide +kernel⟩
abbrev s_Finder___init__ : Stmt := inClass (topS 11) 0
theorem sc_Finder___init__ : FnScope ["self", "records"] ["self", "records"] (defScope s_Finder___init__) := ⟨rfl, rfl, rfl, by decide +kernel, rfl, by decide +kernel, by decide +kernel⟩
abbrev s_Finder_least : Stmt := inClass (topS 11) 1
theorem sc_Finder_least : FnScope ["self", "memory", "order", "left", "others", "at", "ahead", "behind", "found", "one"] ["self", "memory", "order", "left", "others"] (defScope s_Finder_least) := ⟨rfl, rfl, rfl, by decide +kernel, rfl, by decide +kernel, by decide +kernel⟩
abbrev s_Finder__is_past : Stmt := inClass (topS 11) 2
theorem sc_Finder__is_past : FnScope ["self", "memory", "order", "left", "index", "record", "at"] ["self", "memory", "order", "left", "index"] (defScope s_Finder__is_past) := ⟨rfl, rfl, rfl, by decide +kernel, rfl, by decide +kernel, by decide +kernel⟩
abbrev s_Finder__may_follow : Stmt := inClass (topS 11) 3
theorem sc_Finder__may_follow : FnScope ["self", "memory", "left", "index", "record", "at"] ["self", "memory", "left", "index"] (defScope s_Finder__may_follow) := ⟨rfl, rfl, rfl, by decide +kernel, rfl, by decide +kernel, by decide +kernel⟩
abbrev s_Record___init__ : Stmt := inClass (topS 13) 0
theorem sc_Record___init__ : FnScope ["self", "thread", "begun", "ended", "kind", "reads", "writes", "stamp"] ["self", "thread", "begun", "ended", "kind", "reads", "writes", "stamp"] (defScope s_Record___init__) := ⟨rfl, rfl, rfl, by decide +kernel, rfl, by decide +kernel, by decide +kernel⟩
abbrev s_TooLarge___init__ : Stmt := inClass (topS 2) 0
theorem sc_TooLarge___init__ : FnScope ["self", "limit"] ["self", "limit"] (defScope s_TooLarge___init__) := ⟨rfl, rfl, rfl, by decide +kernel, rfl, by decide +kernel, by decide +kernel⟩
abbrev s_law_draws : Stmt := topS 15
theorem sc_law_draws : FnScope ["script", "draws", "cell", "number", "first", "k", "seed"] ["script"] (defScope s_law_draws) := ⟨rfl, rfl, rfl, by decide +kernel, rfl, by decide +kernel, by decide +kernel⟩
abbrev s_law_take : Stmt := topS 16
theorem sc_law_take : FnScope ["draws", "bound"] ["draws", "bound"] (defScope s_law_take) := ⟨rfl, rfl, rfl, by decide +kernel, rfl, by decide +kernel, by decide +kernel⟩
abbrev s_law_same : Stmt := topS 17
theorem sc_law_same : FnScope ["actual", "due", "k"] ["actual", "due"] (defScope s_law_same) := ⟨rfl, rfl, rfl, by decide +kernel, rfl, by decide +kernel, by decide +kernel⟩
abbrev s_law_records : Stmt := topS 18
theorem sc_law_records : FnScope ["draws", "cells", "many", "k", "memory", "first", "records", "moment", "past", "kind", "reads", "cell", "writes", "begun", "ended"] ["draws", "cells", "many"] (defScope s_law_records) := ⟨rfl, rfl, rfl, by decide +kernel, rfl, by decide +kernel, by decide +kernel⟩
abbrev s_law_bent : Stmt := topS 19
theorem sc_law_bent : FnScope ["draws", "rows", "cells", "row", "changed", "kind", "table"] ["draws", "rows", "cells"] (defScope s_law_bent) := ⟨rfl, rfl, rfl, by decide +kernel, rfl, by decide +kernel, by decide +kernel⟩
abbrev s_law_mixed : Stmt := topS 20
theorem sc_law_mixed : FnScope ["draws", "rows", "rest", "k"] ["draws", "rows"] (defScope s_law_mixed) := ⟨rfl, rfl, rfl, by decide +kernel, rfl, by decide +kernel, by decide +kernel⟩
abbrev s_law_made : Stmt := topS 21
theorem sc_law_made : FnScope ["rows", "k"] ["rows"] (defScope s_law_made) := ⟨rfl, rfl, rfl, by decide +kernel, rfl, by decide +kernel, by decide +kernel⟩
abbrev s_law_world : Stmt := topS 22
theorem sc_law_world : FnScope ["draws", "most", "cells", "made", "rows"] ["draws", "most"] (defScope s_law_world) := ⟨rfl, rfl, rfl, by decide +kernel, rfl, by decide +kernel, by decide +kernel⟩
abbrev s_law_done : Stmt := topS 23
theorem sc_law_done : FnScope ["rows", "k"] ["rows"] (defScope s_law_done) := ⟨rfl, rfl, rfl, by decide +kernel, rfl, by decide +kernel, by decide +kernel⟩
abbrev s_law_moved : Stmt := topS 24
theorem sc_law_moved : FnScope ["rows", "scale", "shift", "row"] ["rows", "scale", "shift"] (defScope s_law_moved) := ⟨rfl, rfl, rfl, by decide +kernel, rfl, by decide +kernel, by decide +kernel⟩
abbrev s_law : Stmt := topS 25
theorem sc_law : FnScope ["script", "draws", "world", "rows", "row", "told", "begun", "empty", "moved", "others", "out", "fewer", "k"] ["script"] (defScope s_law) := ⟨rfl, rfl, rfl, by decide +kernel, rfl, by decide +kernel, by decide +kernel⟩
structure Adr where
  a__written : Addr
  d__written : FuncData
  a_agrees : Addr
  d_agrees : FuncData
  a_is_order : Addr
  d_is_order : FuncData
  a__done : Addr
  d__done : FuncData
  a_Account___init__ : Addr
  d_Account___init__ : FuncData
  a_Account_agrees_in_order : Addr
  d_Account_agrees_in_order : FuncData
  a_Account_keeps_time : Addr
  d_Account_keeps_time : FuncData
  a_Account_all_have_pasts : Addr
  d_Account_all_have_pasts : FuncData
  a_Account_pasts_of : Addr
  d_Account_pasts_of : FuncData
  a_Account__most : Addr
  d_Account__most : FuncData
  a_find_order : Addr
  d_find_order : FuncData
  a_Finder___init__ : Addr
  d_Finder___init__ : FuncData
  a_Finder_least : Addr
  d_Finder_least : FuncData
  a_Finder__is_past : Addr
  d_Finder__is_past : FuncData
  a_Finder__may_follow : Addr
  d_Finder__may_follow : FuncData
  a_Record___init__ : Addr
  d_Record___init__ : FuncData
  a_TooLarge___init__ : Addr
  d_TooLarge___init__ : FuncData
  a__law_draws : Addr
  d__law_draws : FuncData
  a__law_take : Addr
  d__law_take : FuncData
  a__law_same : Addr
  d__law_same : FuncData
  a__law_records : Addr
  d__law_records : FuncData
  a__law_bent : Addr
  d__law_bent : FuncData
  a__law_mixed : Addr
  d__law_mixed : FuncData
  a__law_made : Addr
  d__law_made : FuncData
  a__law_world : Addr
  d__law_world : FuncData
  a__law_done : Addr
  d__law_done : FuncData
  a__law_moved : Addr
  d__law_moved : FuncData
  a_law : Addr
  d_law : FuncData
  a_TooLarge : Addr
  a_Record : Addr
  a_Account : Addr
  a_Finder : Addr
  t_MOST_DONE : Tok
structure Txt (K : PySem.W.Frag) (mg : Str → Option Value) (A : Adr) : Prop where
  F__written : Fun K "_written" "_written" s_written A.a__written A.d__written
  b__written : Binds K A.d__written ["memory", "writes"] []
  g__written : mg "_written" = some (.ref A.a__written)
  F_agrees : Fun K "agrees" "agrees" s_agrees A.a_agrees A.d_agrees
  b_agrees : Binds K A.d_agrees ["reads", "memory"] []
  g_agrees : mg "agrees" = some (.ref A.a_agrees)
  F_is_order : Fun K "is_order" "is_order" s_is_order A.a_is_order A.d_is_order
  b_is_order : Binds K A.d_is_order ["memory", "records", "order"] []
  g_is_order : mg "is_order" = some (.ref A.a_is_order)
  F__done : Fun K "_done" "_done" s_done A.a__done A.d__done
  b__done : Binds K A.d__done ["records"] []
  g__done : mg "_done" = some (.ref A.a__done)
  F_Account___init__ : Fun K "__init__" "Account.__init__" s_Account___init__ A.a_Account___init__ A.d_Account___init__
  b_Account___init__ : Binds K A.d_Account___init__ ["self", "memory", "records", "order"] []
  mk_Account : Mk K A.a_Account A.a_Account___init__
  F_Account_agrees_in_order : Fun K "agrees_in_order" "Account.agrees_in_order" s_Account_agrees_in_order A.a_Account_agrees_in_order A.d_Account_agrees_in_order
  b_Account_agrees_in_order : Binds K A.d_Account_agrees_in_order ["self"] []
  m_Account_agrees_in_order : Meth K A.a_Account "agrees_in_order" A.a_Account_agrees_in_order
  F_Account_keeps_time : Fun K "keeps_time" "Account.keeps_time" s_Account_keeps_time A.a_Account_keeps_time A.d_Account_keeps_time
  b_Account_keeps_time : Binds K A.d_Account_keeps_time ["self"] []
  m_Account_keeps_time : Meth K A.a_Account "keeps_time" A.a_Account_keeps_time
  F_Account_all_have_pasts : Fun K "all_have_pasts" "Account.all_have_pasts" s_Account_all_have_pasts A.a_Account_all_have_pasts A.d_Account_all_have_pasts
  b_Account_all_have_pasts : Binds K A.d_Account_all_have_pasts ["self", "indexes"] []
  m_Account_all_have_pasts : Meth K A.a_Account "all_have_pasts" A.a_Account_all_have_pasts
  F_Account_pasts_of : Fun K "pasts_of" "Account.pasts_of" s_Account_pasts_of A.a_Account_pasts_of A.d_Account_pasts_of
  b_Account_pasts_of : Binds K A.d_Account_pasts_of ["self", "index"] []
  m_Account_pasts_of : Meth K A.a_Account "pasts_of" A.a_Account_pasts_of
  F_Account__most : Fun K "_most" "Account._most" s_Account__most A.a_Account__most A.d_Account__most
  b_Account__most : Binds K A.d_Account__most ["self", "record"] []
  m_Account__most : Meth K A.a_Account "_most" A.a_Account__most
  F_find_order : Fun K "find_order" "find_order" s_find_order A.a_find_order A.d_find_order
  b_find_order : Binds K A.d_find_order ["memory", "records"] []
  g_find_order : mg "find_order" = some (.ref A.a_find_order)
  F_Finder___init__ : Fun K "__init__" "Finder.__init__" s_Finder___init__ A.a_Finder___init__ A.d_Finder___init__
  b_Finder___init__ : Binds K A.d_Finder___init__ ["self", "records"] []
  mk_Finder : Mk K A.a_Finder A.a_Finder___init__
  F_Finder_least : Fun K "least" "Finder.least" s_Finder_least A.a_Finder_least A.d_Finder_least
  b_Finder_least : Binds K A.d_Finder_least ["self", "memory", "order", "left", "others"] []
  m_Finder_least : Meth K A.a_Finder "least" A.a_Finder_least
  F_Finder__is_past : Fun K "_is_past" "Finder._is_past" s_Finder__is_past A.a_Finder__is_past A.d_Finder__is_past
  b_Finder__is_past : Binds K A.d_Finder__is_past ["self", "memory", "order", "left", "index"] []
  m_Finder__is_past : Meth K A.a_Finder "_is_past" A.a_Finder__is_past
  F_Finder__may_follow : Fun K "_may_follow" "Finder._may_follow" s_Finder__may_follow A.a_Finder__may_follow A.d_Finder__may_follow
  b_Finder__may_follow : Binds K A.d_Finder__may_follow ["self", "memory", "left", "index"] []
  m_Finder__may_follow : Meth K A.a_Finder "_may_follow" A.a_Finder__may_follow
  F_Record___init__ : Fun K "__init__" "Record.__init__" s_Record___init__ A.a_Record___init__ A.d_Record___init__
  b_Record___init__ : Binds K A.d_Record___init__ ["self", "thread", "begun", "ended", "kind", "reads", "writes", "stamp"] []
  mk_Record : Mk K A.a_Record A.a_Record___init__
  F_TooLarge___init__ : Fun K "__init__" "TooLarge.__init__" s_TooLarge___init__ A.a_TooLarge___init__ A.d_TooLarge___init__
  b_TooLarge___init__ : Binds K A.d_TooLarge___init__ ["self", "limit"] []
  g_TooLarge : mg "TooLarge" = some (.ref A.a_TooLarge)
  TooLarge_o : OexC K A.a_TooLarge
  TooLarge_x : XfC K A.a_TooLarge
  TooLarge_i : PySem.W.findIn K (.ref A.a_TooLarge) "__init__" = some (some (.ref A.a_TooLarge___init__))
  TooLarge_t : PySem.W.typeIn K (.ref A.a_TooLarge___init__) = some (.type "function")
  no_TooLarge_limit : PySem.W.findIn K (.ref A.a_TooLarge) "limit" = some none
  F__law_draws : Fun K "_law_draws" "_law_draws" s_law_draws A.a__law_draws A.d__law_draws
  b__law_draws : Binds K A.d__law_draws ["script"] []
  g__law_draws : mg "_law_draws" = some (.ref A.a__law_draws)
  F__law_take : Fun K "_law_take" "_law_take" s_law_take A.a__law_take A.d__law_take
  b__law_take : Binds K A.d__law_take ["draws", "bound"] []
  g__law_take : mg "_law_take" = some (.ref A.a__law_take)
  F__law_same : Fun K "_law_same" "_law_same" s_law_same A.a__law_same A.d__law_same
  b__law_same : Binds K A.d__law_same ["actual", "due"] []
  g__law_same : mg "_law_same" = some (.ref A.a__law_same)
  F__law_records : Fun K "_law_records" "_law_records" s_law_records A.a__law_records A.d__law_records
  b__law_records : Binds K A.d__law_records ["draws", "cells", "many"] []
  g__law_records : mg "_law_records" = some (.ref A.a__law_records)
  F__law_bent : Fun K "_law_bent" "_law_bent" s_law_bent A.a__law_bent A.d__law_bent
  b__law_bent : Binds K A.d__law_bent ["draws", "rows", "cells"] []
  g__law_bent : mg "_law_bent" = some (.ref A.a__law_bent)
  F__law_mixed : Fun K "_law_mixed" "_law_mixed" s_law_mixed A.a__law_mixed A.d__law_mixed
  b__law_mixed : Binds K A.d__law_mixed ["draws", "rows"] []
  g__law_mixed : mg "_law_mixed" = some (.ref A.a__law_mixed)
  F__law_made : Fun K "_law_made" "_law_made" s_law_made A.a__law_made A.d__law_made
  b__law_made : Binds K A.d__law_made ["rows"] []
  g__law_made : mg "_law_made" = some (.ref A.a__law_made)
  F__law_world : Fun K "_law_world" "_law_world" s_law_world A.a__law_world A.d__law_world
  b__law_world : Binds K A.d__law_world ["draws", "most"] []
  g__law_world : mg "_law_world" = some (.ref A.a__law_world)
  F__law_done : Fun K "_law_done" "_law_done" s_law_done A.a__law_done A.d__law_done
  b__law_done : Binds K A.d__law_done ["rows"] []
  g__law_done : mg "_law_done" = some (.ref A.a__law_done)
  F__law_moved : Fun K "_law_moved" "_law_moved" s_law_moved A.a__law_moved A.d__law_moved
  b__law_moved : Binds K A.d__law_moved ["rows", "scale", "shift"] []
  g__law_moved : mg "_law_moved" = some (.ref A.a__law_moved)
  F_law : Fun K "law" "law" s_law A.a_law A.d_law
  b_law : Binds K A.d_law ["script"] []
  g_law : mg "law" = some (.ref A.a_law)
  cl_Record : Cls K A.a_Record
  g_Record : mg "Record" = some (.ref A.a_Record)
  no_Record_thread : NoAttr K A.a_Record "thread"
  no_Record_begun : NoAttr K A.a_Record "begun"
  no_Record_ended : NoAttr K A.a_Record "ended"
  no_Record_kind : NoAttr K A.a_Record "kind"
  no_Record_reads : NoAttr K A.a_Record "reads"
  no_Record_writes : NoAttr K A.a_Record "writes"
  no_Record_stamp : NoAttr K A.a_Record "stamp"
  cl_Account : Cls K A.a_Account
  g_Account : mg "Account" = some (.ref A.a_Account)
  no_Account__records : NoAttr K A.a_Account "_records"
  no_Account__in_order : NoAttr K A.a_Account "_in_order"
  no_Account__memories : NoAttr K A.a_Account "_memories"
  no_Account__needs : NoAttr K A.a_Account "_needs"
  cl_Finder : Cls K A.a_Finder
  g_Finder : mg "Finder" = some (.ref A.a_Finder)
  no_Finder__records : NoAttr K A.a_Finder "_records"
  no_Finder__hopeless : NoAttr K A.a_Finder "_hopeless"
  e_TooLarge_TooLarge : PySem.W.exmOne K (.ref A.a_TooLarge) (.ref A.a_TooLarge) = some true
  n_len : mg "len" = none
  n_abs : mg "abs" = none
  n_int : mg "int" = none
  n_list : mg "list" = none
  n_reversed : mg "reversed" = none
  n_range : mg "range" = none
  n_isinstance : mg "isinstance" = none
  n_tuple : mg "tuple" = none
  n_str : mg "str" = none
  n_bool : mg "bool" = none
  n_dict : mg "dict" = none
  n_max : mg "max" = none
  n_all : mg "all" = none
  n_enumerate : mg "enumerate" = none
  n_sorted : mg "sorted" = none
  n_any : mg "any" = none
  g_MOST_DONE : mg "MOST_DONE" = some (.int 8 A.t_MOST_DONE)
section
variable {P : Program} {w : World} {K : PySem.W.Frag} {mg : Str → Option Value} {base : Heap} {A : Adr}
/-! ### draws -/
def DrawAt (H0 H : Hp) (p : Addr) (n : Nat) : Prop := Same H0 H ∧ H0 p = none ∧ ∃ ms : List Int, H p = some (.lst (ms.map V.int)) ∧ ms.length ≤ n
theorem DrawAt.add {H0 H : Hp} {p : Addr} {n : Nat} (h : DrawAt H0 H p n) (z : Int) {R : Hp → Prop} (hn : n < 100000) (k : ∀ H', DrawAt H0 H' p (n + 1) → R H') :
    ∃ l xs y, V.ref p = .ref l ∧ [V.int z] = [y] ∧ H l = some (.lst xs) ∧ xs.length < sizeLine ∧ R (upd H l (.lst (xs ++ [y]))) := by
  obtain ⟨h1, h2, ms, h3, h4⟩ := h
  refine ⟨p, _, _, rfl, rfl, h3, ?_, k _ ⟨Same.wr h1 h2, h2, ms ++ [z], by rw [upd_same, List.map_append]; rfl, by rw [List.length_append]; simpa using h4⟩⟩
  rw [List.length_map]
  exact Nat.lt_of_le_of_lt h4 (Nat.lt_of_lt_of_le hn (by decide))
def spDraws (K : PySem.W.Frag) : Sp := fun vs H Q _ => ∃ (a : Addr) (ns : List Int), vs = [.ref a] ∧ SqL K H a (ns.map V.int) ∧ ns.length ≤ 63 ∧
  ∀ (p : Addr) (ms : List Int) (H' : Hp), Same H H' → H p = none → H' p = some (.lst (ms.map V.int)) → Q (.ref p) H'
theorem ok_law_draws (T : Txt K mg A) : FnOk P w K mg base CX0 1 A.a__law_draws A.d__law_draws ["script"] (spDraws K) := by
  refine T.F__law_draws.ok sc_law_draws (fun vs H Q E h => ?_) (fun cdv A' outer s H vs Q E hr h => ?_)
  · obtain ⟨a, ns, rfl, _⟩ := h
    rfl
  · obtain ⟨a, ns, rfl, hS, hlen, k⟩ := h
    refine ⟨_, pss_cons (ps_set (i := 1) sc_law_draws.nd rfl (Or.inl rfl) (pe_lst pa_nil))
  (pss_cons (ps_for PassesOwn.never rfl (pi_list (pv 0)) (pg_name (i := 2) sc_law_draws.nd rfl (Or.inl rfl))
  (pss_cons (ps_set (i := 3) sc_law_draws.nd rfl (Or.inl rfl) (pe_callB call_abs (by rfl) T.n_abs (by decide +kernel) (pa_cons (pv 2) pa_nil)))
  (C8.pss_cut (ps_if (pt_cmpR op_lt (pv 3) (pe_op op_pow (pe_int) (pe_int)) (nomark _))
  (pss_cons (ps_set (i := 4) sc_law_draws.nd rfl (Or.inl rfl) (pe_op op_mod (pe_callTy call_int1 (by rfl) T.n_int (by decide +kernel) (pa_cons (pe_op op_add (pe_op op_mul (pv 3) (pe_int)) (pe_int)) pa_nil)) (pe_int)))
  (pss_cons (ps_expr (pe_bm PySem.F.plainAttrs_list PySem.F.slot_list_append PySem.F.type_list_append mt_append (pv 1) (pa_cons (pe_op op_mod (pe_callTy call_int1 (by rfl) T.n_int (by decide +kernel) (pa_cons (pe_op op_add (pe_op op_mul (pv 4) (pe_int)) (pv 3)) pa_nil)) (pe_int)) pa_nil)))
  (pss_cons (ps_expr (pe_bm PySem.F.plainAttrs_list PySem.F.slot_list_append PySem.F.type_list_append mt_append (pv 1) (pa_cons (pe_op op_mod (pe_callTy call_int1 (by rfl) T.n_int (by decide +kernel) (pa_cons (pe_op op_add (pv 4) (pe_op op_fdiv (pv 3) (pe_int))) pa_nil)) (pe_int)) pa_nil)))
  (pss_one (ps_set (i := 3) sc_law_draws.nd rfl (Or.inl rfl) (pe_int))))))
  (pss_nil))
  (pss_one (ps_for PassesOwn.never rfl (pi_range1 (by rfl) T.n_range (pa_cons (pe_int) pa_nil)) (pg_name (i := 5) sc_law_draws.nd rfl (Or.inl rfl))
  (pss_one (ps_if (pt_cmpR op_gt (pv 3) (pe_int) (nomark _))
  (pss_cons (ps_expr (pe_bm PySem.F.plainAttrs_list PySem.F.slot_list_append PySem.F.type_list_append mt_append (pv 1) (pa_cons (pe_op op_mod (pe_callTy call_int1 (by rfl) T.n_int (by decide +kernel) (pa_cons (pv 3) pa_nil)) (pe_int)) pa_nil)))
  (pss_one (ps_set (i := 3) sc_law_draws.nd rfl (Or.inl rfl) (pe_op op_fdiv (pv 3) (pe_int)))))
  (pss_nil))))))))
  (pss_cons (ps_set (i := 6) sc_law_draws.nd rfl (Or.inl rfl) (pe_int))
  (C8.pss_cut (ps_if (pt_cmpR op_gt (pe_callB call_len_seq (by rfl) T.n_len (by decide +kernel) (pa_cons (pv 0) pa_nil)) (pe_int) (nomark _))
  (pss_one (ps_set (i := 6) sc_law_draws.nd rfl (Or.inl rfl) (pe_op op_add (pe_int) (pe_callB call_abs (by rfl) T.n_abs (by decide +kernel) (pa_cons (pe_ix ix_list (pv 0) (pe_int) (fun _ _ => rfl)) pa_nil)))))
  (pss_nil))
  (pss_cons (ps_for PassesOwn.never rfl (pi_range1 (by rfl) T.n_range (pa_cons (pe_int) pa_nil)) (pg_name (i := 5) sc_law_draws.nd rfl (Or.inl rfl))
  (pss_cons (ps_set (i := 6) sc_law_draws.nd rfl (Or.inl rfl) (pe_op op_mod (pe_callTy call_int1 (by rfl) T.n_int (by decide +kernel) (pa_cons (pe_op op_add (pe_op op_mul (pv 6) (pe_int)) (pe_int)) pa_nil)) (pe_int)))
  (pss_one (ps_expr (pe_bm PySem.F.plainAttrs_list PySem.F.slot_list_append PySem.F.type_list_append mt_append (pv 1) (pa_cons (pe_op op_fdiv (pv 6) (pe_int)) pa_nil))))))
  (pss_one (ps_ret (pe_lstRev rfl (by rfl) T.n_list (by rfl) T.n_reversed (pv 1)))))))), ?_⟩
    refine ⟨Nat.zero_le _, fun p hp => ?_⟩
    have d0 : DrawAt H (upd H p (.lst [])) p 0 := ⟨Same.upd hp, hp, [], upd_same, Nat.le_refl _⟩
    refine ⟨_, rfl, a, rfl, ⟨_, d0.1.seq hS⟩, for_list (K := K) (a := a) (xs := ns.map V.int) (fun i σ H' => ∃ v2 v3 v4 v5 : Option V, σ = [some (.ref a), some (.ref p), v2, v3, v4, v5, none] ∧ DrawAt H H' p (i * 62))
      ⟨_, _, _, _, rfl, d0⟩ (fun i σ H' _ ⟨_, _, _, _, _, R⟩ => R.1.seq hS) ?_ ?_⟩
    · rintro i y σ H' hi ⟨v2, v3, v4, v5, rfl, R⟩
      have hi63 : i < ns.length := by
        have q := (List.getElem?_eq_some_iff.mp hi).1
        rw [List.length_map] at q
        exact q
      obtain ⟨u, rfl⟩ : ∃ u, y = V.int u := by
        rw [List.getElem?_map] at hi
        cases e : ns[i]? with
        | none =>
          rw [e] at hi
          cases hi
        | some u =>
          rw [e] at hi
          exact ⟨u, (Option.some.inj hi).symm⟩
      -- number = abs(cell); if number < 10 ** 18
      refine ⟨_, rfl, _, rfl, ?_⟩
      generalize (if u < 0 then -u else u) = z
      refine ⟨fun σ H1 => ∃ (z : Int) (v4 : Option V), σ = [some (.ref a), some (.ref p), some (.int u), some (.int z), v4, v5, none] ∧ DrawAt H H1 p (i * 62 + 2), ?_, ?_⟩
      · walk_at "rd"
        refine ite2 (fun _ => ?_) (fun _ => ?_)
        · walk_at "rd"
          obtain ⟨_, _, ms, h3, _⟩ := id R
          refine ⟨.inl ⟨rfl, _, SqL.of h3⟩, ?_⟩
          walk_at "rd"
          refine R.add _ (by omega) fun H1 R1 => ?_
          walk_at "rd"
          obtain ⟨_, _, ms1, h4, _⟩ := id R1
          refine ⟨.inl ⟨rfl, _, SqL.of h4⟩, ?_⟩
          walk_at "rd"
          refine R1.add _ (by omega) fun H2 R2 => ?_
          exact ⟨_, _, rfl, R2⟩
        · exact ⟨z, _, rfl, R.1, R.2.1, by obtain ⟨ms, h3, h4⟩ := R.2.2; exact ⟨ms, h3, by omega⟩⟩
      · rintro σ H1 ⟨z, v4, rfl, R1⟩
        refine ⟨60, rfl, by decide, by decide, for_range (n := 60) (fun j σ H2 => ∃ (z : Int) (v5 : Option V), σ = [some (.ref a), some (.ref p), some (.int u), some (.int z), v4, v5, none] ∧ DrawAt H H2 p (i * 62 + 2 + j)) ⟨z, _, rfl, R1⟩ ?_ ?_⟩
        · rintro j σ H2 hj ⟨z, v5, rfl, R2⟩
          walk_at "rd"
          refine ite2 (fun _ => ?_) (fun _ => ?_)
          · obtain ⟨_, _, ms1, h4, _⟩ := id R2
            walk_at "rd"
            refine ⟨.inl ⟨rfl, _, SqL.of h4⟩, ?_⟩
            walk_at "rd"
            refine R2.add _ (by omega) fun H3 R3 => ?_
            walk_at "rd"
            exact ⟨_, _, rfl, R3⟩
          · exact ⟨z, _, rfl, R2.1, R2.2.1, by obtain ⟨ms, h3, h4⟩ := R2.2.2; exact ⟨ms, h3, by omega⟩⟩
        · rintro σ H2 ⟨z, v5, rfl, R2⟩
          exact ⟨_, _, _, _, rfl, R2.1, R2.2.1, by obtain ⟨ms, h3, h4⟩ := R2.2.2; exact ⟨ms, h3, by omega⟩⟩
    · rintro σ H1 ⟨v2, v3, v4, v5, rfl, R⟩
      have R0 : DrawAt H H1 p 4000 := ⟨R.1, R.2.1, by obtain ⟨ms, h3, h4⟩ := R.2.2; rw [List.length_map] at h4; exact ⟨ms, h3, by omega⟩⟩
      refine ⟨fun σ H2 => ∃ (z : Int), σ = [some (.ref a), some (.ref p), v2, v3, v4, v5, some (.int z)] ∧ DrawAt H H2 p 4000, ?_, ?_⟩
      · refine ⟨_, rfl, a, _, rfl, .inl (R0.1.seq hS), _, _, rfl, rfl, _, rfl, ite2 (fun hn => ?_) fun _ => ⟨_, rfl, R0⟩⟩
        have h0 : 0 < ns.length := by simpa using hn
        refine ⟨_, rfl, a, _, 0, .int ns[0], rfl, rfl, R0.1.seq hS, atI_nat (j := 0) (by simp [h0]), ?_⟩
        walk_at "rd"
        exact R0
      · rintro σ H2 ⟨z, rfl, R1⟩
        refine ⟨240, rfl, by decide, by decide, for_range (n := 240) (fun j σ H2 => ∃ (z : Int) (v5 : Option V), σ = [some (.ref a), some (.ref p), v2, v3, v4, v5, some (.int z)] ∧ DrawAt H H2 p (4000 + j)) ⟨z, _, rfl, R1⟩ ?_ ?_⟩
        · rintro j σ H2 hj ⟨z, v5, rfl, R2⟩
          walk_at "rd"
          obtain ⟨_, _, ms1, h4, _⟩ := id R2
          refine ⟨.inl ⟨rfl, _, SqL.of h4⟩, ?_⟩
          walk_at "rd"
          refine R2.add _ (by omega) fun H3 R3 => ?_
          exact ⟨_, _, rfl, R3⟩
        · rintro σ H2 ⟨z, v5, rfl, R2⟩
          obtain ⟨e1, e2, ms, h3, _⟩ := R2
          refine ⟨_, rfl, p, _, rfl, SqL.of h3, fun q hq => ?_⟩
          refine k q ms.reverse _ (e1.trans (Same.upd hq)) (e1.free hq) ?_
          rw [upd_same, List.map_reverse]
/-! ### one draw -/
def spTake : Sp := fun vs H Q _ => ∃ (p : Addr) (b : Int), vs = [.ref p, .int b] ∧ Row H p ∧ 0 < b ∧ ∀ (z : Int) (H' : Hp), 0 ≤ z → z < b → Fr [p] H H' → Row H' p → Q (.int z) H'
theorem ok_law_take (T : Txt K mg A) : FnOk P w K mg base CX0 1 A.a__law_take A.d__law_take ["draws", "bound"] spTake := by
  refine T.F__law_take.ok sc_law_take (fun vs H Q E h => ?_) (fun cdv A' outer s H vs Q E hr h => ?_)
  · obtain ⟨p, b, rfl, _⟩ := h
    rfl
  · obtain ⟨p, b, rfl, ⟨ns, hp⟩, hb, k⟩ := h
    refine ⟨_, pss_cons (ps_if (pt_cmpR op_eq (pe_callB call_len_seq (by rfl) T.n_len (by decide +kernel) (pa_cons (pv 0) pa_nil)) (pe_int) (nomark _))
  (pss_one (ps_ret (pe_int)))
  (pss_nil))
  (pss_one (ps_ret (pe_op op_mod (pe_callTy call_int1 (by rfl) T.n_int (by decide +kernel) (pa_cons (pe_bm0 PySem.F.plainAttrs_list PySem.F.slot_list_pop PySem.F.type_list_pop mt_pop (pv 0)) pa_nil)) (pv 1)))), ?_⟩
    refine ⟨_, rfl, p, _, rfl, .inl (SqL.of hp), rfl, _, rfl, ite2 (fun hn => ?_) fun hn => ?_⟩
    · exact k 0 H (Int.le_refl _) hb .refl ⟨ns, hp⟩
    · have hl : ns.length ≠ 0 := fun e => hn (by simp [e])
      refine ⟨_, rfl, .inl ⟨rfl, _, SqL.of hp⟩, p, _, .int (ns[ns.length - 1]'(by omega)), rfl, rfl, hp, ?_, .inl ⟨_, rfl, _, rfl, _, _, rfl, rfl, hb, ?_⟩⟩
      · rw [List.length_map, List.getElem?_map, List.getElem?_eq_getElem (by omega)]
        rfl
      · refine k _ _ (Int.emod_nonneg _ (by omega)) (Int.emod_lt_of_pos _ hb) (Fr.refl.wr (by simp)) ⟨ns.dropLast, ?_⟩
        rw [upd_same, List.map_dropLast]
theorem go_take {σ : L2.St} {H : Hp} {ta : TA} {p : Addr} {m : Int} {E : XK} {Q : VK} (ha : Ta ta σ H [.ref p, .int m]) (r : Row H p) (h0 : 0 < m) (k : ∀ r H', 0 ≤ r → r < m → Fr [p] H H' → Row H' p → Q (.int r) H') : tCall spTake [] E ta σ H Q :=
  ha _ ⟨p, m, rfl, r, h0, k⟩
/-! ### two trees are the same -/
theorem tyx_tup {H : Hp} {a : Addr} {xs : List V} (h : SqT K H a xs) : TyX K H (.ref a) (.type "tuple") := by
  rcases h with (h | ⟨o, h⟩) | ⟨o, its, n, h, c, _⟩
  · exact .base (.tup h)
  · exact .fTuple h
  · exact .kTuple h c
theorem tyx_lst {H : Hp} {a : Addr} {xs : List V} (h : SqL K H a xs) : TyX K H (.ref a) (.type "list") := by
  rcases h with (h | ⟨o, h⟩) | ⟨o, its, n, h, c, _⟩
  · exact .base (.lst h)
  · exact .base (.frz h)
  · exact .kList h c
theorem ixs {H : Hp} {p : Addr} {xs : List V} {i : Nat} {v : V} {Q : VK} (h : SqL K H p xs ∨ SqT K H p xs) (e : xs[i]? = some v) (q : Q v H) : rIx K (.ref p) (.int (0 + (i : Int))) H Q := by
  have e' : atI xs (0 + (i : Int)) = some v := by
    rw [Int.zero_add]
    exact atI_nat e
  rcases h with h | h
  · exact .inl ⟨p, xs, _, v, rfl, rfl, h, e', q⟩
  · exact .inr (.inl ⟨p, xs, _, v, rfl, rfl, h, e', q⟩)
def tyN : D → String
  | .tup _ => "tuple"
  | .lst _ => "list"
  | .bl _ => "bool"
  | .int _ => "int"
  | .str _ => "str"
  | _ => "NoneType"
def seqD : D → Bool
  | .tup _ => true
  | .lst _ => true
  | _ => false
theorem kits (d : D) : ∃ t l b i s : Bool, PySem.W.kitOne K (.type (tyN d)) (.type "tuple") = some t ∧ PySem.W.kitOne K (.type (tyN d)) (.type "list") = some l ∧ PySem.W.kitOne K (.type (tyN d)) (.type "bool") = some b ∧
    PySem.W.kitOne K (.type (tyN d)) (.type "int") = some i ∧ PySem.W.kitOne K (.type (tyN d)) (.type "str") = some s ∧ (t || l) = seqD d := by
  have k1 : kitB "tuple" "tuple" = some true := by decide +kernel
  have k2 : kitB "tuple" "list" = some false := by decide +kernel
  have k3 : kitB "tuple" "bool" = some false := by decide +kernel
  have k4 : kitB "tuple" "int" = some false := by decide +kernel
  have k5 : kitB "tuple" "str" = some false := by decide +kernel
  have l1 : kitB "list" "tuple" = some false := by decide +kernel
  have l2 : kitB "list" "list" = some true := by decide +kernel
  have l3 : kitB "list" "bool" = some false := by decide +kernel
  have l4 : kitB "list" "int" = some false := by decide +kernel
  have l5 : kitB "list" "str" = some false := by decide +kernel
  have b1 : kitB "bool" "tuple" = some false := by decide +kernel
  have b2 : kitB "bool" "list" = some false := by decide +kernel
  have b3 : kitB "bool" "bool" = some true := by decide +kernel
  have b4 : kitB "bool" "int" = some true := by decide +kernel
  have b5 : kitB "bool" "str" = some false := by decide +kernel
  have i1 : kitB "int" "tuple" = some false := by decide +kernel
  have i2 : kitB "int" "list" = some false := by decide +kernel
  have i3 : kitB "int" "bool" = some false := by decide +kernel
  have i4 : kitB "int" "int" = some true := by decide +kernel
  have i5 : kitB "int" "str" = some false := by decide +kernel
  have s1 : kitB "str" "tuple" = some false := by decide +kernel
  have s2 : kitB "str" "list" = some false := by decide +kernel
  have s3 : kitB "str" "bool" = some false := by decide +kernel
  have s4 : kitB "str" "int" = some false := by decide +kernel
  have s5 : kitB "str" "str" = some true := by decide +kernel
  have n1 : kitB "NoneType" "tuple" = some false := by decide +kernel
  have n2 : kitB "NoneType" "list" = some false := by decide +kernel
  have n3 : kitB "NoneType" "bool" = some false := by decide +kernel
  have n4 : kitB "NoneType" "int" = some false := by decide +kernel
  have n5 : kitB "NoneType" "str" = some false := by decide +kernel
  cases d with
  | tup ds => exact ⟨_, _, _, _, _, kit_ty k1, kit_ty k2, kit_ty k3, kit_ty k4, kit_ty k5, rfl⟩
  | lst ds => exact ⟨_, _, _, _, _, kit_ty l1, kit_ty l2, kit_ty l3, kit_ty l4, kit_ty l5, rfl⟩
  | bl b => exact ⟨_, _, _, _, _, kit_ty b1, kit_ty b2, kit_ty b3, kit_ty b4, kit_ty b5, rfl⟩
  | int b => exact ⟨_, _, _, _, _, kit_ty i1, kit_ty i2, kit_ty i3, kit_ty i4, kit_ty i5, rfl⟩
  | str b => exact ⟨_, _, _, _, _, kit_ty s1, kit_ty s2, kit_ty s3, kit_ty s4, kit_ty s5, rfl⟩
  | _ => exact ⟨_, _, _, _, _, kit_ty n1, kit_ty n2, kit_ty n3, kit_ty n4, kit_ty n5, rfl⟩
theorem nil_of {H : Hp} {d : D} (r : Rp K H d []) : d = .nil := by
  cases d with
  | nil => rfl
  | tup ds =>
    obtain ⟨_, _, e, _⟩ := r
    cases e
  | lst ds =>
    obtain ⟨_, _, e, _⟩ := r
    cases e
  | cons a b =>
    obtain ⟨_, _, e, _⟩ := r
    cases e
  | _ => cases r
theorem no_cons {H : Hp} {a b : D} {x : V} (r : Rp K H (.cons a b) [x]) (h : (D.cons a b).isRow = false) : False := by
  obtain ⟨_, _, e, _, r2⟩ := r
  cases e
  rw [nil_of r2] at h
  cases h
theorem tyx_of {H : Hp} {d : D} {x : V} (r : Rp K H d [x]) (h : d.isRow = false) : TyX K H x (.type (tyN d)) := by
  cases d with
  | tup ds =>
    obtain ⟨p, xs, e1, r1, _⟩ := r
    cases e1
    exact tyx_tup r1
  | lst ds =>
    obtain ⟨p, xs, e1, r1, _⟩ := r
    cases e1
    exact tyx_lst r1
  | bl b =>
    cases r
    exact .base (.bl _)
  | int b =>
    cases r
    exact .base (.int _)
  | str b =>
    cases r
    exact .base (.str _)
  | non =>
    cases r
    exact .base .non
  | nil => cases h
  | cons a b => exact (no_cons r h).elim
theorem seq_of {H : Hp} {d : D} {x : V} (r : Rp K H d [x]) (h : seqD d = true) (o : d.ok = true) : ∃ (p : Addr) (xs : List V) (ds : D), x = .ref p ∧ (SqL K H p xs ∨ SqT K H p xs) ∧ xs.length ≤ 100000 ∧ Rp K H ds xs ∧ ds.isRow = true ∧ ds.ok = true ∧ d.dep = ds.dep + 1 ∧ (d = .tup ds ∨ d = .lst ds) := by
  cases d with
  | tup ds =>
    obtain ⟨p, xs, e1, r1, r2, r3⟩ := r
    cases e1
    simp only [D.ok, Bool.and_eq_true] at o
    exact ⟨p, xs, ds, rfl, .inr r1, r2, r3, o.1, o.2, rfl, .inl rfl⟩
  | lst ds =>
    obtain ⟨p, xs, e1, r1, r2, r3⟩ := r
    cases e1
    simp only [D.ok, Bool.and_eq_true] at o
    exact ⟨p, xs, ds, rfl, .inl r1, r2, r3, o.1, o.2, rfl, .inr rfl⟩
  | _ => cases h
theorem scal_of {H : Hp} {d : D} {x y : V} (r : Rp K H d [x]) (r2 : Rp K H d [y]) (h : seqD d = false) (o : d.isRow = false) : x = y ∧ scal x y = true := by
  cases d with
  | tup ds => cases h
  | lst ds => cases h
  | nil => cases o
  | cons a b => exact (no_cons r o).elim
  | _ =>
    cases r
    cases r2
    exact ⟨rfl, rfl⟩
def spSame (K : PySem.W.Frag) (n : Nat) : Sp := fun vs H Q _ => ∃ (x y : V) (d : D), vs = [x, y] ∧ Rp K H d [x] ∧ Rp K H d [y] ∧ d.isRow = false ∧ d.ok = true ∧ d.dep < n ∧ Q (.bl true) H
theorem ok_law_same (T : Txt K mg A) : ∀ n, FnOk P w K mg base CX0 n A.a__law_same A.d__law_same ["actual", "due"] (spSame K n) := by
  intro n
  induction n with
  | zero => exact ⟨fun vs H Q E ⟨_, _, _, _, _, _, _, _, h, _⟩ => absurd h (Nat.not_lt_zero _), fun _ _ _ _ _ _ _ _ _ _ _ _ _ ⟨_, _, _, _, _, _, _, _, h, _⟩ => absurd h (Nat.not_lt_zero _)⟩
  | succ n ih =>
    refine T.F__law_same.ok sc_law_same (fun vs H Q E h => ?_) (fun cdv A' outer s H vs Q E hr h => ?_)
    · obtain ⟨x, y, d, rfl, _⟩ := h
      rfl
    · obtain ⟨x, y, d, rfl, hx, hy, h1, h2, h3, k⟩ := h
      refine ⟨_, pss_cons (ps_if (PW.pt (pw_or (pt_val (pe_callB call_isi (by rfl) T.n_isinstance (by decide +kernel) (pa_cons (pv 1) (pa_cons (pe_bltn (v := .ty "tuple") (by rfl) T.n_tuple (by decide +kernel) rfl) pa_nil)))) (pw_or1 (pt_val (pe_callB call_isi (by rfl) T.n_isinstance (by decide +kernel) (pa_cons (pv 1) (pa_cons (pe_bltn (v := .ty "list") (by rfl) T.n_list (by decide +kernel) rfl) pa_nil)))))))
  (pss_cons (ps_if (PW.pt (pw_or (pt_cmpR op_ne (pe_callB call_isi (by rfl) T.n_isinstance (by decide +kernel) (pa_cons (pv 1) (pa_cons (pe_bltn (v := .ty "tuple") (by rfl) T.n_tuple (by decide +kernel) rfl) pa_nil))) (pe_callB call_isi (by rfl) T.n_isinstance (by decide +kernel) (pa_cons (pv 0) (pa_cons (pe_bltn (v := .ty "tuple") (by rfl) T.n_tuple (by decide +kernel) rfl) pa_nil))) (nomark _)) (pw_or1 (pt_cmpR op_ne (pe_callB call_isi (by rfl) T.n_isinstance (by decide +kernel) (pa_cons (pv 1) (pa_cons (pe_bltn (v := .ty "list") (by rfl) T.n_list (by decide +kernel) rfl) pa_nil))) (pe_callB call_isi (by rfl) T.n_isinstance (by decide +kernel) (pa_cons (pv 0) (pa_cons (pe_bltn (v := .ty "list") (by rfl) T.n_list (by decide +kernel) rfl) pa_nil))) (nomark _)))))
  (pss_one (ps_ret (pe_bl)))
  (pss_nil))
  (pss_cons (ps_if (pt_cmpR op_ne (pe_callB call_len_seq (by rfl) T.n_len (by decide +kernel) (pa_cons (pv 0) pa_nil)) (pe_callB call_len_seq (by rfl) T.n_len (by decide +kernel) (pa_cons (pv 1) pa_nil)) (nomark _))
  (pss_one (ps_ret (pe_bl)))
  (pss_nil))
  (pss_cons (ps_for PassesOwn.never rfl (pi_range1 (by rfl) T.n_range (pa_cons (pe_callB call_len_seq (by rfl) T.n_len (by decide +kernel) (pa_cons (pv 1) pa_nil)) pa_nil)) (pg_name (i := 2) sc_law_same.nd rfl (Or.inl rfl))
  (pss_one (ps_if (pt_not (pt_val (pe_call ih (hr.mono (by omega)) rfl T.g__law_same T.F__law_same.kp T.b__law_same .nil pass0 (pa_cons (pe_ix ix_seq (pv 0) (pv 2) (fun _ _ => rfl)) (pa_cons (pe_ix ix_seq (pv 1) (pv 2) (fun _ _ => rfl)) pa_nil)))))
  (pss_one (ps_ret (pe_bl)))
  (pss_nil))))
  (pss_one (ps_ret (pe_bl))))))
  (pss_nil))
  (pss_cons (ps_if (pt_cmpR op_ne (pe_callB call_isi (by rfl) T.n_isinstance (by decide +kernel) (pa_cons (pv 1) (pa_cons (pe_bltn (v := .ty "bool") (by rfl) T.n_bool (by decide +kernel) rfl) pa_nil))) (pe_callB call_isi (by rfl) T.n_isinstance (by decide +kernel) (pa_cons (pv 0) (pa_cons (pe_bltn (v := .ty "bool") (by rfl) T.n_bool (by decide +kernel) rfl) pa_nil))) (nomark _))
  (pss_one (ps_ret (pe_bl)))
  (pss_nil))
  (pss_cons (ps_if (PW.pt (pw_or (pt_cmpR op_ne (pe_callB call_isi (by rfl) T.n_isinstance (by decide +kernel) (pa_cons (pv 1) (pa_cons (pe_bltn (v := .ty "int") (by rfl) T.n_int (by decide +kernel) rfl) pa_nil))) (pe_callB call_isi (by rfl) T.n_isinstance (by decide +kernel) (pa_cons (pv 0) (pa_cons (pe_bltn (v := .ty "int") (by rfl) T.n_int (by decide +kernel) rfl) pa_nil))) (nomark _)) (pw_or1 (pt_cmpR op_ne (pe_callB call_isi (by rfl) T.n_isinstance (by decide +kernel) (pa_cons (pv 1) (pa_cons (pe_bltn (v := .ty "str") (by rfl) T.n_str (by decide +kernel) rfl) pa_nil))) (pe_callB call_isi (by rfl) T.n_isinstance (by decide +kernel) (pa_cons (pv 0) (pa_cons (pe_bltn (v := .ty "str") (by rfl) T.n_str (by decide +kernel) rfl) pa_nil))) (nomark _)))))
  (pss_one (ps_ret (pe_bl)))
  (pss_nil))
  (pss_one (ps_ret (pe_cmpR op_eq (pv 0) (pv 1) (nomark _)))))), ?_⟩
      obtain ⟨t, l, b, i, z, kt, kl, kb, ki, kz, e⟩ := kits (K := K) d
      have tx := tyx_of hx h1
      have ty := tyx_of hy h1
      cases hs : seqD d with
      | true =>
        rw [hs] at e
        obtain ⟨p, xs, ds, rfl, r1, l1, g1, w1, o1, e1, c1⟩ := seq_of hx hs h2
        obtain ⟨q, ys, ds', rfl, r2, l2, g2, w2, o2, e2, c2⟩ := seq_of hy hs h2
        have eds : ds' = ds := by
          rcases c1 with c1 | c1 <;> rcases c2 with c2 | c2 <;> rw [c1] at c2 <;> first | (cases c2; rfl) | cases c2
        subst eds
        have el : ys.length = xs.length := by rw [Rp.row_len w1 g1, Rp.row_len w1 g2]
        have hS1 : ∀ {i : Nat} {v : V}, xs[i]? = some v → ∃ c u, ys[i]? = some u ∧ c.isRow = false ∧ c.ok = true ∧ c.dep ≤ ds'.dep ∧ Rp K H c [v] ∧ Rp K H c [u] := fun {i v} e => Rp.at_ w1 o1 g1 e g2
        have fin : Q (.bl true) H := k
        cases t with
        | true =>
          refine ⟨_, rfl, _, _, _, _, _, rfl, .ty _, ty, kt, _, rfl, iteT ?_⟩
          refine ⟨_, rfl, _, _, _, _, _, rfl, .ty _, ty, kt, _, rfl, _, _, _, _, _, rfl, .ty _, tx, kt, rfl, _, rfl, iteNS rfl ?_⟩
          refine ⟨_, rfl, _, _, _, _, _, rfl, .ty _, ty, kl, _, rfl, _, _, _, _, _, rfl, .ty _, tx, kl, rfl, _, rfl, iteNS rfl ?_⟩
          refine ⟨_, rfl, _, _, rfl, r1, _, rfl, _, _, rfl, r2, rfl, _, rfl, iteNS (by rw [el]) ?_⟩
          refine ⟨_, rfl, _, _, rfl, r2, _, rfl, by omega, by omega, for_range (n := ys.length) (fun i σ H' => ∃ v : Option V, σ = [some (.ref p), some (.ref q), v] ∧ H' = H) ⟨_, rfl, rfl⟩ ?_ ?_⟩
          · rintro i σ H' hi ⟨v, rfl, rfl⟩
            have hj : i < xs.length := by omega
            obtain ⟨c, u, a1, a2, a3, a4, a5, a6⟩ := hS1 (i := i) (List.getElem?_eq_getElem hj)
            refine ⟨_, rfl, _, rfl, ixs r1 (List.getElem?_eq_getElem hj) ⟨_, rfl, _, rfl, ixs r2 a1 ?_⟩⟩
            refine ⟨_, _, c, rfl, a5, a6, a2, a3, by omega, _, rfl, ?_⟩
            exact iteF ⟨_, rfl, rfl⟩
          · rintro σ H' ⟨v, rfl, rfl⟩
            exact fin
        | false =>
          obtain rfl : l = true := by simpa using e
          refine ⟨_, rfl, _, _, _, _, _, rfl, .ty _, ty, kt, _, rfl, iteF ⟨_, rfl, _, _, _, _, _, rfl, .ty _, ty, kl, _, rfl, iteT ?_⟩⟩
          refine ⟨_, rfl, _, _, _, _, _, rfl, .ty _, ty, kt, _, rfl, _, _, _, _, _, rfl, .ty _, tx, kt, rfl, _, rfl, iteNS rfl ?_⟩
          refine ⟨_, rfl, _, _, _, _, _, rfl, .ty _, ty, kl, _, rfl, _, _, _, _, _, rfl, .ty _, tx, kl, rfl, _, rfl, iteNS rfl ?_⟩
          refine ⟨_, rfl, _, _, rfl, r1, _, rfl, _, _, rfl, r2, rfl, _, rfl, iteNS (by rw [el]) ?_⟩
          refine ⟨_, rfl, _, _, rfl, r2, _, rfl, by omega, by omega, for_range (n := ys.length) (fun i σ H' => ∃ v : Option V, σ = [some (.ref p), some (.ref q), v] ∧ H' = H) ⟨_, rfl, rfl⟩ ?_ ?_⟩
          · rintro i σ H' hi ⟨v, rfl, rfl⟩
            have hj : i < xs.length := by omega
            obtain ⟨c, u, a1, a2, a3, a4, a5, a6⟩ := hS1 (i := i) (List.getElem?_eq_getElem hj)
            refine ⟨_, rfl, _, rfl, ixs r1 (List.getElem?_eq_getElem hj) ⟨_, rfl, _, rfl, ixs r2 a1 ?_⟩⟩
            refine ⟨_, _, c, rfl, a5, a6, a2, a3, by omega, _, rfl, ?_⟩
            exact iteF ⟨_, rfl, rfl⟩
          · rintro σ H' ⟨v, rfl, rfl⟩
            exact fin
      | false =>
        rw [hs] at e
        obtain ⟨rfl, rfl⟩ : t = false ∧ l = false := by simpa using e
        obtain ⟨rfl, hsc⟩ := scal_of hx hy hs h1
        refine ⟨_, rfl, _, _, _, _, _, rfl, .ty _, ty, kt, _, rfl, iteF ⟨_, rfl, _, _, _, _, _, rfl, .ty _, ty, kl, _, rfl, iteF ?_⟩⟩
        refine ⟨_, rfl, _, _, _, _, _, rfl, .ty _, ty, kb, _, rfl, _, _, _, _, _, rfl, .ty _, tx, kb, rfl, _, rfl, iteNS rfl ?_⟩
        refine ⟨_, rfl, _, _, _, _, _, rfl, .ty _, ty, ki, _, rfl, _, _, _, _, _, rfl, .ty _, tx, ki, rfl, _, rfl, iteNS rfl ?_⟩
        refine ⟨_, rfl, _, _, _, _, _, rfl, .ty _, ty, kz, _, rfl, _, _, _, _, _, rfl, .ty _, tx, kz, rfl, _, rfl, iteNS rfl ?_⟩
        refine ⟨_, rfl, _, rfl, hsc, ?_⟩
        rw [decide_eq_true rfl]
        exact k
end
end O43

namespace O43
open PySem L2 YF
/-! ### records: plain, as rows of the law, as objects -/
structure Rc where
  kd : Str
  rd : Mp
  wr : Mp
  bg : Int
  en : Int
def Rc.xs (r : Rc) (rd wr : Addr) : List V := [.str r.kd, .ref rd, .ref wr, .int r.bg, .int r.en]
def RowAt (H : Hp) (v : V) (r : Rc) : Prop := ∃ a rd wr, v = .ref a ∧ H a = some (.lst (r.xs rd wr)) ∧ H rd = some (.dK (kvI r.rd)) ∧ H wr = some (.dK (kvI r.wr))
def RowsIn (H : Hp) (a : Addr) (rs : List Rc) : Prop := ∃ vs, H a = some (.lst vs) ∧ Paired (RowAt H) vs rs ∧ rs.length ≤ 1000
def Rc.fs (r : Rc) (k : Int × Int) (rd wr : Addr) : List (Str × V) := [("thread", .int k.1), ("begun", .int r.bg), ("ended", .int r.en), ("kind", .str r.kd), ("reads", .ref rd), ("writes", .ref wr), ("stamp", .int k.2)]
def RecAt (A : Adr) (H : Hp) (v : V) (r : Rc) : Prop := ∃ a dx rd wr k, v = .ref a ∧ H a = some (.ins A.a_Record dx (r.fs k rd wr)) ∧ H rd = some (.dK (kvI r.rd)) ∧ H wr = some (.dK (kvI r.wr))
def RecsIn (A : Adr) (H : Hp) (a : Addr) (rs : List Rc) : Prop := ∃ vs, H a = some (.lst vs) ∧ Paired (RecAt A H) vs rs ∧ rs.length ≤ 1000
theorem RowAt.mono {H H' : Hp} {v : V} {r : Rc} (h : RowAt H v r) (s : Same H H') : RowAt H' v r := by
  obtain ⟨a, rd, wr, e, h1, h2, h3⟩ := h
  exact ⟨a, rd, wr, e, s _ _ h1, s _ _ h2, s _ _ h3⟩
theorem RowsIn.mono {H H' : Hp} {a : Addr} {rs : List Rc} (h : RowsIn H a rs) (s : Same H H') : RowsIn H' a rs := by
  obtain ⟨vs, h1, h2, h3⟩ := h
  exact ⟨vs, s _ _ h1, L2.Paired.mapP h2 fun _ _ q => q.mono s, h3⟩
theorem RecAt.mono {A : Adr} {H H' : Hp} {v : V} {r : Rc} (h : RecAt A H v r) (s : Same H H') : RecAt A H' v r := by
  obtain ⟨a, dx, rd, wr, k, e, h1, h2, h3⟩ := h
  exact ⟨a, dx, rd, wr, k, e, s _ _ h1, s _ _ h2, s _ _ h3⟩
theorem RecsIn.mono {A : Adr} {H H' : Hp} {a : Addr} {rs : List Rc} (h : RecsIn A H a rs) (s : Same H H') : RecsIn A H' a rs := by
  obtain ⟨vs, h1, h2, h3⟩ := h
  exact ⟨vs, s _ _ h1, L2.Paired.mapP h2 fun _ _ q => q.mono s, h3⟩
section
variable {P : Program} {w : World} {K : PySem.W.Frag} {mg : Str → Option Value} {base : Heap} {A : Adr}
/-- self.f = a new object -/
theorem new_fld {σ : L2.St} {H : Hp} {te : TE} {D : Ends} {i : Nat} {x C dx : Addr} {fs : List (Str × V)} {f : Str} {o : HO} (hs : σ[i]? = some (some (.ref x))) (hx : H x = some (.ins C dx fs)) (c : Cls K C) (n : NoAttr K C f) (l : fs.length < 1000) (hte : ∀ Q : VK, (∀ a, H a = none → Q (.ref a) (upd H a o)) → te σ H Q)
    (k : ∀ a H', H a = none → a ≠ x → (∀ b u, b ≠ x → H b = some u → H' b = some u) → H' a = some o → H' x = some (.ins C dx (putF f (.ref a) fs)) → D.nx σ H') : sFld K (tVar i) te f D σ H :=
  hte _ fun a ha => by
    have nax : a ≠ x := (ne_of_none hx ha).symm
    refine ⟨_, hs, x, C, dx, fs, rfl, by rw [upd_ne nax.symm]; exact hx, c, n, l, k a _ ha nax (fun b u nb e => ?_) (by rw [upd_ne nax]; exact upd_same) upd_same⟩
    rw [upd_ne nb, upd_ne (ne_of_none e ha)]
    exact e
theorem fr_ins {H : Hp} {x : Addr} {o : HO} : Fr [x] H (upd H x o) := Fr.refl.wr (by simp)
/-! ### a record is made -/
def spRec (A : Adr) : Sp := fun vs H Q _ => ∃ (x dx r0 w0 : Addr) (r : Rc) (k : Int × Int), vs = [.ref x, .int k.1, .int r.bg, .int r.en, .str r.kd, .ref r0, .ref w0, .int k.2] ∧ H x = some (.ins A.a_Record dx []) ∧ H r0 = some (.dK (kvI r.rd)) ∧ H w0 = some (.dK (kvI r.wr)) ∧
  ∀ H', Fr [x] H H' → RecAt A H' (.ref x) r → Q .non H'
theorem ok_Record___init__ (T : Txt K mg A) : FnOk P w K mg base CX0 1 A.a_Record___init__ A.d_Record___init__ ["self", "thread", "begun", "ended", "kind", "reads", "writes", "stamp"] (spRec A) := by
  refine T.F_Record___init__.ok sc_Record___init__ (fun vs H Q E ⟨_, _, _, _, _, _, e, _⟩ => by rw [e]; rfl) (fun cdv A' outer s H vs Q E hr h => ?_)
  obtain ⟨x, dx, r0, w0, r, k, rfl, hx, h1, h2, q⟩ := h
  refine ⟨_, pss_cons (ps_fld (pv 0) (pv 1) rfl)
  (pss_cons (ps_fld (pv 0) (pv 2) rfl)
  (pss_cons (ps_fld (pv 0) (pv 3) rfl)
  (pss_cons (ps_fld (pv 0) (pv 4) rfl)
  (pss_cons (ps_fld (pv 0) (pe_callTy call_dictD (by rfl) T.n_dict (by decide +kernel) (pa_cons (pv 5) pa_nil)) rfl)
  (pss_cons (ps_fld (pv 0) (pe_callTy call_dictD (by rfl) T.n_dict (by decide +kernel) (pa_cons (pv 6) pa_nil)) rfl)
  (pss_one (ps_fld (pv 0) (pv 7) rfl))))))), ?_⟩
  have n1 : r0 ≠ x := ne_of h1 hx (by intro z; cases z)
  have n2 : w0 ≠ x := ne_of h2 hx (by intro z; cases z)
  refine st_fld (te_var rfl) (te_var rfl) hx T.cl_Record T.no_Record_thread (by show 0 < 1000; decide) ?_
  refine st_fld (te_var rfl) (te_var rfl) upd_same T.cl_Record T.no_Record_begun (by show 1 < 1000; decide) ?_
  refine st_fld (te_var rfl) (te_var rfl) upd_same T.cl_Record T.no_Record_ended (by show 2 < 1000; decide) ?_
  refine st_fld (te_var rfl) (te_var rfl) upd_same T.cl_Record T.no_Record_kind (by show 3 < 1000; decide) ?_
  have s1 : Fr [x] H (upd (upd (upd (upd H x (.ins A.a_Record dx (putF "thread" (.int k.1) []))) x (.ins A.a_Record dx (putF "begun" (.int r.bg) (putF "thread" (.int k.1) [])))) x (.ins A.a_Record dx (putF "ended" (.int r.en) (putF "begun" (.int r.bg) (putF "thread" (.int k.1) []))))) x (.ins A.a_Record dx (putF "kind" (.str r.kd) (putF "ended" (.int r.en) (putF "begun" (.int r.bg) (putF "thread" (.int k.1) [])))))) := ((fr_ins.trans fr_ins).trans fr_ins).trans fr_ins
  have e1 : (upd (upd (upd (upd H x (.ins A.a_Record dx (putF "thread" (.int k.1) []))) x (.ins A.a_Record dx (putF "begun" (.int r.bg) (putF "thread" (.int k.1) [])))) x (.ins A.a_Record dx (putF "ended" (.int r.en) (putF "begun" (.int r.bg) (putF "thread" (.int k.1) []))))) x (.ins A.a_Record dx (putF "kind" (.str r.kd) (putF "ended" (.int r.en) (putF "begun" (.int r.bg) (putF "thread" (.int k.1) [])))))) x = some (.ins A.a_Record dx [("thread", .int k.1), ("begun", .int r.bg), ("ended", .int r.en), ("kind", .str r.kd)]) := upd_same
  generalize upd (upd (upd (upd H x (HO.ins A.a_Record dx (putF "thread" (.int k.1) []))) x (.ins A.a_Record dx (putF "begun" (.int r.bg) (putF "thread" (.int k.1) [])))) x (.ins A.a_Record dx (putF "ended" (.int r.en) (putF "begun" (.int r.bg) (putF "thread" (.int k.1) []))))) x (.ins A.a_Record dx (putF "kind" (.str r.kd) (putF "ended" (.int r.en) (putF "begun" (.int r.bg) (putF "thread" (.int k.1) []))))) = H1 at s1 e1 ⊢
  refine sq_go (new_fld (o := .dK (kvI r.rd)) rfl e1 T.cl_Record T.no_Record_reads (by show 4 < 1000; decide) (fun Q q => ⟨_, rfl, r0, _, rfl, .inl (s1 _ _ (by simp [n1]) h1), q⟩) fun a H2 ha na s2 u2 e2 => ?_)
  dsimp only
  refine sq_go (new_fld (o := .dK (kvI r.wr)) rfl e2 T.cl_Record T.no_Record_writes (by show 5 < 1000; decide) (fun Q q => ⟨_, rfl, w0, _, rfl, .inl (s2 _ _ n2 (s1 _ _ (by simp [n2]) h2)), q⟩) fun b H3 hb nb s3 u3 e3 => ?_)
  dsimp only
  refine (te_var rfl : Te _ _ _ (.int k.2)) _ ((te_var rfl : Te _ _ _ (.ref x)) _ ⟨x, _, _, _, rfl, e3, T.cl_Record, T.no_Record_stamp, by show 6 < 1000; decide, ?_⟩)
  refine q _ (fun c o n e => ?_) ⟨x, dx, a, b, k, rfl, upd_same, ?_, ?_⟩
  · have n : c ≠ x := by simpa using n
    rw [upd_ne n]
    exact s3 _ _ n (s2 _ _ n (s1 _ _ (by simp [n]) e))
  · rw [upd_ne na]
    exact s3 _ _ na u2
  · rw [upd_ne nb]
    exact u3
end
end O43

namespace O43
open PySem L2 YF
/-! ### which ones are done -/
def Rc.dn (r : Rc) : Bool := decide (r.kd = "done")
def dnAt (rs : List Rc) (k : Nat) : Bool := match rs[k]? with
  | some r => r.dn
  | none => false
def doneTo (rs : List Rc) (i : Nat) : List Int := ((List.range i).filter (dnAt rs)).map fun k : Nat => (k : Int)
def doneP (rs : List Rc) : List Int := doneTo rs rs.length
theorem doneTo_succ {rs : List Rc} {i : Nat} : doneTo rs (i + 1) = doneTo rs i ++ (if dnAt rs i = true then [(i : Int)] else []) := by
  unfold doneTo
  rw [List.range_succ, List.filter_append, List.map_append]
  congr 1
  by_cases h : dnAt rs i = true
  · simp [h]
  · simp [h]
theorem doneTo_len {rs : List Rc} {i : Nat} : (doneTo rs i).length ≤ i := by
  unfold doneTo
  rw [List.length_map]
  exact Nat.le_trans (List.length_filter_le _ (List.range i)) (by rw [List.length_range]; exact Nat.le_refl _)
theorem doneP_mem {rs : List Rc} {x : Int} (h : x ∈ doneP rs) : ∃ k : Nat, x = k ∧ k < rs.length ∧ dnAt rs k = true := by
  unfold doneP doneTo at h
  obtain ⟨k, h1, h2⟩ := List.mem_map.mp h
  obtain ⟨h3, h4⟩ := List.mem_filter.mp h1
  exact ⟨k, h2.symm, List.mem_range.mp h3, h4⟩
theorem doneP_of {rs : List Rc} {k : Nat} (h : k < rs.length) (d : dnAt rs k = true) : (k : Int) ∈ doneP rs :=
  List.mem_map.mpr ⟨k, List.mem_filter.mpr ⟨List.mem_range.mpr h, d⟩, rfl⟩
theorem doneP_nodup {rs : List Rc} : (doneP rs).Nodup := by
  unfold doneP doneTo
  exact List.Pairwise.map _ (fun a b h => by omega) (List.Pairwise.filter _ List.nodup_range)
section
variable {P : Program} {w : World} {K : PySem.W.Frag} {mg : Str → Option Value} {base : Heap} {A : Adr}
theorem RowAt.ix0 {σ : L2.St} {H : Hp} {te : TE} {v : V} {r : Rc} (h : RowAt H v r) (t : Te te σ H v) : Te (tOp (rIxL K) te (tC (.int 0))) σ H (.str r.kd) := by
  obtain ⟨a, rd, wr, rfl, h1, _⟩ := h
  exact te_ixL t te_c (SqL.of h1) rfl
theorem RowAt.ix3 {σ : L2.St} {H : Hp} {te : TE} {v : V} {r : Rc} (h : RowAt H v r) (t : Te te σ H v) : Te (tOp (rIxL K) te (tC (.int 3))) σ H (.int r.bg) := by
  obtain ⟨a, rd, wr, rfl, h1, _⟩ := h
  exact te_ixL t te_c (SqL.of h1) rfl
theorem RowAt.ix4 {σ : L2.St} {H : Hp} {te : TE} {v : V} {r : Rc} (h : RowAt H v r) (t : Te te σ H v) : Te (tOp (rIxL K) te (tC (.int 4))) σ H (.int r.en) := by
  obtain ⟨a, rd, wr, rfl, h1, _⟩ := h
  exact te_ixL t te_c (SqL.of h1) rfl
/-- rows[k] -/
theorem RowsIn.ix {σ : L2.St} {H : Hp} {ta tb : TE} {a : Addr} {rs : List Rc} {r : Rc} {k : Nat} (h : RowsIn H a rs) (ha : Te ta σ H (.ref a)) (hb : Te tb σ H (.int k)) (e : rs[k]? = some r) : ∃ v, Te (tOp (rIxL K) ta tb) σ H v ∧ RowAt H v r := by
  obtain ⟨vs, h1, h2, _⟩ := h
  obtain ⟨v, e2, h3⟩ := paired_at2 h2 e
  exact ⟨v, te_ixL ha hb (SqL.of h1) (atI_nat e2), h3⟩
theorem RowsIn.len {σ : L2.St} {H : Hp} {te : TE} {a : Addr} {rs : List Rc} (h : RowsIn H a rs) (ha : Te te σ H (.ref a)) : Te (tCB (fun vs H Q => ∃ p ys, vs = [.ref p] ∧ (SqL K H p ys ∨ SqT K H p ys) ∧ Q (.int ys.length) H) (tCons te tNil)) σ H (.int (rs.length : Int)) := by
  obtain ⟨vs, h1, h2, _⟩ := h
  rw [paired_len h2]
  exact te_len ha (.inl (SqL.of h1))
def spDone : Sp := fun vs H Q _ => ∃ (a : Addr) (rs : List Rc), vs = [.ref a] ∧ RowsIn H a rs ∧ ∀ v H', Same H H' → H v = none → H' v = some (.lst ((doneP rs).map V.int)) → Q (.ref v) H'
theorem ok_law_done (T : Txt K mg A) : FnOk P w K mg base CX0 1 A.a__law_done A.d__law_done ["rows"] spDone := by
  refine T.F__law_done.ok sc_law_done (fun vs H Q E ⟨_, _, e, _⟩ => by rw [e]; rfl) (fun cdv A' outer s H vs Q E hr h => ?_)
  obtain ⟨a, rs, rfl, hR, k⟩ := h
  have hl : rs.length ≤ 1000 := by
    obtain ⟨_, _, _, q⟩ := hR
    exact q
  refine ⟨_, pss_one (ps_ret (pe_lc (own := [("k", 1)]) (g := gName 1) rfl sc_law_done.nd (pi_range1 (by rfl) T.n_range (pa_cons (pe_callB call_len_seq (by rfl) T.n_len (by decide +kernel) (pa_cons (pv 0) pa_nil)) pa_nil)) (blkOk_by (N := ["rows", "k"]) (sc := defScope s_law_done) (by decide +kernel)) (fun _ _ _ _ _ => pg_name (i := 1) sc_law_done.nd rfl (Or.inl rfl)) (fun _ _ _ _ _ => pts_one (pt_cmpR op_eq (pe_ix (show IxR _ (rIxL K) from ix_list) (pe_ix (show IxR _ (rIxL K) from ix_list) (pv 0) (pv 1) (fun _ _ => rfl)) (pe_int) (fun _ _ => rfl)) (pe_str) (nomark _))) (fun _ _ _ _ _ => pv 1))), ?_⟩
  refine lc_go (ti_rngN (n := rs.length) (hR.len (te_var rfl)) (by omega)) walk_range (fun D i H' => Same H H' ∧ H' D = some (.lst ((doneTo rs i).map V.int))) (fun D hD => ⟨Same.upd hD, upd_same⟩) (fun _ _ _ _ _ => trivial) ?_ fun D H' hD ⟨s1, e1⟩ => k D H' s1 hD e1
  rintro D i x H1 H' hD hi ⟨s1, e1⟩ ⟨rfl, rfl⟩
  refine ⟨rfl, ?_⟩
  obtain ⟨v, t1, h1⟩ := (hR.mono s1).ix (K := K) (σ := [some (.ref a), some (.int (0 + (i : Int)))]) (ta := tVar 0) (tb := tVar 1) (k := i) (te_var rfl) (te_var (by simp)) (List.getElem?_eq_getElem hi)
  have ed : dnAt rs i = (rs[i]).dn := by
    unfold dnAt
    rw [List.getElem?_eq_getElem hi]
  refine (tt_test (te_eq (h1.ix0 t1) te_c rfl)).go ?_
  have nD : D ≠ a := by
    obtain ⟨vs, q, _⟩ := hR
    exact (ne_of_none q hD).symm
  have es : doneTo rs (i + 1) = doneTo rs i ++ (if (rs[i]).dn = true then [(i : Int)] else []) := by rw [doneTo_succ, ed]
  by_cases hd : (rs[i]).kd = "done"
  · have h2 : (rs[i]).dn = true := decide_eq_true hd
    rw [if_pos h2] at es
    rw [decide_eq_true (by rw [hd]), if_pos rfl]
    refine (te_var (v := .int (0 + (i : Int))) rfl).go ⟨_, e1, ?_, Same.wr s1 hD, ?_⟩
    · rw [List.length_map, sizeLine_eq]
      have := doneTo_len (rs := rs) (i := i)
      omega
    · rw [upd_same, es, List.map_append, Int.zero_add]
      rfl
  · have h2 : ¬ (rs[i]).dn = true := fun z => hd (of_decide_eq_true z)
    rw [if_neg h2, List.append_nil] at es
    rw [decide_eq_false (fun z => hd (V.str.inj z)), if_neg (by simp)]
    exact ⟨s1, by rw [es]; exact e1⟩
/-! ### records of the rows -/
theorem recsAt_snoc {H : Hp} {vs : List V} {rs : List Rc} {i : Nat} (hi : i < rs.length) {v : V} (h : Paired (RecAt A H) vs (rs.take i)) (k : RecAt A H v rs[i]) : Paired (RecAt A H) (vs ++ [v]) (rs.take (i + 1)) := by
  rw [List.take_add_one, List.getElem?_eq_getElem hi]
  exact paired_snoc h k
def spMade (A : Adr) : Sp := fun vs H Q _ => ∃ (a : Addr) (rs : List Rc), vs = [.ref a] ∧ RowsIn H a rs ∧ ∀ v H', Same H H' → H v = none → RecsIn A H' v rs → Q (.ref v) H'
theorem ok_law_made (T : Txt K mg A) : FnOk P w K mg base CX0 3 A.a__law_made A.d__law_made ["rows"] (spMade A) := by
  refine T.F__law_made.ok sc_law_made (fun vs H Q E ⟨_, _, e, _⟩ => by rw [e]; rfl) (fun cdv A' outer s H vs Q E hr h => ?_)
  obtain ⟨a, rs, rfl, hR, k⟩ := h
  have hl : rs.length ≤ 1000 := by
    obtain ⟨_, _, _, q⟩ := hR
    exact q
  refine ⟨_, pss_one (ps_ret (pe_lc (own := [("k", 1)]) (g := gName 1) (tt := tYes) rfl sc_law_made.nd (pi_range1 (by rfl) T.n_range (pa_cons (pe_callB call_len_seq (by rfl) T.n_len (by decide +kernel) (pa_cons (pv 0) pa_nil)) pa_nil)) (blkOk_by (N := ["rows", "k"]) (sc := defScope s_law_made) (by decide +kernel)) (fun _ _ _ _ _ => pg_name (i := 1) sc_law_made.nd rfl (Or.inl rfl)) (fun _ _ _ _ _ => pts_nil) (fun _ _ _ _ _ => pe_make T.mk_Record (ok_Record___init__ T) (hr.mono (by decide)) rfl T.g_Record T.b_Record___init__ .nil pass0 (pa_cons (pv 1) (pa_cons (pe_ix (show IxR _ (rIxL K) from ix_list) (pe_ix (show IxR _ (rIxL K) from ix_list) (pv 0) (pv 1) (fun _ _ => rfl)) (pe_int) (fun _ _ => rfl)) (pa_cons (pe_ix (show IxR _ (rIxL K) from ix_list) (pe_ix (show IxR _ (rIxL K) from ix_list) (pv 0) (pv 1) (fun _ _ => rfl)) (pe_int) (fun _ _ => rfl)) (pa_cons (pe_ix (show IxR _ (rIxL K) from ix_list) (pe_ix (show IxR _ (rIxL K) from ix_list) (pv 0) (pv 1) (fun _ _ => rfl)) (pe_int) (fun _ _ => rfl)) (pa_cons (pe_ix (show IxR _ (rIxL K) from ix_list) (pe_ix (show IxR _ (rIxL K) from ix_list) (pv 0) (pv 1) (fun _ _ => rfl)) (pe_int) (fun _ _ => rfl)) (pa_cons (pe_ix (show IxR _ (rIxL K) from ix_list) (pe_ix (show IxR _ (rIxL K) from ix_list) (pv 0) (pv 1) (fun _ _ => rfl)) (pe_int) (fun _ _ => rfl)) (pa_cons (pv 1) pa_nil)))))))))), ?_⟩
  refine lc_go (ti_rngN (n := rs.length) (hR.len (te_var rfl)) (by omega)) walk_range (fun D i H' => Same H H' ∧ ∃ vs, H' D = some (.lst vs) ∧ Paired (RecAt A (kp [D] H')) vs (rs.take i)) (fun D hD => ⟨Same.upd hD, [], upd_same, .nil⟩) (fun _ _ _ _ _ => trivial) ?_ fun D H' hD ⟨s1, vs, e1, e2⟩ => k D H' s1 hD ⟨vs, e1, ?_, hl⟩
  · rintro D i x H1 H' hD hi ⟨s1, vs, e1, e2⟩ ⟨rfl, rfl⟩
    refine ⟨rfl, ?_⟩
    have nD : ∀ {b : Addr} {o : HO}, H b = some o → b ≠ D := fun e z => by
      rw [z, hD] at e
      cases e
    obtain ⟨v, t1, h1⟩ := (hR.mono s1).ix (K := K) (σ := [some (.ref a), some (.int (0 + (i : Int)))]) (ta := tVar 0) (tb := tVar 1) (k := i) (te_var rfl) (te_var (by simp)) (List.getElem?_eq_getElem hi)
    obtain ⟨b, rd, wr, ev, q1, q2, q3⟩ := id h1
    have t2 : ∀ {j : Int} {u : V}, atI ((rs[i]).xs rd wr) j = some u → Te (tOp (rIxL K) (tOp (rIxL K) (tVar 0) (tVar 1)) (tC (.int j))) [some (.ref a), some (.int (0 + (i : Int)))] H' u := fun e => te_ixL (by rw [ev] at t1; exact t1) te_c (SqL.of q1) e
    refine yes_go (te_sl (σ' := [some (.ref a), some (.int (0 + (i : Int)))]) rfl ?_)
    refine go_make (vs := [.int (0 + (i : Int)), .int (rs[i]).bg, .int (rs[i]).en, .str (rs[i]).kd, .ref rd, .ref wr, .int (0 + (i : Int))]) (ta_cons (te_var rfl) (ta_cons (t2 rfl) (ta_cons (t2 rfl) (ta_cons (t2 rfl) (ta_cons (t2 rfl) (ta_cons (t2 rfl) (ta_cons (te_var rfl) ta_nil))))))) fun x dx hx hdx ne => ?_
    have nx : D ≠ x := ne_of_none e1 hx
    have ndx : D ≠ dx := ne_of_none e1 hdx
    have s2 : Same H' (upd (upd H' dx (.own x)) x (.ins A.a_Record dx [])) := (Same.upd hdx).trans (Same.upd (by rw [upd_ne ne.symm]; exact hx))
    refine ⟨x, dx, rd, wr, rs[i], (0 + (i : Int), 0 + (i : Int)), rfl, upd_same, s2 _ _ q2, s2 _ _ q3, fun H2 s3 r2 => ⟨rfl, vs, ?_, ?_, ?_, ?_⟩⟩
    · exact s3 _ _ (by simp [nx]) (s2 _ _ e1)
    · have := paired_len e2
      rw [List.length_take] at this
      rw [sizeLine_eq]
      omega
    · refine Same.wr (fun b o e => s3 _ _ ?_ (s2 _ _ (s1 _ _ e))) hD
      have := ne_of_none (s1 _ _ e) hx
      simpa using this
    · have eD : H2 D = some (.lst vs) := s3 _ _ (by simp [nx]) (s2 _ _ e1)
      refine ⟨_, upd_same, recsAt_snoc hi (L2.Paired.mapP e2 fun u r q => q.mono fun c o e => ?_) ?_⟩
      · obtain ⟨n, e⟩ := kp_some e
        have n2 : c ≠ x := ne_of_none e hx
        have n3 : c ≠ D := by simpa using n
        refine kp_at ?_ n
        rw [upd_ne n3]
        exact s3 _ _ (by simpa using n2) (s2 _ _ e)
      · obtain ⟨x', dx', rd', wr', k', ex, g1, g2, g3⟩ := r2
        have m1 : x' ≠ D := ne_of g1 eD (by intro z; cases z)
        have m2 : rd' ≠ D := ne_of g2 eD (by intro z; cases z)
        have m3 : wr' ≠ D := ne_of g3 eD (by intro z; cases z)
        exact ⟨x', dx', rd', wr', k', ex, kp_at (by rw [upd_ne m1]; exact g1) (by simpa using m1), kp_at (by rw [upd_ne m2]; exact g2) (by simpa using m2), kp_at (by rw [upd_ne m3]; exact g3) (by simpa using m3)⟩
  · rw [List.take_length] at e2
    exact L2.Paired.mapP e2 fun u r q => q.mono kp_sub
end
end O43

namespace O43
open PySem L2 YF
/-! ### reads agree -/
def agQ (ms : List Int) (q : Int × Int) : Bool := (decide (0 ≤ q.1) && decide (q.1 < (ms.length : Int))) && decide (ms[q.1.toNat]? = some q.2)
def agP (rd : Mp) (ms : List Int) : Bool := rd.all (agQ ms)
section
variable {P : Program} {w : World} {K : PySem.W.Frag} {mg : Str → Option Value} {base : Heap} {A : Adr}
theorem kvI_at {l : Mp} {i : Nat} {x : V} (h : (kvI l)[i]?.map (fun kv => kV kv.1) = some x) : ∃ q, l[i]? = some q ∧ x = .int q.1 := by
  unfold kvI at h
  rw [List.getElem?_map] at h
  cases e : l[i]? with
  | none =>
    rw [e] at h
    cases h
  | some q =>
    rw [e] at h
    exact ⟨q, rfl, (Option.some.inj h).symm⟩
theorem kvI_at2 {l : Mp} {i : Nat} {q : Int × Int} {y : V} (e : l[i]? = some q) (h : (kvI l)[i]?.map Prod.snd = some y) : y = .int q.2 := by
  unfold kvI at h
  rw [List.getElem?_map, e] at h
  exact (Option.some.inj h).symm
theorem kvI_len {l : Mp} : (kvI l).length = l.length := by
  unfold kvI
  rw [List.length_map]
/-- ms[i] == x, the place there -/
theorem te_agQ {σ : L2.St} {H : Hp} {t0 tp tl tx tq : TE} {m : Addr} {ms : List Int} {q : Int × Int} (h0 : Te t0 σ H (.int 0)) (hp : Te tp σ H (.int q.1)) (hl : Te tl σ H (.int (ms.length : Int))) (hm : Te tx σ H (.ref m)) (hq : Te tq σ H (.int q.2)) (e : SqL K H m (ms.map V.int)) :
    Te (tAndV (tChain (rI0 fun i j => .bl (decide (i ≤ j))) (rI0 fun i j => .bl (decide (i < j))) t0 tp tl) (tOp rEq (tOp (rIxL K) tx tp) tq)) σ H (.bl (agQ ms q)) := by
  refine te_andV (te_chain (p := fun i j => decide (i ≤ j)) (q := fun i j => decide (i < j)) h0 hp hl) fun h => ?_
  obtain ⟨h1, h2⟩ := Bool.and_eq_true_iff.mp h
  have h1 := of_decide_eq_true h1
  have h2 := of_decide_eq_true h2
  have h3 : q.1.toNat < ms.length := by omega
  have e2 : ms[q.1.toNat]? = some (ms[q.1.toNat]) := List.getElem?_eq_getElem h3
  have t := te_eq (te_ixL (v := .int (ms[q.1.toNat])) hm hp e (atI_int h1 (by rw [List.getElem?_map, e2]; rfl))) hq rfl
  have e4 : decide (V.int (ms[q.1.toNat]) = V.int q.2) = decide (ms[q.1.toNat]? = some q.2) := by
    rw [e2]
    simp
  rw [← e4]
  exact t
def spAgrees : Sp := fun vs H Q _ => ∃ (d m : Addr) (rd : Mp) (ms : List Int), vs = [.ref d, .ref m] ∧ H d = some (.dK (kvI rd)) ∧ H m = some (.lst (ms.map V.int)) ∧ rd.length ≤ 1000 ∧ ∀ H', Same H H' → Q (.bl (agP rd ms)) H'
theorem ok_agrees (T : Txt K mg A) : FnOk P w K mg base CX0 1 A.a_agrees A.d_agrees ["reads", "memory"] spAgrees := by
  refine T.F_agrees.ok sc_agrees (fun vs H Q E ⟨_, _, _, _, e, _⟩ => by rw [e]; rfl) (fun cdv A' outer s H vs Q E hr h => ?_)
  obtain ⟨d, m, rd, ms, rfl, hd, hm, hl, k⟩ := h
  refine ⟨_, pss_one (ps_ret (pe_callB (cr_all rfl) (by rfl) T.n_all (by decide +kernel) (pa_cons (pe_lock (pe_lc (own := [("cell", 2), ("value", 3)]) (g := gTup K 2 (gCons (gName 2) (gCons (gName 3) gNil))) (tt := tYes) rfl sc_agrees.nd (pi_items (pv 0)) (blkOk_by (N := ["reads", "memory", "cell", "value"]) (sc := defScope s_agrees) (by decide +kernel)) (fun _ _ _ _ _ => pg_tup (by rfl) (pgs_cons (pg_name (i := 2) sc_agrees.nd rfl (Or.inl rfl)) (pgs_cons (pg_name (i := 3) sc_agrees.nd rfl (Or.inl rfl)) pgs_nil))) (fun _ _ _ _ _ => pts_nil) (fun _ _ _ _ _ => pe_and (pe_chain op_le op_lt (pe_int) (pv 2) (pe_callB (show CallR _ _ (rLenS K) from call_len_seq) (by rfl) T.n_len (by decide +kernel) (pa_cons (pv 1) pa_nil))) (pe_one (pe_cmpR op_eq (pe_ix (show IxR _ (rIxL K) from ix_list) (pv 1) (pv 2) (fun _ _ => rfl)) (pv 3) (nomark _)))))) pa_nil))), ?_⟩
  have nmd : m ≠ d := ne_of hm hd (by intro z; cases z)
  refine lockE_go (kvs := kvI rd) hd fun od => ?_
  refine lc_go (ti_items (te_var rfl) upd_same) walk_items (fun L i H' => L ≠ d ∧ Fr [d] H H' ∧ H' d = some (.frz od (.dK (kvI rd))) ∧ H' L = some (.lst ((rd.take i).map fun q => V.bl (agQ ms q)))) (fun L hL => ?_) (fun _ _ _ _ h => h.2.2.1) ?_ ?_
  · have n : L ≠ d := fun z => by rw [z, upd_same] at hL; cases hL
    rw [upd_ne n] at hL
    exact ⟨n, (Fr.refl.wr (by simp)).new (by rw [upd_ne n]; exact hL), by rw [upd_ne n.symm, upd_same], upd_same⟩
  · rintro L i x H1 H' hL hi ⟨n, s1, e1, e2⟩ ⟨T0, x', y', rfl, hT, rfl, hx, hy⟩
    obtain ⟨q, eq, rfl⟩ := kvI_at hx
    obtain rfl := kvI_at2 eq hy
    have nT : T0 ≠ d := fun z => by rw [z, e1] at hT; cases hT
    have nT2 : T0 ≠ L := fun z => by rw [z, e2] at hT; cases hT
    refine pair_go upd_same ⟨rfl, yes_go (te_sl (σ' := [some (.ref d), some (.ref m), some (.int q.1), some (.int q.2)]) rfl ?_)⟩
    have s2 : Fr [d] H (upd H1 T0 (.tup [.int q.1, .int q.2])) := s1.new hT
    have em : SqL K (upd H1 T0 (.tup [.int q.1, .int q.2])) m (ms.map V.int) := SqL.of (s2 _ _ (by simpa using nmd) hm)
    refine (te_agQ (ms := ms) (q := q) te_c (te_var rfl) (by
      have := te_len (K := K) (te := tVar 1) (σ := [some (.ref d), some (.ref m), some (.int q.1), some (.int q.2)]) (te_var rfl) (.inl em)
      rw [List.length_map] at this
      exact this) (te_var rfl) (te_var rfl) em).go ⟨_, by rw [upd_ne nT2.symm]; exact e2, ?_, n, ?_, ?_, ?_⟩
    · rw [List.length_map, List.length_take, sizeLine_eq]
      omega
    · exact s2.wrNew (upd_none hL).2
    · rw [upd_ne n.symm, upd_ne nT.symm]
      exact e1
    · rw [upd_same, List.take_add_one, eq, List.map_append]
      rfl
  · rintro L H' hL ⟨n, s1, e1, e2⟩
    rw [kvI_len, List.take_length] at e2
    refine ⟨e1, L, rd.map (agQ ms), rfl, SqL.of ?_, ?_⟩
    · rw [upd_ne n, e2, List.map_map]
      rfl
    · have e3 : (rd.map (agQ ms)).all id = agP rd ms := by
        unfold agP
        rw [List.all_map]
        rfl
      rw [e3]
      exact k _ (s1.back hd)
theorem upd_back {H : Hp} {d : Addr} {o u : HO} (e : H d = some u) : upd (upd H d o) d u = H := funext fun b => by
  by_cases z : b = d
  · rw [z, upd_same, e]
  · rw [upd_ne z, upd_ne z]
/-! ### the memory behind some of them -/
def wrP (ms : List Int) (l : Mp) : List Int := ms.mapIdx fun j x => (getI l (j : Int)).getD x
def setsP (ms : List Int) (l : Mp) : List Int := l.foldl (fun ms q => ms.set q.1.toNat q.2) ms
def wrAt (rs : List Rc) (i : Int) : Mp := match rs[i.toNat]? with
  | some r => r.wr
  | none => []
def behP (rs : List Rc) (ms : List Int) (ix : List Int) : List Int := ix.foldl (fun ms i => wrP ms (wrAt rs i)) ms
def behL (rs : List Rc) (ms : List Int) (ix : List Int) : List Int := ix.foldl (fun ms i => setsP ms (wrAt rs i)) ms
theorem setsP_len {l : Mp} : ∀ {ms : List Int}, (setsP ms l).length = ms.length := by
  unfold setsP
  induction l with
  | nil =>
    intro ms
    rfl
  | cons q r ih =>
    intro ms
    rw [List.foldl_cons, ih, List.length_set]
theorem wrP_len {l : Mp} {ms : List Int} : (wrP ms l).length = ms.length := by
  unfold wrP
  rw [List.length_mapIdx]
theorem setsP_at {l : Mp} : ∀ {ms : List Int}, (∀ q ∈ l, 0 ≤ q.1) → (l.map (·.1)).Nodup → ∀ j : Nat, j < ms.length → (setsP ms l)[j]? = some ((getI l (j : Int)).getD (ms.getD j 0)) := by
  induction l with
  | nil =>
    intro ms _ _ j hj
    show ms[j]? = some ((getI [] (j : Int)).getD (ms.getD j 0))
    rw [List.getElem?_eq_getElem hj]
    simp [getI, List.getD_eq_getElem?_getD, List.getElem?_eq_getElem hj]
  | cons q r ih =>
    intro ms h0 nd j hj
    rw [List.map_cons, List.nodup_cons] at nd
    show (setsP (ms.set q.1.toNat q.2) r)[j]? = _
    rw [ih (fun p hp => h0 p (List.mem_cons_of_mem _ hp)) nd.2 j (by rw [List.length_set]; exact hj)]
    have q0 := h0 q List.mem_cons_self
    by_cases z : q.1 = (j : Int)
    · have e1 : getI r (j : Int) = none := by
        cases e : getI r (j : Int) with
        | none => rfl
        | some x => exact absurd (List.mem_map.mpr ⟨_, getI_mem e, z.symm⟩) nd.1
      have e2 : getI (q :: r) (j : Int) = some q.2 := by simp [getI, z]
      have e3 : q.1.toNat = j := by omega
      rw [e1, e2, e3]
      simp [List.getD_eq_getElem?_getD, List.getElem?_set, hj]
    · have e2 : getI (q :: r) (j : Int) = getI r (j : Int) := by simp [getI, z]
      have e3 : q.1.toNat ≠ j := by omega
      rw [e2]
      congr 2
      rw [List.getD_eq_getElem?_getD, List.getD_eq_getElem?_getD, List.getElem?_set_ne e3]
theorem setsP_eq {l : Mp} {ms : List Int} (h0 : ∀ q ∈ l, 0 ≤ q.1) (nd : (l.map (·.1)).Nodup) : setsP ms l = wrP ms l := by
  refine List.ext_getElem? fun j => ?_
  by_cases hj : j < ms.length
  · rw [setsP_at h0 nd j hj]
    unfold wrP
    rw [List.getElem?_mapIdx, List.getElem?_eq_getElem hj]
    simp [List.getD_eq_getElem?_getD, List.getElem?_eq_getElem hj]
  · rw [List.getElem?_eq_none (by rw [setsP_len]; omega), List.getElem?_eq_none (by rw [wrP_len]; omega)]
theorem behL_eq {rs : List Rc} (hr : ∀ r ∈ rs, (∀ q ∈ r.wr, 0 ≤ q.1) ∧ (r.wr.map (·.1)).Nodup) : ∀ {ix : List Int} {ms : List Int}, behL rs ms ix = behP rs ms ix := by
  intro ix
  unfold behL behP
  induction ix with
  | nil =>
    intro ms
    rfl
  | cons i r ih =>
    intro ms
    rw [List.foldl_cons, List.foldl_cons, ih]
    congr 1
    unfold wrAt
    cases e : rs[i.toNat]? with
    | none => exact setsP_eq (fun q h => by cases h) (by simp)
    | some r => exact setsP_eq (hr r (List.mem_of_getElem? e)).1 (hr r (List.mem_of_getElem? e)).2
theorem behP_len {rs : List Rc} : ∀ {ix : List Int} {ms : List Int}, (behP rs ms ix).length = ms.length := by
  intro ix
  unfold behP
  induction ix with
  | nil =>
    intro ms
    rfl
  | cons i r ih =>
    intro ms
    rw [List.foldl_cons, ih, wrP_len]
theorem behP_snoc {rs : List Rc} {ms ix : List Int} {i : Int} : behP rs ms (ix ++ [i]) = wrP (behP rs ms ix) (wrAt rs i) := by
  unfold behP
  rw [List.foldl_append]
  rfl
theorem behL_snoc {rs : List Rc} {ms ix : List Int} {i : Int} : behL rs ms (ix ++ [i]) = setsP (behL rs ms ix) (wrAt rs i) := by
  unfold behL
  rw [List.foldl_append]
  rfl
end
end O43

namespace O43
open PySem L2 YF
def OkW (n : Nat) (rs : List Rc) : Prop := ∀ r ∈ rs, (∀ q ∈ r.wr, 0 ≤ q.1 ∧ q.1 < n) ∧ (r.wr.map (·.1)).Nodup ∧ r.wr.length ≤ 1000
def InIx (rs : List Rc) (ix : List Int) : Prop := ∀ i ∈ ix, 0 ≤ i ∧ i < rs.length
theorem behL_len {rs : List Rc} : ∀ {ix : List Int} {ms : List Int}, (behL rs ms ix).length = ms.length := by
  intro ix
  unfold behL
  induction ix with
  | nil =>
    intro ms
    rfl
  | cons i r ih =>
    intro ms
    rw [List.foldl_cons, ih, setsP_len]
section
variable {P : Program} {w : World} {K : PySem.W.Frag} {mg : Str → Option Value} {base : Heap} {A : Adr}
theorem InIx.at_ {rs : List Rc} {ix : List Int} (h : InIx rs ix) {j : Nat} {i : Int} (e : ix[j]? = some i) : ∃ r, rs[i.toNat]? = some r ∧ wrAt rs i = r.wr ∧ 0 ≤ i := by
  obtain ⟨h0, h1⟩ := h i (List.mem_of_getElem? e)
  have h2 : i.toNat < rs.length := by omega
  have e2 := List.getElem?_eq_getElem h2
  exact ⟨rs[i.toNat], e2, by unfold wrAt; rw [e2], h0⟩
theorem map_at {ix : List Int} {j : Nat} {x : V} (e : (ix.map V.int)[j]? = some x) : ∃ i, ix[j]? = some i ∧ x = .int i := by
  rw [List.getElem?_map] at e
  cases q : ix[j]? with
  | none =>
    rw [q] at e
    cases e
  | some i =>
    rw [q] at e
    exact ⟨i, rfl, (Option.some.inj e).symm⟩
/-! ### the program's own -/
def spWritten : Sp := fun vs H Q _ => ∃ (m d : Addr) (ms : List Int) (l : Mp), vs = [.ref m, .ref d] ∧ H m = some (.lst (ms.map V.int)) ∧ ms.length ≤ 1000 ∧ H d = some (.dK (kvI l)) ∧ ∀ v H', Same H H' → H v = none → H' v = some (.lst ((wrP ms l).map V.int)) → Q (.ref v) H'
theorem ok_written (T : Txt K mg A) : FnOk P w K mg base CX0 1 A.a__written A.d__written ["memory", "writes"] spWritten := by
  refine T.F__written.ok sc_written (fun vs H Q E ⟨_, _, _, _, e, _⟩ => by rw [e]; rfl) (fun cdv A' outer s H vs Q E hr h => ?_)
  obtain ⟨m, d, ms, l, rfl, hm, hl, hd, k⟩ := h
  refine ⟨_, pss_one (ps_ret (pe_lc (own := [("cell", 2), ("value", 3)]) (g := gTup K 2 (gCons (gName 2) (gCons (gName 3) gNil))) (tt := tYes) rfl sc_written.nd (pi_enum (by rfl) T.n_enumerate (pa_cons (pv 0) pa_nil)) (blkOk_by (N := ["memory", "writes", "cell", "value"]) (sc := defScope s_written) (by decide +kernel)) (fun _ _ _ _ _ => pg_tup (by rfl) (pgs_cons (pg_name (i := 2) sc_written.nd rfl (Or.inl rfl)) (pgs_cons (pg_name (i := 3) sc_written.nd rfl (Or.inl rfl)) pgs_nil))) (fun _ _ _ _ _ => pts_nil) (fun _ _ _ _ _ => pe_dget2 (hu_of hr) (pv 1) (pv 2) (pv 3) ⟨rfl, rfl, rfl, rfl⟩))), ?_⟩
  refine lc_go (ti_enum (te_var rfl) (SqL.of hm)) walk_enum (fun L i H' => Same H H' ∧ H' L = some (.lst (((wrP ms l).take i).map V.int))) (fun L hL => ⟨Same.upd hL, upd_same⟩) (fun L i H' _ h => SqL.of (h.1 _ _ hm)) ?_ fun L H' hL ⟨s1, e1⟩ => ?_
  · rintro L i x H1 H' hL hi ⟨s1, e1⟩ ⟨T0, x', y', rfl, hT, rfl, hx, hy⟩
    obtain rfl := (Option.some.inj hx).symm
    obtain ⟨z, ez, rfl⟩ := map_at hy
    have nT : T0 ≠ L := fun z => by rw [z, e1] at hT; cases hT
    refine pair_go upd_same ⟨rfl, yes_go (te_sl (σ' := [some (.ref m), some (.ref d), some (.int (i : Int)), some (.int z)]) rfl ?_)⟩
    have s2 : Same H (upd H1 T0 (.tup [.int (i : Int), .int z])) := s1.trans (Same.upd hT)
    refine (te_getD (te_var rfl) (te_var rfl) (te_var rfl) (s2 _ _ hd)).go ⟨_, by rw [upd_ne nT.symm]; exact e1, ?_, Same.wr s2 hL, ?_⟩
    · rw [List.length_map, List.length_take, wrP_len, sizeLine_eq]
      omega
    · have ew : (wrP ms l)[i]? = some ((getI l (i : Int)).getD z) := by
        unfold wrP
        rw [List.getElem?_mapIdx, ez]
        rfl
      rw [upd_same, List.take_add_one, ew, List.map_append]
      rfl
  · rw [List.length_map, ← wrP_len (l := l) (ms := ms), List.take_length] at e1
    exact k L H' s1 hL e1
theorem te_writes (T : Txt K mg A) {σ : L2.St} {H : Hp} {te : TE} {v : V} {r : Rc} (h : RecAt A H v r) (t : Te te σ H v) : ∃ wr, Te (tFld K te "writes") σ H (.ref wr) ∧ H wr = some (.dK (kvI r.wr)) := by
  obtain ⟨a, dx, rd, wr, k, rfl, h1, h2, h3⟩ := h
  refine ⟨wr, te_fld t h1 T.cl_Record T.no_Record_writes ?_, h3⟩
  unfold Rc.fs
  rw [lk_on (by decide +kernel), lk_on (by decide +kernel), lk_on (by decide +kernel), lk_on (by decide +kernel), lk_on (by decide +kernel), lk_here (by decide +kernel)]
theorem RecsIn.ix {σ : L2.St} {H : Hp} {ta tb : TE} {a : Addr} {rs : List Rc} {r : Rc} {i : Int} (h : RecsIn A H a rs) (ha : Te ta σ H (.ref a)) (hb : Te tb σ H (.int i)) (i0 : 0 ≤ i) (e : rs[i.toNat]? = some r) : ∃ v, Te (tOp (rIxL K) ta tb) σ H v ∧ RecAt A H v r := by
  obtain ⟨vs, h1, h2, _⟩ := h
  obtain ⟨v, e2, h3⟩ := paired_at2 h2 e
  exact ⟨v, te_ixL ha hb (SqL.of h1) (atI_int i0 e2), h3⟩
end
end O43

namespace O43
open PySem L2 YF
structure OkR (n m : Nat) (r : Rc) : Prop where
  rd : OkD n m r.rd
  wr : OkD n m r.wr
  be : r.bg ≤ r.en
section
variable {P : Program} {w : World} {K : PySem.W.Frag} {mg : Str → Option Value} {base : Heap} {A : Adr}
/-! ### in a drawn order -/
theorem perm_erase {α : Type} : ∀ {l : List α} {i : Nat} (h : i < l.length), (l[i] :: l.eraseIdx i).Perm l
  | a :: r, 0, _ => .refl _
  | a :: r, i + 1, h => by
    have h2 : i < r.length := by simpa using h
    rw [List.getElem_cons_succ, List.eraseIdx_cons_succ]
    exact (List.Perm.swap _ _ _).trans (.cons a (perm_erase h2))
theorem seq_ix {z : Int} {n : Nat} (h0 : 0 ≤ z) (h1 : z < n) : seqIndex? z n = some z.toNat := (ixN_seq (ixN_nat h0 h1)).1
def spMixed : Sp := fun vs H Q _ => ∃ (p a : Addr) (xs : List V), vs = [.ref p, .ref a] ∧ Row H p ∧ a ≠ p ∧ H a = some (.lst xs) ∧ xs.length ≤ 1000 ∧ ∀ v ys H', ys.Perm xs → Fr [p] H H' → Row H' p → H v = none → H' v = some (.lst ys) → Q (.ref v) H'
theorem ok_law_mixed (T : Txt K mg A) : FnOk P w K mg base CX0 2 A.a__law_mixed A.d__law_mixed ["draws", "rows"] spMixed := by
  refine T.F__law_mixed.ok sc_law_mixed (fun vs H Q E ⟨_, _, _, e, _⟩ => by rw [e]; rfl) (fun cdv A' outer s H vs Q E hr h => ?_)
  obtain ⟨p, a, xs, rfl, hp, nap, ha, hl, k⟩ := h
  refine ⟨_, pss_cons (ps_set (i := 2) sc_law_mixed.nd rfl (Or.inr rfl) (pe_callTy call_list_of (by rfl) T.n_list (by decide +kernel) (pa_cons (pv 1) pa_nil)))
  (pss_one (ps_ret (pe_lc (own := [("k", 3)]) (g := gName 3) (tt := tYes) rfl sc_law_mixed.nd (pi_range1 (by rfl) T.n_range (pa_cons (pe_callB call_len_seq (by rfl) T.n_len (by decide +kernel) (pa_cons (pv 1) pa_nil)) pa_nil)) (blkOk_by (N := ["draws", "rows", "rest", "k"]) (sc := defScope s_law_mixed) (by decide +kernel)) (fun _ _ _ _ _ => pg_name (i := 3) sc_law_mixed.nd rfl (Or.inl rfl)) (fun _ _ _ _ _ => pts_nil) (fun _ _ _ _ _ => (show PE _ _ (tBM K "list" rPopAt _ _) from pe_bm PySem.F.plainAttrs_list PySem.F.slot_list_pop PySem.F.type_list_pop mt_popAt (pv 2) (pa_cons (pe_call (ok_law_take T) (hr.mono (by decide)) rfl T.g__law_take T.F__law_take.kp T.b__law_take .nil pass0 (pa_cons (pv 0) (pa_cons (pe_callB (show CallR _ _ (rLenS K) from call_len_seq) (by rfl) T.n_len (by decide +kernel) (pa_cons (pv 2) pa_nil)) pa_nil))) pa_nil)))))), ?_⟩
  refine asg_new (tn_list (te_var rfl) (.inl (SqL.of ha))) fun c hc => ?_
  refine ts_sl (σ' := [some (.ref p), some (.ref a), some (.ref c), none]) rfl ?_
  have ncp := hp.ne hc
  have hac : a ≠ c := ne_of_none ha hc
  refine lc_go (n := xs.length) (ti_rngN (te_len (te_var rfl) (.inl (SqL.of (by rw [upd_ne hac]; exact ha)))) (by omega)) walk_range (fun L i H' => ∃ ys zs, H' c = some (.lst zs) ∧ H' L = some (.lst ys) ∧ (ys ++ zs).Perm xs ∧ ys.length = i ∧ Fr [p] H H' ∧ Row H' p) (fun L hL => ?_) (fun _ _ _ _ _ => trivial) ?_ fun L H' hL ⟨ys, zs, e1, e2, pm, l1, s1, r1⟩ => ?_
  · obtain ⟨nLc, hL0⟩ := upd_none hL
    exact ⟨[], xs, by rw [upd_ne nLc.symm, upd_same], upd_same, .refl _, rfl, (Fr.refl.new hc).new hL, (hp.new hc).new hL⟩
  · rintro L i x H1 H' hL hi ⟨ys, zs, e1, e2, pm, l1, s1, r1⟩ ⟨rfl, rfl⟩
    obtain ⟨nLc, hL0⟩ := upd_none hL
    have nLp := hp.ne hL0
    have lz : ys.length + zs.length = xs.length := by rw [← List.length_append]; exact pm.length_eq
    refine ⟨rfl, yes_go (te_sl (σ' := [some (.ref p), some (.ref a), some (.ref c), some (.int (0 + (i : Int)))]) rfl ?_)⟩
    refine ⟨_, rfl, .inl ⟨rfl, _, SqL.of e1⟩, ?_⟩
    refine go_take (p := p) (m := (zs.length : Int)) (ta_cons (te_var rfl) (ta_cons (te_len (te_var rfl) (.inl (SqL.of e1))) ta_nil)) r1 (by omega) fun z H2 z0 z1 s2 r2 => ?_
    have hz : z.toNat < zs.length := by omega
    refine ⟨c, zs, z, z.toNat, zs[z.toNat], rfl, rfl, s2 _ _ (by simpa using ncp) e1, by omega, by omega, seq_ix z0 z1, List.getElem?_eq_getElem hz, ?_⟩
    have e3 := s2 _ _ (by simpa using nLp) e2
    refine ⟨ys, by rw [upd_ne nLc]; exact e3, by rw [sizeLine_eq]; omega, ys ++ [zs[z.toNat]], zs.eraseIdx z.toNat, by rw [upd_ne nLc.symm, upd_same], upd_same, ?_, by rw [List.length_append, l1]; rfl, ?_, ?_⟩
    · rw [List.append_assoc]
      exact (List.Perm.append_left ys (perm_erase hz)).trans pm
    · exact ((s1.trans s2).wrNew hc).wrNew hL0
    · exact (r2.upd ncp).upd nLp
  · have lz : ys.length + zs.length = xs.length := by rw [← List.length_append]; exact pm.length_eq
    have hz : zs = [] := List.length_eq_zero_iff.mp (by omega)
    rw [hz, List.append_nil] at pm
    exact k L ys H' pm s1 r1 (upd_none hL).2 e2
theorem if_take0 {σ : L2.St} {H : Hp} {ta : TA} {p : Addr} {m : Int} {E : XK} {D : Ends} {tu tw : TS} (ha : Ta ta σ H [.ref p, .int m]) (r : Row H p) (h0 : 0 < m) (k1 : ∀ H', Fr [p] H H' → Row H' p → tu D σ H') (k2 : ∀ H', Fr [p] H H' → Row H' p → tw D σ H') :
    tIfS (tTest (tOp rEq (tCall spTake [] E ta) (tC (.int 0)))) tu tw D σ H := by
  refine go_take ha r h0 fun z H' _ _ s1 r1 => ⟨rfl, _, rfl, ?_⟩
  by_cases hz : z = 0
  · dsimp only
    rw [decide_eq_true (by rw [hz]), if_pos rfl]
    exact k1 H' s1 r1
  · dsimp only
    rw [decide_eq_false (fun q => hz (V.int.inj q)), if_neg (by simp)]
    exact k2 H' s1 r1
theorem getI_put {l : Mp} {i x : Int} : getI (putI l i x) i = some x := by
  have key : ∀ r : Mp, (r.any fun q => decide (q.1 = i)) = true → getI (r.map fun q => if q.1 = i then (q.1, x) else q) i = some x := fun r => by
    induction r with
    | nil => intro h; cases h
    | cons q r ih =>
      intro h
      by_cases z : q.1 = i
      · simp [getI, z]
      · have h2 : (r.any fun q => decide (q.1 = i)) = true := by
          rw [List.any_cons, decide_eq_false z, Bool.false_or] at h
          exact h
        have h3 := ih h2
        unfold getI at h3 ⊢
        rw [List.map_cons, if_neg z, List.find?_cons_of_neg (by simpa using z)]
        exact h3
  unfold putI
  split
  · rename_i h
    exact key l h
  · rename_i h
    have h2 : l.find? (fun q => decide (q.1 = i)) = none := by
      rw [List.find?_eq_none]
      intro q hq hd
      exact h (List.any_eq_true.mpr ⟨q, hq, hd⟩)
    unfold getI
    rw [List.find?_append, h2]
    simp
/-! ### drawn records -/
structure It2 (Hs H : Hp) (p m rr : Addr) (n : Nat) (ms : List Int) (vs : List V) : Prop where
  fr : Fr [p, m, rr] Hs H
  row : Row H p
  hm : H m = some (.lst (ms.map V.int))
  lm : ms.length = n
  hr : H rr = some (.lst vs)
  pm : m ≠ p
  pr : rr ≠ p
  mr : rr ≠ m
  is : (∃ o, Hs p = some o) ∧ (∃ o, Hs m = some o) ∧ ∃ o, Hs rr = some o
section
variable {Hs H H' : Hp} {p m rr a : Addr} {n : Nat} {ms : List Int} {vs : List V} {o : HO}
theorem It2.take (I : It2 Hs H p m rr n ms vs) (s : Fr [p] H H') (r : Row H' p) : It2 Hs H' p m rr n ms vs :=
  ⟨I.fr.trans (s.more (by simp)), r, s _ _ (by simpa using I.pm) I.hm, I.lm, s _ _ (by simpa using I.pr) I.hr, I.pm, I.pr, I.mr, I.is⟩
theorem It2.new (I : It2 Hs H p m rr n ms vs) (h : H a = none) : It2 Hs (upd H a o) p m rr n ms vs :=
  ⟨I.fr.new h, I.row.new h, by rw [upd_ne (ne_of_none I.hm h)]; exact I.hm, I.lm, by rw [upd_ne (ne_of_none I.hr h)]; exact I.hr, I.pm, I.pr, I.mr, I.is⟩
theorem It2.nes (I : It2 Hs H p m rr n ms vs) (h : Hs a = none) : a ≠ p ∧ a ≠ m ∧ a ≠ rr := by
  obtain ⟨⟨o1, h1⟩, ⟨o2, h2⟩, ⟨o3, h3⟩⟩ := I.is
  exact ⟨(ne_of_none h1 h).symm, (ne_of_none h2 h).symm, (ne_of_none h3 h).symm⟩
theorem It2.free (I : It2 Hs H p m rr n ms vs) (h : H a = none) : Hs a = none := by
  cases e : Hs a with
  | none => rfl
  | some u =>
    obtain ⟨ns, q⟩ := I.row
    have n1 : a ≠ p := (ne_of_none q h).symm
    have n2 : a ≠ m := (ne_of_none I.hm h).symm
    have n3 : a ≠ rr := (ne_of_none I.hr h).symm
    have := I.fr a u (by simp [n1, n2, n3]) e
    rw [h] at this
    cases this
theorem It2.put (I : It2 Hs H p m rr n ms vs) (h : Hs a = none) : It2 Hs (upd H a o) p m rr n ms vs := by
  obtain ⟨n1, n2, n3⟩ := I.nes h
  exact ⟨I.fr.wrNew h, I.row.upd n1, by rw [upd_ne n2.symm]; exact I.hm, I.lm, by rw [upd_ne n3.symm]; exact I.hr, I.pm, I.pr, I.mr, I.is⟩
theorem It2.mem {ms' : List Int} (I : It2 Hs H p m rr n ms vs) (h : ms'.length = n) : It2 Hs (upd H m (.lst (ms'.map V.int))) p m rr n ms' vs :=
  ⟨I.fr.wr (by simp), I.row.upd I.pm, upd_same, h, by rw [upd_ne I.mr]; exact I.hr, I.pm, I.pr, I.mr, I.is⟩
end
def kinds : List Str := ["done", "done", "done", "lost", "retry", "undo", "fault"]
def spRecords : Sp := fun vs H Q _ => ∃ (p : Addr) (n many : Nat), vs = [.ref p, .int n, .int many] ∧ Row H p ∧ 0 < n ∧ n ≤ 3 ∧ many ≤ 100 ∧
  ∀ (v f rr : Addr) (ms : List Int) (rs : List Rc) (H' : Hp), Fr [p] H H' → Row H' p → H v = none → f ≠ p → H' v = some (.lst [.ref f, .ref rr]) → H' f = some (.lst (ms.map V.int)) → RowsIn (kp [p] H') rr rs → ms.length = n → rs.length ≤ many → (∀ r ∈ rs, OkR n 3 r) → Q (.ref v) H'
theorem ok_law_records (T : Txt K mg A) : FnOk P w K mg base CX0 2 A.a__law_records A.d__law_records ["draws", "cells", "many"] spRecords := by
  refine T.F__law_records.ok sc_law_records (fun vs H Q E ⟨_, _, _, e, _⟩ => by rw [e]; rfl) (fun cdv A' outer s H vs Q E hr h => ?_)
  obtain ⟨p, n, many, rfl, hp, n0, n3, hmany, k⟩ := h
  refine ⟨_, pss_cons (ps_setLc (i := 4) (own := [("k", 3)]) (g := gName 3) (tt := tYes) rfl sc_law_records.nd rfl rfl (sw_true rfl rfl rfl (by decide +kernel)) (pi_range1 (by rfl) T.n_range (pa_cons (pv 1) pa_nil)) (blkOk_by (N := ["draws", "cells", "many", "k", "memory", "first", "records", "moment", "past", "kind", "reads", "cell", "writes", "begun", "ended"]) (sc := defScope s_law_records) (by decide +kernel)) (fun _ _ _ _ _ => pg_name (i := 3) sc_law_records.nd rfl (Or.inl rfl)) (fun _ _ _ _ _ => pts_nil) (fun _ _ _ _ _ => pe_call (ok_law_take T) (hr.mono (by decide)) rfl T.g__law_take T.F__law_take.kp T.b__law_take .nil pass0 (pa_cons (pv 0) (pa_cons (pe_int) pa_nil))))
  (pss_cons (ps_set (i := 5) sc_law_records.nd rfl (Or.inl rfl) (pe_callTy call_list_of (by rfl) T.n_list (by decide +kernel) (pa_cons (pv 4) pa_nil)))
  (pss_cons (ps_set (i := 6) sc_law_records.nd rfl (Or.inl rfl) (pe_lst pa_nil))
  (pss_cons (ps_set (i := 7) sc_law_records.nd rfl (Or.inl rfl) (pe_int))
  (pss_cons (ps_for PassesOwn.never rfl (pi_range1 (by rfl) T.n_range (pa_cons (pv 2) pa_nil)) (pg_name (i := 3) sc_law_records.nd rfl (Or.inl rfl))
  (pss_cons (ps_set (i := 8) sc_law_records.nd rfl (Or.inl rfl) (pe_callTy call_list_of (by rfl) T.n_list (by decide +kernel) (pa_cons (pv 4) pa_nil)))
  (pss_cons (ps_set (i := 9) sc_law_records.nd rfl (Or.inl rfl) (pe_ix ix_list (pe_lst (pa_cons (pe_str) (pa_cons (pe_str) (pa_cons (pe_str) (pa_cons (pe_str) (pa_cons (pe_str) (pa_cons (pe_str) (pa_cons (pe_str) pa_nil)))))))) (pe_call (ok_law_take T) (hr.mono (by decide)) rfl T.g__law_take T.F__law_take.kp T.b__law_take .nil pass0 (pa_cons (pv 0) (pa_cons (pe_int) pa_nil))) (fun _ _ => rfl)))
  (pss_cons (ps_set (i := 10) sc_law_records.nd rfl (Or.inl rfl) (pe_dnewK))
  (pss_cons (ps_for PassesOwn.never rfl (pi_range1 (by rfl) T.n_range (pa_cons (pv 1) pa_nil)) (pg_name (i := 11) sc_law_records.nd rfl (Or.inl rfl))
  (pss_one (ps_if (pt_cmpR op_eq (pe_call (ok_law_take T) (hr.mono (by decide)) rfl T.g__law_take T.F__law_take.kp T.b__law_take .nil pass0 (pa_cons (pv 0) (pa_cons (pe_int) pa_nil))) (pe_int) (nomark _))
  (pss_one (ps_dput (hu_of hr) (pv 10) (pv 11) (pe_ix ix_list (pv 8) (pv 11) (fun _ _ => rfl)) rfl))
  (pss_nil))))
  (pss_cons (ps_set (i := 12) sc_law_records.nd rfl (Or.inl rfl) (pe_dnewK))
  (C8.pss_cut (ps_if (pt_cmpR op_eq (pv 9) (pe_str) (nomark _))
  (pss_one (ps_for PassesOwn.never rfl (pi_range1 (by rfl) T.n_range (pa_cons (pv 1) pa_nil)) (pg_name (i := 11) sc_law_records.nd rfl (Or.inl rfl))
  (pss_one (ps_if (pt_cmpR op_eq (pe_call (ok_law_take T) (hr.mono (by decide)) rfl T.g__law_take T.F__law_take.kp T.b__law_take .nil pass0 (pa_cons (pv 0) (pa_cons (pe_int) pa_nil))) (pe_int) (nomark _))
  (pss_cons (ps_dput (hu_of hr) (pv 12) (pv 11) (pe_call (ok_law_take T) (hr.mono (by decide)) rfl T.g__law_take T.F__law_take.kp T.b__law_take .nil pass0 (pa_cons (pv 0) (pa_cons (pe_int) pa_nil))) rfl)
  (pss_one (ps_asg (pe_dget (hu_of hr) (pv 12) (pv 11) (fun _ _ => rfl)) (pg_sub (pv 4) (pv 11) set_list))))
  (pss_nil)))))
  (pss_nil))
  (pss_cons (ps_set (i := 13) sc_law_records.nd rfl (Or.inl rfl) (pe_callB (call_max2 rfl) (by rfl) T.n_max (by decide +kernel) (pa_cons (pe_int) (pa_cons (pe_op op_sub (pv 7) (pe_call (ok_law_take T) (hr.mono (by decide)) rfl T.g__law_take T.F__law_take.kp T.b__law_take .nil pass0 (pa_cons (pv 0) (pa_cons (pe_int) pa_nil)))) pa_nil))))
  (pss_cons (ps_set (i := 14) sc_law_records.nd rfl (Or.inl rfl) (pe_op op_add (pv 7) (pe_call (ok_law_take T) (hr.mono (by decide)) rfl T.g__law_take T.F__law_take.kp T.b__law_take .nil pass0 (pa_cons (pv 0) (pa_cons (pe_int) pa_nil)))))
  (pss_cons (ps_set (i := 7) sc_law_records.nd rfl (Or.inl rfl) (pe_op op_add (pe_op op_add (pv 7) (pe_int)) (pe_call (ok_law_take T) (hr.mono (by decide)) rfl T.g__law_take T.F__law_take.kp T.b__law_take .nil pass0 (pa_cons (pv 0) (pa_cons (pe_int) pa_nil)))))
  (pss_one (ps_expr (pe_bm PySem.F.plainAttrs_list PySem.F.slot_list_append PySem.F.type_list_append mt_append (pv 6) (pa_cons (pe_lst (pa_cons (pv 9) (pa_cons (pv 10) (pa_cons (pv 12) (pa_cons (pv 13) (pa_cons (pv 14) pa_nil)))))) pa_nil))))))))))))))
  (pss_one (ps_ret (pe_lst (pa_cons (pv 5) (pa_cons (pv 6) pa_nil))))))))), ?_⟩
  refine sq_go (lc_go (ti_rngN (n := n) (te_var rfl) (by omega)) walk_range (fun m i H' => ∃ ms : List Int, ms.length = i ∧ Fr [p] H H' ∧ Row H' p ∧ H' m = some (.lst (ms.map V.int))) (fun m hm => ⟨[], rfl, Fr.refl.new hm, hp.new hm, upd_same⟩) (fun _ _ _ _ _ => trivial) ?_ ?_)
  · rintro m i x H1 H' hm hi ⟨ms, lm, s1, r1, e1⟩ ⟨rfl, rfl⟩
    have npm := hp.ne hm
    refine ⟨rfl, yes_go ?_⟩
    refine go_take (p := p) (m := 2) (ta_cons (te_var rfl) (ta_cons te_c ta_nil)) r1 (by decide) fun z H2 z0 z1 s2 r2 => ?_
    refine ⟨_, s2 _ _ (by simpa using npm) e1, by rw [List.length_map, sizeLine_eq]; omega, ms ++ [z], by rw [List.length_append, lm]; rfl, (s1.trans s2).wrNew hm, r2.upd npm, by rw [upd_same, List.map_append]; rfl⟩
  · rintro m H1 hm ⟨ms, lm, s1, r1, e1⟩
    have npm := hp.ne hm
    refine name_go (σ' := [some (.ref p), some (.int n), some (.int many), none, some (.ref m), none, none, none, none, none, none, none, none, none, none]) rfl ?_
    refine asg_new (tn_list (te_var rfl) (.inl (SqL.of e1))) fun f hf => ?_
    refine ts_sl (σ' := [some (.ref p), some (.int n), some (.int many), none, some (.ref m), some (.ref f), none, none, none, none, none, none, none, none, none]) rfl ?_
    have npf := r1.ne hf
    have nmf : m ≠ f := ne_of_none e1 hf
    have s2 := s1.new (o := .lst (ms.map V.int)) hf
    have r2 := r1.new (o := .lst (ms.map V.int)) hf
    have e2 : (upd H1 f (.lst (ms.map V.int))) m = some (.lst (ms.map V.int)) := by rw [upd_ne nmf]; exact e1
    have f2 : (upd H1 f (.lst (ms.map V.int))) f = some (.lst (ms.map V.int)) := upd_same
    generalize upd H1 f (HO.lst (ms.map V.int)) = H2 at s2 r2 e2 f2 ⊢
    refine asg_new (tn_lst (vs := []) ta_nil (Nat.zero_le _)) fun rr hrr => ?_
    refine ts_sl (σ' := [some (.ref p), some (.int n), some (.int many), none, some (.ref m), some (.ref f), some (.ref rr), none, none, none, none, none, none, none, none]) rfl ?_
    have npr := r2.ne hrr
    have nmr : m ≠ rr := ne_of_none e2 hrr
    have nfr : f ≠ rr := ne_of_none f2 hrr
    have s3 := s2.new (o := .lst []) hrr
    have r3 := r2.new (o := .lst []) hrr
    have e3 : (upd H2 rr (.lst [])) m = some (.lst (ms.map V.int)) := by rw [upd_ne nmr]; exact e2
    have f3 : (upd H2 rr (.lst [])) f = some (.lst (ms.map V.int)) := by rw [upd_ne nfr]; exact f2
    have q3 : (upd H2 rr (.lst [])) rr = some (.lst []) := upd_same
    generalize upd H2 rr (HO.lst []) = H3 at s3 r3 e3 f3 q3 ⊢
    refine asg_te te_c ?_
    refine ts_sl (σ' := [some (.ref p), some (.int n), some (.int many), none, some (.ref m), some (.ref f), some (.ref rr), some (.int 0), none, none, none, none, none, none, none]) rfl ?_
    refine sq_go (for_go (ti_rngN (n := many) (te_var rfl) (by omega)) walk_range (fun i σ H' => ∃ (ms' : List Int) (vs : List V) (rs : List Rc) (mo : Int) (v3 v8 v9 v10 v11 v12 v13 v14 : Option V), σ = [some (.ref p), some (.int n), some (.int many), v3, some (.ref m), some (.ref f), some (.ref rr), some (.int mo), v8, v9, v10, v11, v12, v13, v14] ∧ 0 ≤ mo ∧
      It2 H3 H' p m rr n ms' vs ∧ Paired (RowAt (kp [p, m, rr] H')) vs rs ∧ rs.length ≤ i ∧ ∀ r ∈ rs, OkR n 3 r) ⟨ms, [], [], 0, _, _, _, _, _, _, _, _, rfl, Int.le_refl 0, ⟨.refl, r3, e3, lm, q3, npm, npr, nmr.symm, ?_⟩, .nil, Nat.zero_le _, fun r h => by cases h⟩ (fun _ _ _ _ _ => trivial) ?_ ?_)
    · obtain ⟨ns, q⟩ := r3
      exact ⟨⟨_, q⟩, ⟨_, e3⟩, _, q3⟩
    · rintro i x σ H0 Hs hi ⟨ms', vs, rs, mo, v3, v8, v9, v10, v11, v12, v13, v14, rfl, mo0, I, pr, lr, ok⟩ ⟨rfl, rfl⟩
      refine name_go (σ' := [some (.ref p), some (.int n), some (.int many), some (.int (0 + (i : Int))), some (.ref m), some (.ref f), some (.ref rr), some (.int mo), v8, v9, v10, v11, v12, v13, v14]) rfl ?_
      have J : It2 Hs Hs p m rr n ms' vs := by
        obtain ⟨ns, q⟩ := id I.row
        exact ⟨.refl, I.row, I.hm, I.lm, I.hr, I.pm, I.pr, I.mr, ⟨_, q⟩, ⟨_, I.hm⟩, _, I.hr⟩
      -- past
      refine asg_new (tn_list (te_var rfl) (.inl (SqL.of J.hm))) fun q8 hq8 => ?_
      refine ts_sl (σ' := [some (.ref p), some (.int n), some (.int many), some (.int (0 + (i : Int))), some (.ref m), some (.ref f), some (.ref rr), some (.int mo), some (.ref q8), v9, v10, v11, v12, v13, v14]) rfl ?_
      have n8 := J.nes hq8
      have J1 := J.new (o := .lst (ms'.map V.int)) hq8
      have e8 : (upd Hs q8 (.lst (ms'.map V.int))) q8 = some (.lst (ms'.map V.int)) := upd_same
      generalize upd Hs q8 (HO.lst (ms'.map V.int)) = G1 at J1 e8 ⊢
      -- kind
      refine asg_un (op_un ((tn_lst (vs := [.str "done", .str "done", .str "done", .str "lost", .str "retry", .str "undo", .str "fault"]) (ta_cons te_c (ta_cons te_c (ta_cons te_c (ta_cons te_c (ta_cons te_c (ta_cons te_c (ta_cons te_c ta_nil))))))) (by show 7 ≤ sizeLine; decide)).go fun q9 hq9 => ?_))
      refine go_take (p := p) (m := 7) (ta_cons (te_var rfl) (ta_cons te_c ta_nil)) (J1.row.new hq9) (by decide) fun z G2 z0 z1 s2 r2 => ?_
      have n9p := J1.row.ne hq9
      have hk : z.toNat < kinds.length := by show z.toNat < 7; omega
      have e9 := s2 _ _ (by simpa using n9p) (upd_same : (upd G1 q9 (.lst [.str "done", .str "done", .str "done", .str "lost", .str "retry", .str "undo", .str "fault"])) q9 = _)
      refine ⟨q9, _, z, .str kinds[z.toNat], rfl, rfl, SqL.of e9, atI_int z0 ?_, ?_⟩
      · show (kinds.map V.str)[z.toNat]? = _
        rw [List.getElem?_map, List.getElem?_eq_getElem hk]
        rfl
      have J2 := (J1.new hq9).take s2 r2
      have e8 := s2 _ _ (by simpa using n8.1) (by rw [upd_ne (ne_of_none e8 hq9)]; exact e8)
      generalize kinds[z.toNat] = kd
      clear e9 s2 r2
      dsimp only
      refine ts_sl (σ' := [some (.ref p), some (.int n), some (.int many), some (.int (0 + (i : Int))), some (.ref m), some (.ref f), some (.ref rr), some (.int mo), some (.ref q8), some (.str kd), v10, v11, v12, v13, v14]) rfl ?_
      -- reads
      refine sq_go (fun rd hrd => ?_)
      refine name_go (σ' := [some (.ref p), some (.int n), some (.int many), some (.int (0 + (i : Int))), some (.ref m), some (.ref f), some (.ref rr), some (.int mo), some (.ref q8), some (.str kd), some (.ref rd), v11, v12, v13, v14]) rfl ?_
      have hrd0 := J2.free hrd
      have nrd := J.nes hrd0
      refine sq_go (for_go (ti_rngN (n := n) (te_var rfl) (by omega)) walk_range (fun j σ G => ∃ (v11 : Option V) (l : Mp), σ = [some (.ref p), some (.int n), some (.int many), some (.int (0 + (i : Int))), some (.ref m), some (.ref f), some (.ref rr), some (.int mo), some (.ref q8), some (.str kd), some (.ref rd), v11, v12, v13, v14] ∧ It2 Hs G p m rr n ms' vs ∧ G q8 = some (.lst (ms'.map V.int)) ∧ G rd = some (.dK (kvI l)) ∧ OkD n j l)
        ⟨_, [], rfl, J2.new hrd, by rw [upd_ne (ne_of_none e8 hrd)]; exact e8, upd_same, .nil⟩ (fun _ _ _ _ _ => trivial) ?_ ?_)
      · rintro j y σ G0 G hj ⟨v11, l, rfl, J3, g8, gr, od⟩ ⟨rfl, rfl⟩
        refine name_go (σ' := [some (.ref p), some (.int n), some (.int many), some (.int (0 + (i : Int))), some (.ref m), some (.ref f), some (.ref rr), some (.int mo), some (.ref q8), some (.str kd), some (.ref rd), some (.int (0 + (j : Int))), v12, v13, v14]) rfl ?_
        refine if_take0 (p := p) (m := 2) (ta_cons (te_var rfl) (ta_cons te_c ta_nil)) J3.row (by decide) (fun G' s r => ?_) fun G' s r => ⟨_, l, rfl, J3.take s r, s _ _ (by simpa using n8.1) g8, s _ _ (by simpa using nrd.1) gr, od.more (by omega)⟩
        have g8 := s _ _ (by simpa using n8.1) g8
        have gr := s _ _ (by simpa using nrd.1) gr
        have hj2 : j < ms'.length := by rw [I.lm]; exact hj
        refine st_putI (l := l) (x := ms'[j]) (i := (j : Int)) (te_ixL (te_var rfl) (te_var rfl) (SqL.of g8) (atI_int (by omega) ?_)) (te_var rfl) (te_var (by simp)) gr (by have := od.len; rw [sizeLine_eq]; omega) ⟨_, _, rfl, (J3.take s r).put hrd0, ?_, upd_same, od.put (by omega) (by omega)⟩
        · rw [List.getElem?_map, show (0 + (j : Int)).toNat = j by omega, List.getElem?_eq_getElem hj2]
          rfl
        · rw [upd_ne (ne_of g8 gr (by intro z; cases z))]
          exact g8
      rintro σ G3 ⟨v11, l, rfl, J3, g8, gr, od⟩
      dsimp only
      -- writes
      refine sq_go (fun wr hwr => ?_)
      refine name_go (σ' := [some (.ref p), some (.int n), some (.int many), some (.int (0 + (i : Int))), some (.ref m), some (.ref f), some (.ref rr), some (.int mo), some (.ref q8), some (.str kd), some (.ref rd), v11, some (.ref wr), v13, v14]) rfl ?_
      have hwr0 := J3.free hwr
      have nwr := J.nes hwr0
      have nrw : rd ≠ wr := ne_of_none gr hwr
      have J4 := J3.new (o := .dK []) hwr
      have gr4 : (upd G3 wr (.dK [])) rd = some (.dK (kvI l)) := by rw [upd_ne nrw]; exact gr
      have gw4 : (upd G3 wr (.dK [])) wr = some (.dK (kvI [])) := upd_same
      generalize upd G3 wr (HO.dK []) = G4 at J4 gr4 gw4 ⊢
      refine ⟨fun σ G => ∃ (v11 : Option V) (ms2 : List Int) (l2 : Mp), σ = [some (.ref p), some (.int n), some (.int many), some (.int (0 + (i : Int))), some (.ref m), some (.ref f), some (.ref rr), some (.int mo), some (.ref q8), some (.str kd), some (.ref rd), v11, some (.ref wr), v13, v14] ∧ It2 Hs G p m rr n ms2 vs ∧ G rd = some (.dK (kvI l)) ∧ G wr = some (.dK (kvI l2)) ∧ OkD n n l2, ?_, ?_⟩
      · refine if_go (tt_test (te_eq (te_var rfl) te_c rfl)) (fun _ => ?_) fun _ => ⟨_, ms', [], rfl, J4, gr4, gw4, .nil⟩
        refine for_go (ti_rngN (n := n) (te_var rfl) (by omega)) walk_range (fun j σ G => ∃ (v11 : Option V) (ms2 : List Int) (l2 : Mp), σ = [some (.ref p), some (.int n), some (.int many), some (.int (0 + (i : Int))), some (.ref m), some (.ref f), some (.ref rr), some (.int mo), some (.ref q8), some (.str kd), some (.ref rd), v11, some (.ref wr), v13, v14] ∧ It2 Hs G p m rr n ms2 vs ∧ G rd = some (.dK (kvI l)) ∧ G wr = some (.dK (kvI l2)) ∧ OkD n j l2)
          ⟨_, ms', [], rfl, J4, gr4, gw4, .nil⟩ (fun _ _ _ _ _ => trivial) ?_ ?_
        · rintro j y σ G0 G hj ⟨v11, ms2, l2, rfl, J5, gr, gw, od2⟩ ⟨rfl, rfl⟩
          refine name_go (σ' := [some (.ref p), some (.int n), some (.int many), some (.int (0 + (i : Int))), some (.ref m), some (.ref f), some (.ref rr), some (.int mo), some (.ref q8), some (.str kd), some (.ref rd), some (.int (0 + (j : Int))), some (.ref wr), v13, v14]) rfl ?_
          refine if_take0 (p := p) (m := 2) (ta_cons (te_var rfl) (ta_cons te_c ta_nil)) J5.row (by decide) (fun G' s r => ?_) fun G' s r => ⟨_, _, l2, rfl, J5.take s r, s _ _ (by simpa using nrd.1) gr, s _ _ (by simpa using nwr.1) gw, od2.more (by omega)⟩
          have gr := s _ _ (by simpa using nrd.1) gr
          have gw := s _ _ (by simpa using nwr.1) gw
          refine sq_go (dput_un (go_take (p := p) (m := 3) (ta_cons (te_var rfl) (ta_cons te_c ta_nil)) (J5.take s r).row (by decide) fun z G6 z0 z1 s6 r6 => ?_))
          have J6 := (J5.take s r).take s6 r6
          have gr := s6 _ _ (by simpa using nrd.1) gr
          have gw := s6 _ _ (by simpa using nwr.1) gw
          refine (te_var (v := .ref wr) rfl).go ((te_var (v := .int (j : Int)) (by simp)).go ⟨wr, _, rfl, DPut.k (k := (.inl (j : Int) : Key)) gw (by have := od2.len; rw [kvI_len, sizeLine_eq]; omega), ?_⟩)
          rw [putK_kvI]
          have J7 := J6.put (o := .dK (kvI (putI l2 (j : Int) z))) hwr0
          have gw7 : (upd G6 wr (.dK (kvI (putI l2 (j : Int) z)))) wr = some (.dK (kvI (putI l2 (j : Int) z))) := upd_same
          have gr7 : (upd G6 wr (.dK (kvI (putI l2 (j : Int) z)))) rd = some (.dK (kvI l)) := by rw [upd_ne nrw]; exact gr
          generalize upd G6 wr (HO.dK (kvI (putI l2 (j : Int) z))) = G7 at J7 gw7 gr7 ⊢
          refine st_lst1 (k := (j : Int)) (te_getI (i := (j : Int)) (te_var rfl) (te_var (by simp)) gw7 getI_put) (te_var rfl) (te_var (by simp)) J7.hm (ixN_nat (by omega) (by rw [List.length_map, J7.lm]; omega)) ?_
          rw [← List.map_set]
          refine ⟨_, _, putI l2 (j : Int) z, rfl, J7.mem (by rw [List.length_set]; exact J7.lm), ?_, ?_, od2.put (by omega) (by omega)⟩
          · rw [upd_ne (ne_of gr7 J7.hm (by intro z; cases z))]
            exact gr7
          · rw [upd_ne (ne_of gw7 J7.hm (by intro z; cases z))]
            exact gw7
        · rintro σ G ⟨v11, ms2, l2, rfl, J5, gr, gw, od2⟩
          exact ⟨_, ms2, l2, rfl, J5, gr, gw, od2⟩
      rintro σ G5 ⟨v11, ms2, l2, rfl, J5, gr, gw, od2⟩
      -- begun
      refine asg_un (cb_un (cons_un (te_c.go (cons_un (op_un ((te_var (v := .int mo) rfl).go (go_take (p := p) (m := 5) (ta_cons (te_var rfl) (ta_cons te_c ta_nil)) J5.row (by decide) fun x1 G6 x10 x11 s6 r6 => ⟨_, _, rfl, rfl, _, _, rfl, ?_⟩)))))))
      have J6 := J5.take s6 r6
      have gr := s6 _ _ (by simpa using nrd.1) gr
      have gw := s6 _ _ (by simpa using nwr.1) gw
      obtain ⟨bg, ebg⟩ : ∃ bg : Int, bg = if mo - x1 > 0 then mo - x1 else 0 := ⟨_, rfl⟩
      rw [← ebg]
      dsimp only
      refine ts_sl (σ' := [some (.ref p), some (.int n), some (.int many), some (.int (0 + (i : Int))), some (.ref m), some (.ref f), some (.ref rr), some (.int mo), some (.ref q8), some (.str kd), some (.ref rd), v11, some (.ref wr), some (.int bg), v14]) rfl ?_
      -- ended
      refine asg_un (op_un ((te_var (v := .int mo) rfl).go (go_take (p := p) (m := 5) (ta_cons (te_var rfl) (ta_cons te_c ta_nil)) J6.row (by decide) fun x2 G7 x20 x21 s7 r7 => ⟨_, _, rfl, rfl, ?_⟩)))
      have J7 := J6.take s7 r7
      have gr := s7 _ _ (by simpa using nrd.1) gr
      have gw := s7 _ _ (by simpa using nwr.1) gw
      dsimp only
      refine ts_sl (σ' := [some (.ref p), some (.int n), some (.int many), some (.int (0 + (i : Int))), some (.ref m), some (.ref f), some (.ref rr), some (.int mo), some (.ref q8), some (.str kd), some (.ref rd), v11, some (.ref wr), some (.int bg), some (.int (mo + x2))]) rfl ?_
      -- moment
      refine asg_un (op_un ((te_i0 (g := fun i j => .int (i + j)) (i := mo) (j := 1) (te_var rfl) te_c).go (go_take (p := p) (m := 3) (ta_cons (te_var rfl) (ta_cons te_c ta_nil)) J7.row (by decide) fun x3 G8 x30 x31 s8 r8 => ⟨_, _, rfl, rfl, ?_⟩)))
      have J8 := J7.take s8 r8
      have gr := s8 _ _ (by simpa using nrd.1) gr
      have gw := s8 _ _ (by simpa using nwr.1) gw
      dsimp only
      refine ts_sl (σ' := [some (.ref p), some (.int n), some (.int many), some (.int (0 + (i : Int))), some (.ref m), some (.ref f), some (.ref rr), some (.int (mo + 1 + x3)), some (.ref q8), some (.str kd), some (.ref rd), v11, some (.ref wr), some (.int bg), some (.int (mo + x2))]) rfl ?_
      -- the record
      refine ⟨_, rfl, .inl ⟨rfl, _, SqL.of J8.hr⟩, ?_⟩
      refine (tn_lst (vs := [.str kd, .ref rd, .ref wr, .int bg, .int (mo + x2)]) (ta_cons (te_var rfl) (ta_cons (te_var rfl) (ta_cons (te_var rfl) (ta_cons (te_var rfl) (ta_cons (te_var rfl) ta_nil))))) (by show 5 ≤ sizeLine; decide)).go fun a ha => ?_
      have J9 := J8.new (o := .lst [.str kd, .ref rd, .ref wr, .int bg, .int (mo + x2)]) ha
      have na := J9.nes (J8.free ha)
      have lvs : vs.length ≤ i := by rw [← paired_len pr]; exact lr
      refine ⟨rr, vs, .ref a, rfl, rfl, J9.hr, by rw [sizeLine_eq]; omega, ?_⟩
      have gr : (upd G8 a (.lst [.str kd, .ref rd, .ref wr, .int bg, .int (mo + x2)])) rd = some (.dK (kvI l)) := (by rw [upd_ne (ne_of_none gr ha)]; exact gr)
      have gw : (upd G8 a (.lst [.str kd, .ref rd, .ref wr, .int bg, .int (mo + x2)])) wr = some (.dK (kvI l2)) := (by rw [upd_ne (ne_of_none gw ha)]; exact gw)
      have ga : (upd G8 a (.lst [.str kd, .ref rd, .ref wr, .int bg, .int (mo + x2)])) a = some (.lst [.str kd, .ref rd, .ref wr, .int bg, .int (mo + x2)]) := upd_same
      generalize upd G8 a (HO.lst [.str kd, .ref rd, .ref wr, .int bg, .int (mo + x2)]) = G9 at J9 gr gw ga ⊢
      have sE : Fr [p, m, rr] Hs (upd G9 rr (.lst (vs ++ [.ref a]))) := J9.fr.wr (by simp)
      refine ⟨ms2, vs ++ [.ref a], rs ++ [⟨kd, l, l2, bg, mo + x2⟩], mo + 1 + x3, _, _, _, _, _, _, _, _, rfl, by omega, ⟨I.fr.trans sE, J9.row.upd J9.pr, by rw [upd_ne J9.mr.symm]; exact J9.hm, J9.lm, upd_same, J9.pm, J9.pr, J9.mr, I.is⟩, paired_snoc (L2.Paired.mapP pr fun u r q => q.mono sE.kp) ⟨a, rd, wr, rfl, kp_at (by rw [upd_ne na.2.2]; exact ga) (by simp [na]), kp_at (by rw [upd_ne nrd.2.2]; exact gr) (by simp [nrd]), kp_at (by rw [upd_ne nwr.2.2]; exact gw) (by simp [nwr])⟩, by rw [List.length_append]; simpa using lr, fun r hr => ?_⟩
      rcases List.mem_append.mp hr with hr | hr
      · exact ok r hr
      · rw [List.mem_singleton.mp hr]
        refine ⟨od.more (by omega), od2.more (by omega), ?_⟩
        show bg ≤ mo + x2
        rw [ebg]
        split <;> omega
    · rintro σ H' ⟨ms', vs, rs, mo, v3, v8, v9, v10, v11, v12, v13, v14, rfl, mo0, I, pr, lr, ok⟩
      have hf' := I.fr f _ (by simp [npf, nfr, nmf.symm]) f3
      dsimp only
      refine (tn_lst (vs := [.ref f, .ref rr]) (ta_cons (te_var rfl) (ta_cons (te_var rfl) ta_nil)) (by show 2 ≤ sizeLine; decide)).go fun v hv => ?_
      have nv : ∀ {b : Addr} {o : HO}, H' b = some o → (upd H' v (.lst [.ref f, .ref rr])) b = some o := fun e => by
        rw [upd_ne (ne_of_none e hv)]
        exact e
      have hv3 := I.free hv
      have frH : Fr [p] H (upd H' v (.lst [.ref f, .ref rr])) := fun b o nb e => nv (by
        have e2 := s3 b o nb e
        refine I.fr b o ?_ e2
        have n1 : b ≠ p := by simpa using nb
        have n2 : b ≠ m := ne_of_none e hm
        have n3 : b ≠ rr := fun z => by
          have e4 := s2 b o nb e
          rw [z, hrr] at e4
          cases e4
        simp [n1, n2, n3])
      refine k v f rr ms rs _ frH (I.row.new hv) ?_ npf upd_same (nv hf') ⟨vs, kp_at (nv I.hr) (by simp [I.pr]), L2.Paired.mapP pr fun u r q => q.mono fun b o e => ?_, by omega⟩ lm lr ok
      · cases e : H v with
        | none => rfl
        | some u =>
          have := frH v u (by simpa using (I.nes hv3).1) e
          have e2 := s3 v u (by simpa using (I.nes hv3).1) e
          rw [hv3] at e2
          cases e2
      · obtain ⟨n1, e1⟩ := kp_some e
        refine kp_at (nv e1) ?_
        intro z
        exact n1 (by simp [List.mem_singleton.mp z])
end
end O43

namespace O43
open PySem L2 YF
/-! ### rows apart -/
structure Tri where
  a : Addr
  rd : Addr
  wr : Addr
def Tri.l (t : Tri) : List Addr := [t.a, t.rd, t.wr]
def RowT (H : Hp) (t : Tri) (r : Rc) : Prop := H t.a = some (.lst (r.xs t.rd t.wr)) ∧ H t.rd = some (.dK (kvI r.rd)) ∧ H t.wr = some (.dK (kvI r.wr)) ∧ t.rd ≠ t.wr
def Dis (t u : Tri) : Prop := ∀ x ∈ t.l, ∀ y ∈ u.l, x ≠ y
structure RowsT (H : Hp) (p L : Addr) (ts : List Tri) (rs : List Rc) : Prop where
  lst : H L = some (.lst (ts.map fun t => V.ref t.a))
  nLp : L ≠ p
  row : Paired (RowT H) ts rs
  dis : ts.Pairwise Dis
  np : ∀ t ∈ ts, p ∉ t.l ∧ L ∉ t.l
theorem paired_set {α β : Type} {F : α → β → Prop} : ∀ {l : List α} {vs : List β} {i : Nat} {x : α} {v : β}, Paired F l vs → l[i]? = some x → F x v → Paired F l (vs.set i v)
  | [], [], _, _, _, .nil, e, _ => by simp at e
  | a :: _, b :: _, 0, x, v, .cons _ t, e, h => by
    have e2 : a = x := by simpa using e
    rw [List.set_cons_zero]
    exact .cons (by rw [e2]; exact h) t
  | _ :: _, _ :: _, i + 1, x, v, .cons h0 t, e, h => by
    rw [List.set_cons_succ]
    exact .cons h0 (paired_set t (by simpa using e) h)
theorem paired_all {α β : Type} {F G : α → β → Prop} : ∀ {l : List α} {vs : List β}, Paired F l vs → (∀ (i : Nat) x v, l[i]? = some x → vs[i]? = some v → F x v → G x v) → Paired G l vs
  | [], [], .nil, _ => .nil
  | _ :: _, _ :: _, .cons h t, k => .cons (k 0 _ _ rfl rfl h) (paired_all t fun i x v e1 e2 q => k (i + 1) x v (by simpa using e1) (by simpa using e2) q)
theorem pair_ne {ts : List Tri} (h : ts.Pairwise Dis) {i j : Nat} {t u : Tri} (e1 : ts[i]? = some t) (e2 : ts[j]? = some u) (n : i ≠ j) : Dis t u := by
  obtain ⟨h1, e1⟩ := List.getElem?_eq_some_iff.mp e1
  obtain ⟨h2, e2⟩ := List.getElem?_eq_some_iff.mp e2
  rw [List.pairwise_iff_getElem] at h
  rcases Nat.lt_or_gt_of_ne n with q | q
  · rw [← e1, ← e2]
    exact h i j h1 h2 q
  · have := h j i h2 h1 q
    rw [← e1, ← e2]
    exact fun x hx y hy z => this y hy x hx z.symm
section
variable {H H' : Hp} {p L : Addr} {ts : List Tri} {rs : List Rc}
theorem RowT.fr {X : List Addr} {t : Tri} {r : Rc} (h : RowT H t r) (s : Fr X H H') (n : ∀ x ∈ t.l, x ∉ X) : RowT H' t r :=
  ⟨s _ _ (n _ (by simp [Tri.l])) h.1, s _ _ (n _ (by simp [Tri.l])) h.2.1, s _ _ (n _ (by simp [Tri.l])) h.2.2.1, h.2.2.2⟩
theorem RowsT.take (h : RowsT H p L ts rs) (s : Fr [p] H H') : RowsT H' p L ts rs :=
  ⟨s _ _ (by simpa using h.nLp) h.lst, h.nLp, paired_all h.row fun i t r e1 _ q => q.fr s fun x hx z => (h.np t (List.mem_of_getElem? e1)).1 (by rw [← List.mem_singleton.mp z]; exact hx), h.dis, h.np⟩
theorem RowsT.put (h : RowsT H p L ts rs) {i : Nat} {t : Tri} (e : ts[i]? = some t) {x : Addr} (hx : x ∈ t.l) {o : HO} {r' : Rc} (k : RowT (upd H x o) t r') : RowsT (upd H x o) p L ts (rs.set i r') := by
  have hn := h.np t (List.mem_of_getElem? e)
  refine ⟨?_, h.nLp, ?_, h.dis, h.np⟩
  · rw [upd_ne (fun z => hn.2 (by rw [z]; exact hx))]
    exact h.lst
  · have h2 : Paired (fun (u : Tri) (r : Rc) => RowT (upd H x o) u r ∨ u = t) ts rs := paired_all h.row fun j u r e1 _ q => by
      by_cases z : j = i
      · rw [z, e] at e1
        exact .inr (Option.some.inj e1).symm
      · exact .inl (q.fr (Fr.refl.wr (by simp) : Fr [x] H (upd H x o)) fun y hy m => pair_ne h.dis e1 e z y hy x hx (List.mem_singleton.mp m))
    have h3 := paired_set (i := i) (x := t) (v := r') h2 e (.inl k)
    refine paired_all h3 fun j u r e1 e2 q => ?_
    rcases q with q | q
    · exact q
    · subst q
      by_cases z : j = i
      · subst z
        have hlt : j < rs.length := by
          have := (List.getElem?_eq_some_iff.mp e2).1
          rw [List.length_set] at this
          exact this
        rw [List.getElem?_set_self hlt] at e2
        rw [← Option.some.inj e2]
        exact k
      · exact absurd rfl (pair_ne h.dis e1 e z u.a (by simp [Tri.l]) u.a (by simp [Tri.l]))
theorem RowsT.rows (h : RowsT H p L ts rs) (l : rs.length ≤ 1000) : RowsIn (kp [p] H) L rs := by
  refine ⟨_, kp_at h.lst (by simpa using h.nLp), ?_, l⟩
  have : ∀ {ts : List Tri} {rs : List Rc}, Paired (RowT H) ts rs → (∀ t ∈ ts, p ∉ t.l) → Paired (RowAt (kp [p] H)) (ts.map fun t => V.ref t.a) rs := by
    intro ts rs h
    induction h with
    | nil =>
      intro _
      exact .nil
    | @cons t r ts rs h _ ih =>
      intro n
      have nt : ∀ x ∈ t.l, x ∉ [p] := fun x hx z => n t List.mem_cons_self (by rw [← List.mem_singleton.mp z]; exact hx)
      exact .cons ⟨t.a, t.rd, t.wr, rfl, kp_at h.1 (nt _ (by simp [Tri.l])), kp_at h.2.1 (nt _ (by simp [Tri.l])), kp_at h.2.2.1 (nt _ (by simp [Tri.l]))⟩ (ih fun u hu => n u (List.mem_cons_of_mem _ hu))
  exact this h.row fun t ht => (h.np t ht).1
end
def spBent : Sp := fun vs H Q _ => ∃ (p a : Addr) (n : Nat) (rs : List Rc), vs = [.ref p, .ref a, .int n] ∧ Row H p ∧ RowsIn (kp [p] H) a rs ∧ 0 < n ∧ (∀ r ∈ rs, OkR n 3 r) ∧
  ∀ (v : Addr) (rs' : List Rc) (H' : Hp), Fr [p] H H' → Row H' p → H v = none → RowsIn (kp [p] H') v rs' → rs'.length = rs.length → (∀ r ∈ rs', OkR n 5 r) → Q (.ref v) H'
section
variable {P : Program} {w : World} {K : PySem.W.Frag} {mg : Str → Option Value} {base : Heap} {A : Adr}
theorem ok_law_bent (T : Txt K mg A) : FnOk P w K mg base CX0 2 A.a__law_bent A.d__law_bent ["draws", "rows", "cells"] spBent := by
  refine T.F__law_bent.ok sc_law_bent (fun vs H Q E ⟨_, _, _, _, e, _⟩ => by rw [e]; rfl) (fun cdv A' outer s H vs Q E hr h => ?_)
  obtain ⟨p, a, n, rs, rfl, hp, hR, n0, ok, k⟩ := h
  refine ⟨_, pss_cons (ps_setLc (i := 4) (own := [("row", 3)]) (g := gName 3) (tt := tYes) rfl sc_law_bent.nd rfl rfl (sw_true rfl rfl rfl (by decide +kernel)) (pi_list (pv 1)) (blkOk_by (N := ["draws", "rows", "cells", "row", "changed", "kind", "table"]) (sc := defScope s_law_bent) (by decide +kernel)) (fun _ _ _ _ _ => pg_name (i := 3) sc_law_bent.nd rfl (Or.inl rfl)) (fun _ _ _ _ _ => pts_nil) (fun _ _ _ _ _ => pe_lst (pa_cons (pe_ix (show IxR _ (rIxL K) from ix_list) (pv 3) (pe_int) (fun _ _ => rfl)) (pa_cons (pe_callTy call_dictD (by rfl) T.n_dict (by decide +kernel) (pa_cons (pe_ix (show IxR _ (rIxL K) from ix_list) (pv 3) (pe_int) (fun _ _ => rfl)) pa_nil)) (pa_cons (pe_callTy call_dictD (by rfl) T.n_dict (by decide +kernel) (pa_cons (pe_ix (show IxR _ (rIxL K) from ix_list) (pv 3) (pe_int) (fun _ _ => rfl)) pa_nil)) (pa_cons (pe_ix (show IxR _ (rIxL K) from ix_list) (pv 3) (pe_int) (fun _ _ => rfl)) (pa_cons (pe_ix (show IxR _ (rIxL K) from ix_list) (pv 3) (pe_int) (fun _ _ => rfl)) pa_nil)))))))
  (C8.pss_cut (ps_if (PW.pt (pw_and (pt_cmpR op_gt (pe_callB call_len_seq (by rfl) T.n_len (by decide +kernel) (pa_cons (pv 4) pa_nil)) (pe_int) (nomark _)) (pw_and1 (pt_cmpR op_eq (pe_call (ok_law_take T) (hr.mono (by decide)) rfl T.g__law_take T.F__law_take.kp T.b__law_take .nil pass0 (pa_cons (pv 0) (pa_cons (pe_int) pa_nil))) (pe_int) (nomark _)))))
  (pss_cons (ps_set (i := 3) sc_law_bent.nd rfl (Or.inl rfl) (pe_ix ix_list (pv 4) (pe_call (ok_law_take T) (hr.mono (by decide)) rfl T.g__law_take T.F__law_take.kp T.b__law_take .nil pass0 (pa_cons (pv 0) (pa_cons (pe_callB call_len_seq (by rfl) T.n_len (by decide +kernel) (pa_cons (pv 4) pa_nil)) pa_nil))) (fun _ _ => rfl)))
  (pss_cons (ps_set (i := 5) sc_law_bent.nd rfl (Or.inl rfl) (pe_call (ok_law_take T) (hr.mono (by decide)) rfl T.g__law_take T.F__law_take.kp T.b__law_take .nil pass0 (pa_cons (pv 0) (pa_cons (pe_int) pa_nil))))
  (C8.pss_cut (ps_if (pt_cmpR op_eq (pv 5) (pe_int) (nomark _))
  (pss_cons (ps_set (i := 6) sc_law_bent.nd rfl (Or.inl rfl) (pe_ix ix_list (pv 3) (pe_int) (fun _ _ => rfl)))
  (pss_one (ps_dput (hu_of hr) (pv 6) (pe_call (ok_law_take T) (hr.mono (by decide)) rfl T.g__law_take T.F__law_take.kp T.b__law_take .nil pass0 (pa_cons (pv 0) (pa_cons (pv 2) pa_nil))) (pe_call (ok_law_take T) (hr.mono (by decide)) rfl T.g__law_take T.F__law_take.kp T.b__law_take .nil pass0 (pa_cons (pv 0) (pa_cons (pe_int) pa_nil))) rfl)))
  (pss_nil))
  (C8.pss_cut (ps_if (pt_cmpR op_eq (pv 5) (pe_int) (nomark _))
  (pss_cons (ps_asg (pe_op op_add (pe_ix ix_list (pv 3) (pe_int) (fun _ _ => rfl)) (pe_call (ok_law_take T) (hr.mono (by decide)) rfl T.g__law_take T.F__law_take.kp T.b__law_take .nil pass0 (pa_cons (pv 0) (pa_cons (pe_int) pa_nil)))) (pg_sub (pv 3) (pe_int) set_list))
  (pss_one (ps_asg (pe_callB (call_max2 rfl) (by rfl) T.n_max (by decide +kernel) (pa_cons (pe_ix ix_list (pv 3) (pe_int) (fun _ _ => rfl)) (pa_cons (pe_ix ix_list (pv 3) (pe_int) (fun _ _ => rfl)) pa_nil))) (pg_sub (pv 3) (pe_int) set_list))))
  (pss_nil))
  (C8.pss_cut (ps_if (pt_cmpR op_eq (pv 5) (pe_int) (nomark _))
  (pss_one (ps_asg (pe_op op_add (pe_ix ix_list (pv 3) (pe_int) (fun _ _ => rfl)) (pe_call (ok_law_take T) (hr.mono (by decide)) rfl T.g__law_take T.F__law_take.kp T.b__law_take .nil pass0 (pa_cons (pv 0) (pa_cons (pe_int) pa_nil)))) (pg_sub (pv 3) (pe_int) set_list)))
  (pss_nil))
  (pss_one (ps_if (PW.pt (pw_and (pt_cmpR op_eq (pv 5) (pe_int) (nomark _)) (pw_and1 (pt_cmpR op_eq (pe_ix ix_list (pv 3) (pe_int) (fun _ _ => rfl)) (pe_str) (nomark _)))))
  (pss_cons (ps_set (i := 6) sc_law_bent.nd rfl (Or.inl rfl) (pe_ix ix_list (pv 3) (pe_int) (fun _ _ => rfl)))
  (pss_one (ps_dput (hu_of hr) (pv 6) (pe_call (ok_law_take T) (hr.mono (by decide)) rfl T.g__law_take T.F__law_take.kp T.b__law_take .nil pass0 (pa_cons (pv 0) (pa_cons (pv 2) pa_nil))) (pe_call (ok_law_take T) (hr.mono (by decide)) rfl T.g__law_take T.F__law_take.kp T.b__law_take .nil pass0 (pa_cons (pv 0) (pa_cons (pe_int) pa_nil))) rfl)))
  (pss_nil))))))))
  (pss_nil))
  (pss_one (ps_ret (pv 4)))), ?_⟩
  have hl : rs.length ≤ 1000 := by
    obtain ⟨_, _, _, q⟩ := hR
    exact q
  obtain ⟨vs, ha, hpr, _⟩ := id hR
  have hlv : vs.length = rs.length := (paired_len hpr).symm
  refine sq_go (lc_go (ti_list (te_var rfl) (SqL.of (kp_some ha).2)) walk_list (fun (L : Addr) (i : Nat) (H' : Hp) => ∃ ts : List Tri, Same H H' ∧ H' L = some (.lst (ts.map fun t => V.ref t.a)) ∧ L ≠ p ∧ Paired (RowT H') ts (rs.take i) ∧ ts.Pairwise Dis ∧ (∀ t ∈ ts, (∀ x ∈ t.l, H x = none) ∧ L ∉ t.l))
    (fun L hL => ⟨[], Same.upd hL, upd_same, hp.ne hL, .nil, .nil, fun t h => (by cases h)⟩) (fun L i H' _ ⟨ts, s1, _⟩ => SqL.of (s1 _ _ (kp_some ha).2)) ?_ ?_)
  · rintro L i x H1 H' hL hi ⟨ts, s1, e1, nLp, pr, ds, np⟩ ⟨rfl, hx⟩
    have hi2 : i < rs.length := by omega
    obtain ⟨r, er, hr0⟩ := paired_at hpr hx
    have hr1 : RowAt H' x r := hr0.mono (kp_sub.trans s1)
    obtain ⟨ra, rrd, rwr, rfl, g1, g2, g3⟩ := hr1
    refine name_go (σ' := [some (.ref p), some (.ref a), some (.int n), some (.ref ra), none, none, none]) rfl ⟨rfl, yes_go ?_⟩
    refine lstd_un (cons_un ((te_ixL (te_var rfl) te_c (SqL.of g1) rfl).go (cons_un (cb_un (cons_un ((te_ixL (te_var rfl) te_c (SqL.of g1) rfl).go (nil_un ⟨rrd, _, rfl, .inl g2, fun d1 hd1 => ?_⟩)))))))
    have s2 : Same H' (upd H' d1 (.dK (kvI r.rd))) := Same.upd hd1
    have u1 : (upd H' d1 (.dK (kvI r.rd))) d1 = some (.dK (kvI r.rd)) := upd_same
    have f1 : ∀ {c : Addr}, (upd H' d1 (.dK (kvI r.rd))) c = none → H' c = none := fun e => (upd_none e).2
    generalize upd H' d1 (HO.dK (kvI r.rd)) = G1 at s2 u1 f1 ⊢
    refine cons_un (cb_un (cons_un ((te_ixL (te_var rfl) te_c (SqL.of (s2 _ _ g1)) rfl).go (nil_un ⟨rwr, _, rfl, .inl (s2 _ _ g3), fun d2 hd2 => ?_⟩))))
    have n12 : d1 ≠ d2 := ne_of_none u1 hd2
    have s3 : Same G1 (upd G1 d2 (.dK (kvI r.wr))) := Same.upd hd2
    have u2 : (upd G1 d2 (.dK (kvI r.wr))) d2 = some (.dK (kvI r.wr)) := upd_same
    have f2 : ∀ {c : Addr}, (upd G1 d2 (.dK (kvI r.wr))) c = none → G1 c = none := fun e => (upd_none e).2
    generalize upd G1 d2 (HO.dK (kvI r.wr)) = G2 at s3 u2 f2 ⊢
    have g1' := s3 _ _ (s2 _ _ g1)
    refine cons_un ((te_ixL (te_var rfl) te_c (SqL.of g1') rfl).go (cons_un ((te_ixL (te_var rfl) te_c (SqL.of g1') rfl).go (nil_un ⟨by show 5 ≤ sizeLine; decide, fun b hb => ?_⟩))))
    have h1 := s3 _ _ u1
    have nb1 : d1 ≠ b := ne_of_none h1 hb
    have nb2 : d2 ≠ b := ne_of_none u2 hb
    have s4 : Same G2 (upd G2 b (.lst [.str r.kd, .ref d1, .ref d2, .int r.bg, .int r.en])) := Same.upd hb
    have nL : ∀ {c : Addr}, H' c = none → c ≠ L := fun e => (ne_of_none e1 e).symm
    have nbL := nL (f1 (f2 hb))
    have n1L := nL hd1
    have n2L := nL (f1 hd2)
    have sA : Same H' (upd G2 b (.lst [.str r.kd, .ref d1, .ref d2, .int r.bg, .int r.en])) := (s2.trans s3).trans s4
    have hG : (upd G2 b (.lst [.str r.kd, .ref d1, .ref d2, .int r.bg, .int r.en])) b = some (.lst [.str r.kd, .ref d1, .ref d2, .int r.bg, .int r.en]) := upd_same
    have hd1' := s4 _ _ h1
    have hd2' := s4 _ _ u2
    generalize upd G2 b (HO.lst [.str r.kd, .ref d1, .ref d2, .int r.bg, .int r.en]) = G3 at sA hG hd1' hd2' ⊢
    have lts : ts.length = i := by
      have := paired_len pr
      rw [List.length_take] at this
      omega
    have ex : ∀ u ∈ ts, ∀ y ∈ u.l, ∃ o, H' y = some o := fun u hu y hy => by
      obtain ⟨j, ej⟩ := List.getElem?_of_mem hu
      obtain ⟨r2, _, q⟩ := paired_at pr ej
      simp only [Tri.l, List.mem_cons, List.not_mem_nil, or_false] at hy
      rcases hy with rfl | rfl | rfl
      · exact ⟨_, q.1⟩
      · exact ⟨_, q.2.1⟩
      · exact ⟨_, q.2.2.1⟩
    refine ⟨_, sA _ _ e1, by rw [List.length_map, sizeLine_eq]; omega, ts ++ [⟨b, d1, d2⟩], Same.wr (s1.trans sA) hL, by rw [upd_same, List.map_append]; rfl, nLp, ?_, ?_, ?_⟩
    · rw [List.take_add_one, er]
      refine paired_snoc (paired_all pr fun j t q e2 _ h => h.fr (Fr.of sA |>.wr (by simp) : Fr [L] H' (upd G3 L _)) fun y hy z => (np t (List.mem_of_getElem? e2)).2 (by rw [← List.mem_singleton.mp z]; exact hy)) ⟨?_, ?_, ?_, n12⟩
      · rw [upd_ne nbL]
        exact hG
      · rw [upd_ne n1L]
        exact hd1'
      · rw [upd_ne n2L]
        exact hd2'
    · refine List.pairwise_append.mpr ⟨ds, List.pairwise_singleton _ _, fun u hu t ht x hx y hy z => ?_⟩
      obtain ⟨o, q⟩ := ex u hu x hx
      rw [List.mem_singleton.mp ht] at hy
      simp only [Tri.l, List.mem_cons, List.not_mem_nil, or_false] at hy
      rw [z] at q
      rcases hy with rfl | rfl | rfl
      · rw [f1 (f2 hb)] at q
        cases q
      · rw [hd1] at q
        cases q
      · rw [f1 hd2] at q
        cases q
    · intro t ht
      rcases List.mem_append.mp ht with ht | ht
      · exact np t ht
      · rw [List.mem_singleton.mp ht]
        refine ⟨fun x hx => ?_, ?_⟩
        · simp only [Tri.l, List.mem_cons, List.not_mem_nil, or_false] at hx
          rcases hx with rfl | rfl | rfl
          · exact s1.free (f1 (f2 hb))
          · exact s1.free hd1
          · exact s1.free (f1 hd2)
        · simp only [Tri.l, List.mem_cons, List.not_mem_nil, or_false]
          rintro (z | z | z)
          · exact nbL z.symm
          · exact n1L z.symm
          · exact n2L z.symm
  · rintro L H1 hL ⟨ts, s1, e1, nLp, pr, ds, np⟩
    rw [hlv, List.take_length] at pr
    have npx : ∀ t ∈ ts, p ∉ t.l ∧ L ∉ t.l := fun t ht => ⟨fun z => (by
      obtain ⟨ns, q⟩ := hp
      rw [(np t ht).1 p z] at q
      cases q), (np t ht).2⟩
    have R0 : RowsT H1 p L ts rs := ⟨e1, nLp, pr, ds, npx⟩
    have lts : ts.length = rs.length := (paired_len pr).symm
    have fresh : ∀ {t : Tri}, t ∈ ts → ∀ x ∈ t.l, H x = none := fun ht x hx => (np _ ht).1 x hx
    refine name_go (σ' := [some (.ref p), some (.ref a), some (.int n), none, some (.ref L), none, none]) rfl ?_
    refine ⟨fun σ G => (∃ v3 v5 v6 : Option V, σ = [some (.ref p), some (.ref a), some (.int n), v3, some (.ref L), v5, v6]) ∧ Fr [p] H G ∧ Row G p ∧ ∃ rs', RowsT G p L ts rs' ∧ rs'.length = rs.length ∧ ∀ r ∈ rs', OkR n 5 r, ?_, ?_⟩
    · have up : ∀ {m m' : Nat} {l : List Rc}, m ≤ m' → (∀ r ∈ l, OkR n m r) → ∀ r ∈ l, OkR n m' r := fun hm h r hr => ⟨(h r hr).rd.more hm, (h r hr).wr.more hm, (h r hr).be⟩
      have upd_ok : ∀ {m : Nat} {l : List Rc} {i : Nat} {r' : Rc}, (∀ r ∈ l, OkR n m r) → OkR n m r' → ∀ r ∈ l.set i r', OkR n m r := fun h h2 r hr => by
        rcases List.mem_or_eq_of_mem_set hr with q | q
        · exact h r q
        · rw [q]
          exact h2
      refine if_and (tt_test (te_i0 (te_len (te_var rfl) (.inl (SqL.of e1))) te_c)) (fun hb => ?_) fun _ => ⟨⟨_, _, _, rfl⟩, Fr.of s1, hp.same s1, rs, R0, rfl, up (by decide) ok⟩
      have hpos : 0 < rs.length := by
        have := of_decide_eq_true hb
        rw [List.length_map] at this
        omega
      refine if_take0 (p := p) (m := 2) (ta_cons (te_var rfl) (ta_cons te_c ta_nil)) (hp.same s1) (by decide) (fun G1 s2 r2 => ?_) fun G s r => ⟨⟨_, _, _, rfl⟩, (Fr.of s1).trans s, r, rs, R0.take s, rfl, up (by decide) ok⟩
      have R1 := R0.take s2
      have f1 : Fr [p] H G1 := (Fr.of s1).trans s2
      refine asg_un (op_un ((te_var rfl).go (go_take (p := p) (m := ((ts.map fun t => V.ref t.a).length : Int)) (ta_cons (te_var rfl) (ta_cons (te_len (te_var rfl) (.inl (SqL.of R1.lst))) ta_nil)) r2 (by rw [List.length_map]; omega) fun z G2 z0 z1 s3 r3 => ?_)))
      rw [List.length_map] at z1
      have hz : z.toNat < ts.length := by omega
      have et : ts[z.toNat]? = some ts[z.toNat] := List.getElem?_eq_getElem hz
      generalize ts[z.toNat] = t at et
      have R2 := R1.take s3
      have f2 := f1.trans s3
      have htm := List.mem_of_getElem? et
      refine ⟨L, _, z, .ref t.a, rfl, rfl, SqL.of R2.lst, atI_int z0 (by rw [List.getElem?_map, et]; rfl), ?_⟩
      dsimp only
      refine ts_sl (σ' := [some (.ref p), some (.ref a), some (.int n), some (.ref t.a), some (.ref L), none, none]) rfl ?_
      refine asg_un (go_take (p := p) (m := 4) (ta_cons (te_var rfl) (ta_cons te_c ta_nil)) r3 (by decide) fun kd G3 kd0 kd1 s4 r4 => ?_)
      have R3 := R2.take s4
      have f3 := f2.trans s4
      refine ts_sl (σ' := [some (.ref p), some (.ref a), some (.int n), some (.ref t.a), some (.ref L), some (.int kd), none]) rfl ?_
      have nin : ∀ x ∈ t.l, x ≠ p := fun x hx q => (npx t htm).1 (by rw [← q]; exact hx)
      have ma : t.a ∈ t.l := by simp [Tri.l]
      have mr : t.rd ∈ t.l := by simp [Tri.l]
      have mw : t.wr ∈ t.l := by simp [Tri.l]
      -- a dict of the row is written
      have putD : ∀ {G : Hp} {rs' : List Rc} {m : Nat} {x : Addr} {l : Mp} {c y : Int} {r' : Rc}, Fr [p] H G → Row G p → RowsT G p L ts rs' → x ∈ t.l → RowT (upd G x (.dK (kvI (putI l c y)))) t r' →
          Fr [p] H (upd G x (.dK (kvI (putI l c y)))) ∧ Row (upd G x (.dK (kvI (putI l c y)))) p ∧ RowsT (upd G x (.dK (kvI (putI l c y)))) p L ts (rs'.set z.toNat r') :=
        fun f r R hx h => ⟨f.wrNew (fresh htm _ hx), r.upd (nin _ hx), R.put et hx h⟩
      have putL : ∀ {G : Hp} {rs' : List Rc} {xs : List V} {r' : Rc}, Fr [p] H G → Row G p → RowsT G p L ts rs' → RowT (upd G t.a (.lst xs)) t r' →
          Fr [p] H (upd G t.a (.lst xs)) ∧ Row (upd G t.a (.lst xs)) p ∧ RowsT (upd G t.a (.lst xs)) p L ts (rs'.set z.toNat r') :=
        fun f r R h => ⟨f.wrNew (fresh htm _ ma), r.upd (nin _ ma), R.put et ma h⟩
      obtain ⟨Inv, eInv⟩ : ∃ Inv : L2.St → Hp → Prop, Inv = fun σ G => (∃ v6 : Option V, σ = [some (.ref p), some (.ref a), some (.int n), some (.ref t.a), some (.ref L), some (.int kd), v6]) ∧ Fr [p] H G ∧ Row G p ∧ ∃ rs', RowsT G p L ts rs' ∧ rs'.length = rs.length ∧ ∀ r ∈ rs', OkR n 4 r := ⟨_, rfl⟩
      refine ⟨Inv, ?_, ?_⟩
      · refine if_go (tt_test (te_eq (te_var rfl) te_c rfl)) (fun _ => ?_) fun _ => by rw [eInv]; exact ⟨⟨_, rfl⟩, f3, r4, rs, R3, rfl, up (by decide) ok⟩
        obtain ⟨r, er, hrt⟩ := paired_at R3.row et
        refine asg_te (te_ixL (te_var rfl) te_c (SqL.of hrt.1) rfl) ?_
        refine ts_sl (σ' := [some (.ref p), some (.ref a), some (.int n), some (.ref t.a), some (.ref L), some (.int kd), some (.ref t.rd)]) rfl ?_
        refine dput_un (go_take (p := p) (m := 3) (ta_cons (te_var rfl) (ta_cons te_c ta_nil)) r4 (by decide) fun y G4 y0 y1 s5 r5 => ?_)
        refine (te_var rfl).go (go_take (p := p) (m := (n : Int)) (ta_cons (te_var rfl) (ta_cons (te_var rfl) ta_nil)) r5 (by omega) fun c G5 c0 c1 s6 r6 => ?_)
        have R5 := (R3.take s5).take s6
        obtain ⟨r2, er2, hrt2⟩ := paired_at R5.row et
        rw [er] at er2
        cases er2
        have okr := ok r (List.mem_of_getElem? er)
        refine ⟨t.rd, _, rfl, DPut.k (k := (.inl c : Key)) hrt2.2.1 (by have := okr.rd.len; rw [kvI_len, sizeLine_eq]; omega), ?_⟩
        rw [putK_kvI]
        have q := putD (m := 4) (x := t.rd) (l := r.rd) (c := c) (y := y) (r' := { r with rd := putI r.rd c y }) ((f3.trans s5).trans s6) r6 R5 mr ⟨by rw [upd_ne (ne_of hrt2.1 hrt2.2.1 (by intro z; cases z))]; exact hrt2.1, upd_same, by rw [upd_ne hrt2.2.2.2.symm]; exact hrt2.2.2.1, hrt2.2.2.2⟩
        rw [eInv]
        exact ⟨⟨_, rfl⟩, q.1, q.2.1, _, q.2.2, by rw [List.length_set], upd_ok (up (by decide) ok) ⟨okr.rd.put c0 c1, okr.wr.more (by decide), okr.be⟩⟩
      rw [eInv]
      rintro σ G4 ⟨⟨v6, rfl⟩, f4, r5, rs4, R4, l4, ok4⟩
      refine ⟨Inv, ?_, ?_⟩
      · refine if_go (tt_test (te_eq (te_var rfl) te_c rfl)) (fun _ => ?_) fun _ => by rw [eInv]; exact ⟨⟨_, rfl⟩, f4, r5, rs4, R4, l4, ok4⟩
        obtain ⟨r, er, hrt⟩ := paired_at R4.row et
        have okr := ok4 r (List.mem_of_getElem? er)
        refine sq_go (lst_un (op_un ((te_ixL (te_var rfl) te_c (SqL.of hrt.1) rfl).go (go_take (p := p) (m := 9) (ta_cons (te_var rfl) (ta_cons te_c ta_nil)) r5 (by decide) fun y G5 y0 y1 s6 r6 => ⟨_, _, rfl, rfl, ?_⟩))))
        have R5 := R4.take s6
        obtain ⟨r2, er2, hrt2⟩ := paired_at R5.row et
        rw [er] at er2
        cases er2
        refine (te_var rfl).go (te_c.go ⟨t.a, _, 3, 3, rfl, rfl, hrt2.1, rfl, ?_⟩)
        have q := putL (r' := { r with bg := r.bg + y }) (xs := (r.xs t.rd t.wr).set 3 (.int (r.bg + y))) (f4.trans s6) r6 R5 ⟨upd_same, by rw [upd_ne (ne_of hrt2.2.1 hrt2.1 (by intro z; cases z))]; exact hrt2.2.1, by rw [upd_ne (ne_of hrt2.2.2.1 hrt2.1 (by intro z; cases z))]; exact hrt2.2.2.1, hrt2.2.2.2⟩
        generalize upd G5 t.a (HO.lst ((r.xs t.rd t.wr).set 3 (.int (r.bg + y)))) = G6 at q ⊢
        obtain ⟨f6, r7, R6⟩ := q
        have hi4 : z.toNat < rs4.length := (List.getElem?_eq_some_iff.mp er).1
        obtain ⟨r3, er3, hrt3⟩ := paired_at R6.row et
        rw [List.getElem?_set_self hi4] at er3
        cases er3
        dsimp only
        have tr : ∀ {j : Int} {u : V}, atI (Rc.xs { r with bg := r.bg + y } t.rd t.wr) j = some u → Te (tOp (rIxL K) (tVar 3) (tC (.int j))) [some (.ref p), some (.ref a), some (.int n), some (.ref t.a), some (.ref L), some (.int kd), v6] G6 u := fun e => te_ixL (te_var rfl) te_c (SqL.of hrt3.1) e
        refine lst_un (cb_un (cons_un ((tr (u := .int r.en) rfl).go (cons_un ((tr (u := .int (r.bg + y)) rfl).go (nil_un ⟨_, _, rfl, ?_⟩))))))
        refine (te_var rfl).go (te_c.go ⟨t.a, _, 4, 4, rfl, rfl, hrt3.1, rfl, ?_⟩)
        have q := putL (r' := ⟨r.kd, r.rd, r.wr, r.bg + y, if r.bg + y > r.en then r.bg + y else r.en⟩) (xs := (Rc.xs { r with bg := r.bg + y } t.rd t.wr).set 4 (.int (if r.bg + y > r.en then r.bg + y else r.en))) f6 r7 R6 ⟨upd_same, by rw [upd_ne (ne_of hrt3.2.1 hrt3.1 (by intro z; cases z))]; exact hrt3.2.1, by rw [upd_ne (ne_of hrt3.2.2.1 hrt3.1 (by intro z; cases z))]; exact hrt3.2.2.1, hrt3.2.2.2⟩
        rw [eInv]
        refine ⟨⟨_, rfl⟩, q.1, q.2.1, _, q.2.2, by rw [List.length_set, List.length_set]; exact l4, fun u hu => ?_⟩
        rw [List.set_set] at hu
        refine upd_ok (i := z.toNat) (r' := ⟨r.kd, r.rd, r.wr, r.bg + y, if r.bg + y > r.en then r.bg + y else r.en⟩) ok4 ⟨okr.rd, okr.wr, ?_⟩ u hu
        show r.bg + y ≤ if r.bg + y > r.en then r.bg + y else r.en
        split <;> omega
      rw [eInv]
      rintro σ G5 ⟨⟨v6, rfl⟩, f5, r6, rs5, R5, l5, ok5⟩
      refine ⟨Inv, ?_, ?_⟩
      · refine if_go (tt_test (te_eq (te_var rfl) te_c rfl)) (fun _ => ?_) fun _ => by rw [eInv]; exact ⟨⟨_, rfl⟩, f5, r6, rs5, R5, l5, ok5⟩
        obtain ⟨r, er, hrt⟩ := paired_at R5.row et
        have okr := ok5 r (List.mem_of_getElem? er)
        refine lst_un (op_un ((te_ixL (te_var rfl) te_c (SqL.of hrt.1) rfl).go (go_take (p := p) (m := 2) (ta_cons (te_var rfl) (ta_cons te_c ta_nil)) r6 (by decide) fun y G6 y0 y1 s7 r7 => ⟨_, _, rfl, rfl, ?_⟩)))
        have R6 := R5.take s7
        obtain ⟨r2, er2, hrt2⟩ := paired_at R6.row et
        rw [er] at er2
        cases er2
        refine (te_var rfl).go (te_c.go ⟨t.a, _, 4, 4, rfl, rfl, hrt2.1, rfl, ?_⟩)
        have q := putL (r' := { r with en := r.bg + y }) (xs := (r.xs t.rd t.wr).set 4 (.int (r.bg + y))) (f5.trans s7) r7 R6 ⟨upd_same, by rw [upd_ne (ne_of hrt2.2.1 hrt2.1 (by intro z; cases z))]; exact hrt2.2.1, by rw [upd_ne (ne_of hrt2.2.2.1 hrt2.1 (by intro z; cases z))]; exact hrt2.2.2.1, hrt2.2.2.2⟩
        rw [eInv]
        refine ⟨⟨_, rfl⟩, q.1, q.2.1, _, q.2.2, by rw [List.length_set]; exact l5, upd_ok ok5 ⟨okr.rd, okr.wr, ?_⟩⟩
        show r.bg ≤ r.bg + y
        omega
      rw [eInv]
      rintro σ G6 ⟨⟨v6, rfl⟩, f6, r7, rs6, R6, l6, ok6⟩
      refine if_and (tt_test (te_eq (te_var rfl) te_c rfl)) (fun _ => ?_) fun _ => ⟨⟨_, _, _, rfl⟩, f6, r7, rs6, R6, l6, up (by decide) ok6⟩
      obtain ⟨r, er, hrt⟩ := paired_at R6.row et
      have okr := ok6 r (List.mem_of_getElem? er)
      refine if_go (tt_test (te_eq (te_ixL (v := .str r.kd) (te_var rfl) te_c (SqL.of hrt.1) rfl) te_c rfl)) (fun _ => ?_) fun _ => ⟨⟨_, _, _, rfl⟩, f6, r7, rs6, R6, l6, up (by decide) ok6⟩
      refine asg_te (te_ixL (te_var rfl) te_c (SqL.of hrt.1) rfl) ?_
      refine ts_sl (σ' := [some (.ref p), some (.ref a), some (.int n), some (.ref t.a), some (.ref L), some (.int kd), some (.ref t.wr)]) rfl ?_
      refine dput_un (go_take (p := p) (m := 3) (ta_cons (te_var rfl) (ta_cons te_c ta_nil)) r7 (by decide) fun y G7 y0 y1 s8 r8 => ?_)
      refine (te_var rfl).go (go_take (p := p) (m := (n : Int)) (ta_cons (te_var rfl) (ta_cons (te_var rfl) ta_nil)) r8 (by omega) fun c G8 c0 c1 s9 r9 => ?_)
      have R8 := (R6.take s8).take s9
      obtain ⟨r2, er2, hrt2⟩ := paired_at R8.row et
      rw [er] at er2
      cases er2
      refine ⟨t.wr, _, rfl, DPut.k (k := (.inl c : Key)) hrt2.2.2.1 (by have := okr.wr.len; rw [kvI_len, sizeLine_eq]; omega), ?_⟩
      rw [putK_kvI]
      have q := putD (m := 4) (x := t.wr) (l := r.wr) (c := c) (y := y) (r' := { r with wr := putI r.wr c y }) ((f6.trans s8).trans s9) r9 R8 mw ⟨by rw [upd_ne (ne_of hrt2.1 hrt2.2.2.1 (by intro z; cases z))]; exact hrt2.1, by rw [upd_ne hrt2.2.2.2]; exact hrt2.2.1, upd_same, hrt2.2.2.2⟩
      exact ⟨⟨_, _, _, rfl⟩, q.1, q.2.1, _, q.2.2, by rw [List.length_set]; exact l6, upd_ok (up (by decide) ok6) ⟨okr.rd.more (by decide), okr.wr.put c0 c1, okr.be⟩⟩
    · rintro σ G ⟨⟨v3, v5, v6, rfl⟩, f, r, rs', R, l, ok'⟩
      exact ret_te (te_var rfl) (k L rs' G f r hL (R.rows (by omega)) l ok')
/-! ### the law's world -/
structure WorldAt (H : Hp) (p v f rr : Addr) (n : Nat) (ms : List Int) (rs : List Rc) : Prop where
  nv : v ≠ p
  nf : f ≠ p
  pr : H v = some (.lst [.ref f, .ref rr])
  mem : H f = some (.lst (ms.map V.int))
  row : RowsIn (kp [p] H) rr rs
  lm : ms.length = n
  n0 : 0 < n
  n3 : n ≤ 3
  ok : ∀ r ∈ rs, OkR n 5 r
theorem WorldAt.fr {H H' : Hp} {p v f rr : Addr} {n : Nat} {ms : List Int} {rs : List Rc} (h : WorldAt H p v f rr n ms rs) (s : Fr [p] H H') : WorldAt H' p v f rr n ms rs :=
  ⟨h.nv, h.nf, s _ _ (by simpa using h.nv) h.pr, s _ _ (by simpa using h.nf) h.mem, h.row.mono s.kp, h.lm, h.n0, h.n3, h.ok⟩
theorem WorldAt.rows {H : Hp} {p v f rr : Addr} {n : Nat} {ms : List Int} {rs : List Rc} (h : WorldAt H p v f rr n ms rs) : RowsIn H rr rs := h.row.mono kp_sub
theorem WorldAt.te0 {H : Hp} {p v f rr : Addr} {n : Nat} {ms : List Int} {rs : List Rc} {σ : L2.St} {te : TE} (h : WorldAt H p v f rr n ms rs) (t : Te te σ H (.ref v)) : Te (tOp (rIxL K) te (tC (.int 0))) σ H (.ref f) := te_ixL t te_c (SqL.of h.pr) rfl
theorem WorldAt.te1 {H : Hp} {p v f rr : Addr} {n : Nat} {ms : List Int} {rs : List Rc} {σ : L2.St} {te : TE} (h : WorldAt H p v f rr n ms rs) (t : Te te σ H (.ref v)) : Te (tOp (rIxL K) te (tC (.int 1))) σ H (.ref rr) := te_ixL t te_c (SqL.of h.pr) rfl
theorem WorldAt.okW {H : Hp} {p v f rr : Addr} {n : Nat} {ms : List Int} {rs : List Rc} (h : WorldAt H p v f rr n ms rs) : OkW ms.length rs := fun r hr => by
  have o := (h.ok r hr).wr
  rw [h.lm]
  exact ⟨o.key, o.nod, Nat.le_trans o.len (by decide)⟩
def spWorld : Sp := fun vs H Q _ => ∃ (p : Addr) (most : Nat), vs = [.ref p, .int most] ∧ Row H p ∧ most ≤ 99 ∧
  ∀ (v f rr : Addr) (n : Nat) (ms : List Int) (rs : List Rc) (H' : Hp), Fr [p] H H' → Row H' p → WorldAt H' p v f rr n ms rs → rs.length ≤ most → Q (.ref v) H'
theorem ok_law_world (T : Txt K mg A) : FnOk P w K mg base CX0 3 A.a__law_world A.d__law_world ["draws", "most"] spWorld := by
  refine T.F__law_world.ok sc_law_world (fun vs H Q E ⟨_, _, e, _⟩ => by rw [e]; rfl) (fun cdv A' outer s H vs Q E hr h => ?_)
  obtain ⟨p, most, rfl, hp, hm, k⟩ := h
  refine ⟨_, pss_cons (ps_set (i := 2) sc_law_world.nd rfl (Or.inl rfl) (pe_op op_add (pe_int) (pe_call (ok_law_take T) (hr.mono (by decide)) rfl T.g__law_take T.F__law_take.kp T.b__law_take .nil pass0 (pa_cons (pv 0) (pa_cons (pe_int) pa_nil)))))
  (pss_cons (ps_set (i := 3) sc_law_world.nd rfl (Or.inl rfl) (pe_call (ok_law_records T) (hr.mono (by decide)) rfl T.g__law_records T.F__law_records.kp T.b__law_records .nil pass0 (pa_cons (pv 0) (pa_cons (pv 2) (pa_cons (pe_call (ok_law_take T) (hr.mono (by decide)) rfl T.g__law_take T.F__law_take.kp T.b__law_take .nil pass0 (pa_cons (pv 0) (pa_cons (pe_op op_add (pv 1) (pe_int)) pa_nil))) pa_nil)))))
  (pss_cons (ps_set (i := 4) sc_law_world.nd rfl (Or.inl rfl) (pe_call (ok_law_mixed T) (hr.mono (by decide)) rfl T.g__law_mixed T.F__law_mixed.kp T.b__law_mixed .nil pass0 (pa_cons (pv 0) (pa_cons (pe_call (ok_law_bent T) (hr.mono (by decide)) rfl T.g__law_bent T.F__law_bent.kp T.b__law_bent .nil pass0 (pa_cons (pv 0) (pa_cons (pe_ix ix_list (pv 3) (pe_int) (fun _ _ => rfl)) (pa_cons (pv 2) pa_nil)))) pa_nil))))
  (pss_one (ps_ret (pe_lst (pa_cons (pe_ix ix_list (pv 3) (pe_int) (fun _ _ => rfl)) (pa_cons (pv 4) pa_nil))))))), ?_⟩
  refine asg_un (op_un (te_c.go (go_take (p := p) (m := 3) (ta_cons (te_var rfl) (ta_cons te_c ta_nil)) hp (by decide) fun z H1 z0 z1 s1 r1 => ⟨_, _, rfl, rfl, ?_⟩)))
  obtain ⟨n, hn⟩ : ∃ n : Nat, 1 + z = n := ⟨(1 + z).toNat, by omega⟩
  refine ts_sl (σ' := [some (.ref p), some (.int most), some (.int n), none, none]) (by rw [← hn]; rfl) ?_
  refine asg_un (call_un (cons_un ((te_var rfl).go (cons_un ((te_var rfl).go (cons_un (go_take (p := p) (m := (most : Int) + 1) (ta_cons (te_var rfl) (ta_cons (te_i0 (g := fun i j => .int (i + j)) (te_var rfl) te_c) ta_nil)) r1 (by omega) fun y H2 y0 y1 s2 r2 => nil_un ?_)))))))
  refine ⟨p, n, y.toNat, by rw [Int.toNat_of_nonneg y0], r2, by omega, by omega, by omega, fun v f rr ms rs H3 s3 r3 hv nf e1 e2 e3 l1 l2 ok => ?_⟩
  have nv := r2.ne hv
  dsimp only
  refine ts_sl (σ' := [some (.ref p), some (.int most), some (.int n), some (.ref v), none]) rfl ?_
  have te1 := te_ixL (K := K) (v := .ref rr) (te_var (i := 3) (σ := [some (.ref p), some (.int most), some (.int n), some (.ref v), none]) rfl) (te_c (v := .int 1)) (SqL.of e1) rfl
  refine asg_un (call_un (cons_un ((te_var rfl).go (cons_un (call_un (cons_un ((te_var rfl).go (cons_un (te1.go (cons_un ((te_var rfl).go (nil_un ?_))))))))))))
  refine ⟨p, rr, n, rs, rfl, r3, e3, by omega, ok, fun b rs2 H4 s4 r4 hb e4 l4 ok4 => nil_un ?_⟩
  obtain ⟨vs2, g1, g2, g3⟩ := id e4
  refine ⟨p, b, vs2, rfl, r4, r3.ne hb, (kp_some g1).2, by rw [← paired_len g2]; exact g3, fun c ys H5 pm s5 r5 hc e5 => ?_⟩
  obtain ⟨rs5, pm5, pr5⟩ := paired_perm pm g2
  have nc := r4.ne hc
  refine ts_sl (σ' := [some (.ref p), some (.int most), some (.int n), some (.ref v), some (.ref c)]) rfl ?_
  have e1' := s5 _ _ (by simpa using nv) (s4 _ _ (by simpa using nv) e1)
  have e2' := s5 _ _ (by simpa using nf) (s4 _ _ (by simpa using nf) e2)
  refine ret_un ((tn_lst (vs := [.ref f, .ref c]) (ta_cons (te_ixL (te_var rfl) te_c (SqL.of e1') rfl) (ta_cons (te_var rfl) ta_nil)) (by show 2 ≤ sizeLine; decide)).go fun q hq => ?_)
  have sq : Same H5 (upd H5 q (.lst [.ref f, .ref c])) := Same.upd hq
  have fq : Fr [p] H5 (upd H5 q (.lst [.ref f, .ref c])) := Fr.of sq
  refine k q f c n ms rs5 _ ((((s1.trans s2).trans s3).trans s4).trans s5 |>.trans fq) (r5.new hq) ⟨r5.ne hq, nf, upd_same, sq _ _ e2', ⟨ys, kp_at (sq _ _ e5) (by simpa using nc), L2.Paired.mapP pr5 fun u r h => (h.mono s5.kp).mono fq.kp, by rw [pm5.length_eq]; exact g3⟩, l1, by omega, by omega, fun r hr => ok4 r (pm5.mem_iff.mp hr)⟩ (by rw [pm5.length_eq]; omega)
end
end O43

namespace O43
open PySem L2 YF
/-! ### what is the same -/
def dInts (ms : List Int) : D := .lst (D.row (ms.map D.int))
theorem row_isRow : ∀ l : List D, (D.row l).isRow = true
  | [] => rfl
  | _ :: r => row_isRow r
theorem ints_ok : ∀ ms : List Int, (D.row (ms.map D.int)).ok = true
  | [] => rfl
  | _ :: r => by
    show (!D.isRow (.int _) && D.ok (.int _) && D.isRow (D.row (r.map D.int)) && D.ok (D.row (r.map D.int))) = true
    rw [row_isRow, ints_ok r]
    rfl
theorem ints_dep : ∀ ms : List Int, (D.row (ms.map D.int)).dep = 0
  | [] => rfl
  | _ :: r => by
    show max 0 (D.row (r.map D.int)).dep = 0
    rw [ints_dep r]
    rfl
theorem dInts_ok {ms : List Int} : (dInts ms).ok = true := by
  show ((D.row (ms.map D.int)).isRow && (D.row (ms.map D.int)).ok) = true
  rw [row_isRow, ints_ok]
  rfl
theorem dInts_dep {ms : List Int} : (dInts ms).dep = 1 := by
  show (D.row (ms.map D.int)).dep + 1 = 1
  rw [ints_dep]
theorem rp_row {K : PySem.W.Frag} {H : Hp} : ∀ ms : List Int, Rp K H (D.row (ms.map D.int)) (ms.map V.int)
  | [] => rfl
  | i :: r => ⟨.int i, r.map V.int, rfl, rfl, rp_row r⟩
theorem rp_ints {K : PySem.W.Frag} {H : Hp} {a : Addr} {ms : List Int} (h : H a = some (.lst (ms.map V.int))) (l : ms.length ≤ 1000) : Rp K H (dInts ms) [.ref a] :=
  ⟨a, _, rfl, SqL.of h, by rw [List.length_map]; omega, rp_row ms⟩
theorem shaped_two (ms ns : List Int) : SeqAt.shaped (.list [.list (ms.map PyData.int), .list (ns.map PyData.int)]) = true := by
  have h : ∀ l : List Int, PyData.canLayAll0 (l.map PyData.int) = true := fun l => by
    induction l with
    | nil => simp [PyData.canLayAll0]
    | cons a r ih => simp [PyData.canLayAll0, PyData.canLay0, ih]
  have d : ∀ l : List Int, PyData.depthAll (l.map PyData.int) = 0 := fun l => by
    induction l with
    | nil => simp [PyData.depthAll]
    | cons a r ih => simp [PyData.depthAll, PyData.depth, ih]
  simp [SeqAt.shaped, PyData.canLay0, PyData.canLayAll0, PyData.depth, PyData.depthAll, h, d]
theorem shaped_one (ms : List Int) : SeqAt.shaped (.list (ms.map PyData.int)) = true := by
  have h : ∀ l : List Int, PyData.canLayAll0 (l.map PyData.int) = true := fun l => by
    induction l with
    | nil => simp [PyData.canLayAll0]
    | cons a r ih => simp [PyData.canLayAll0, PyData.canLay0, ih]
  have d : ∀ l : List Int, PyData.depthAll (l.map PyData.int) = 0 := fun l => by
    induction l with
    | nil => simp [PyData.depthAll]
    | cons a r ih => simp [PyData.depthAll, PyData.depth, ih]
  simp [SeqAt.shaped, PyData.canLay0, PyData.depth, h, d]
theorem dpAll_ints {K : PySem.W.Frag} {H : Hp} : ∀ ms : List Int, DpAll K H (ms.map V.int) (ms.map PyData.int)
  | [] => .nil
  | i :: r => .cons (.int i) (dpAll_ints r)
theorem dp_ints {K : PySem.W.Frag} {H : Hp} {a : Addr} {ms : List Int} (h : H a = some (.lst (ms.map V.int))) : Dp K H (.ref a) (.list (ms.map PyData.int)) := .lst (SqL.of h) (dpAll_ints ms)
theorem perm_map {ys : List V} {l : List Int} (p : ys.Perm (l.map V.int)) : ∃ ix : List Int, ys = ix.map V.int ∧ ix.Perm l := by
  have h : ∀ l : List Int, Paired (fun (y : V) (i : Int) => y = .int i) (l.map V.int) l := fun l => by
    induction l with
    | nil => exact .nil
    | cons a r ih => exact .cons rfl ih
  obtain ⟨ix, p2, h2⟩ := paired_perm p (h l)
  refine ⟨ix, ?_, p2⟩
  clear p p2
  induction h2 with
  | nil => rfl
  | cons e _ ih => rw [e, ih, List.map_cons]
section
variable {P : Program} {w : World} {K : PySem.W.Frag} {mg : Str → Option Value} {base : Heap} {A : Adr}
theorem recs_kp {H : Hp} {p R : Addr} {rs : List Rc} (h : RecsIn A H R rs) (n : R ≠ p) (r : Row H p) : RecsIn A (kp [p] H) R rs := by
  obtain ⟨ns, e⟩ := r
  obtain ⟨vs, h1, h2, h3⟩ := h
  refine ⟨vs, kp_at h1 (by simpa using n), L2.Paired.mapP h2 fun u r q => ?_, h3⟩
  obtain ⟨a, dx, rd, wr, k, eu, g1, g2, g3⟩ := q
  have n1 : a ≠ p := ne_of g1 e (by intro z; cases z)
  have n2 : rd ≠ p := ne_of g2 e (by intro z; cases z)
  have n3 : wr ≠ p := ne_of g3 e (by intro z; cases z)
  exact ⟨a, dx, rd, wr, k, eu, kp_at g1 (by simpa using n1), kp_at g2 (by simpa using n2), kp_at g3 (by simpa using n3)⟩
def Qs (Dn : Ends) (σ : L2.St) (tu tw : TS) : VK := fun v H2 => ∃ c : Bool, v = V.bl c ∧ (if (!c) = true then tu Dn σ H2 else tw Dn σ H2)
/-- if not _law_same(x, y): it is -/
theorem if_same {σ : L2.St} {H : Hp} {ta : TA} {tu tw : TS} {Dn : Ends} {E : XK} {m : Nat} (h : ta σ H fun vs H1 => spSame K m vs H1 (Qs Dn σ tu tw) E) : tIfS (tNot (tB (tCall (spSame K m) [] E ta))) tu tw Dn σ H :=
  (call_un h : tCall (spSame K m) [] E ta σ H (Qs Dn σ tu tw))
theorem same_ok {σ : L2.St} {H : Hp} {tu tw : TS} {Dn : Ends} {E : XK} {m : Nat} {x y : V} {d : D} (h1 : Rp K H d [x]) (h2 : Rp K H d [y]) (h3 : d.isRow = false) (h4 : d.ok = true) (h5 : d.dep < m) (k : tw Dn σ H) : spSame K m [x, y] H (Qs Dn σ tu tw) E :=
  ⟨x, y, d, rfl, h1, h2, h3, h4, h5, true, rfl, by simpa using k⟩
theorem same_ints {σ : L2.St} {H : Hp} {tu tw : TS} {Dn : Ends} {E : XK} {a b : Addr} {ms : List Int} (h1 : H a = some (.lst (ms.map V.int))) (h2 : H b = some (.lst (ms.map V.int))) (l : ms.length ≤ 1000) (k : tw Dn σ H) : spSame K 4 [.ref a, .ref b] H (Qs Dn σ tu tw) E :=
  same_ok (rp_ints h1 l) (rp_ints h2 l) rfl dInts_ok (by rw [dInts_dep]; decide) k
theorem same_bl {σ : L2.St} {H : Hp} {tu tw : TS} {Dn : Ends} {E : XK} {b : Bool} (k : tw Dn σ H) : spSame K 4 [.bl b, .bl b] H (Qs Dn σ tu tw) E :=
  same_ok (d := .bl b) rfl rfl rfl rfl (by show 0 < 4; decide) k
theorem andv_un {σ : L2.St} {H : Hp} {ta tb : TE} {Q : VK} (h : ta σ H fun v H1 => ∃ c : Bool, v = .bl c ∧ if c = true then tb σ H1 Q else Q (.bl false) H1) : tAndV ta tb σ H Q := h
end
end O43

namespace O43
open PySem L2 YF
section
variable {P : Program} {w : World} {K : PySem.W.Frag} {mg : Str → Option Value} {base : Heap} {A : Adr}
/-! ### a record's parts -/
theorem te_begun (T : Txt K mg A) {σ : L2.St} {H : Hp} {te : TE} {v : V} {r : Rc} (h : RecAt A H v r) (t : Te te σ H v) : Te (tFld K te "begun") σ H (.int r.bg) := by
  obtain ⟨a, dx, rd, wr, k, rfl, h1, h2, h3⟩ := h
  refine te_fld t h1 T.cl_Record T.no_Record_begun ?_
  unfold Rc.fs
  rw [lk_on (by decide +kernel), lk_here (by decide +kernel)]
theorem te_ended (T : Txt K mg A) {σ : L2.St} {H : Hp} {te : TE} {v : V} {r : Rc} (h : RecAt A H v r) (t : Te te σ H v) : Te (tFld K te "ended") σ H (.int r.en) := by
  obtain ⟨a, dx, rd, wr, k, rfl, h1, h2, h3⟩ := h
  refine te_fld t h1 T.cl_Record T.no_Record_ended ?_
  unfold Rc.fs
  rw [lk_on (by decide +kernel), lk_on (by decide +kernel), lk_here (by decide +kernel)]
theorem te_kind (T : Txt K mg A) {σ : L2.St} {H : Hp} {te : TE} {v : V} {r : Rc} (h : RecAt A H v r) (t : Te te σ H v) : Te (tFld K te "kind") σ H (.str r.kd) := by
  obtain ⟨a, dx, rd, wr, k, rfl, h1, h2, h3⟩ := h
  refine te_fld t h1 T.cl_Record T.no_Record_kind ?_
  unfold Rc.fs
  rw [lk_on (by decide +kernel), lk_on (by decide +kernel), lk_on (by decide +kernel), lk_here (by decide +kernel)]
theorem te_reads (T : Txt K mg A) {σ : L2.St} {H : Hp} {te : TE} {v : V} {r : Rc} (h : RecAt A H v r) (t : Te te σ H v) : ∃ rd, Te (tFld K te "reads") σ H (.ref rd) ∧ H rd = some (.dK (kvI r.rd)) := by
  obtain ⟨a, dx, rd, wr, k, rfl, h1, h2, h3⟩ := h
  refine ⟨rd, te_fld t h1 T.cl_Record T.no_Record_reads ?_, h2⟩
  unfold Rc.fs
  rw [lk_on (by decide +kernel), lk_on (by decide +kernel), lk_on (by decide +kernel), lk_on (by decide +kernel), lk_here (by decide +kernel)]
theorem paired_mapR {α β γ : Type} {F : α → β → Prop} {f : γ → β} : ∀ {l : List α} {vs : List γ}, Paired (fun a c => F a (f c)) l vs → Paired F l (vs.map f)
  | [], [], .nil => .nil
  | _ :: _, _ :: _, .cons h t => .cons h (paired_mapR t)
/-! ### which ones are done, by the records -/
def spPDone (A : Adr) : Sp := fun vs H Q _ => ∃ (a : Addr) (rs : List Rc), vs = [.ref a] ∧ RecsIn A H a rs ∧ ∀ v H', Same H H' → H v = none → H' v = some (.lst ((doneP rs).map V.int)) → Q (.ref v) H'
theorem ok_done (T : Txt K mg A) : FnOk P w K mg base CX0 1 A.a__done A.d__done ["records"] (spPDone A) := by
  refine T.F__done.ok sc_done (fun vs H Q E ⟨_, _, e, _⟩ => by rw [e]; rfl) (fun cdv A' outer s H vs Q E hr h => ?_)
  obtain ⟨a, rs, rfl, hR, k⟩ := h
  refine ⟨_, pss_one (ps_ret (pe_lc (own := [("at", 1), ("record", 2)]) (g := gTup K 2 (gCons (gName 1) (gCons (gName 2) gNil))) rfl sc_done.nd (pi_enum (by rfl) T.n_enumerate (pa_cons (pv 0) pa_nil)) (blkOk_by (N := ["records", "at", "record"]) (sc := defScope s_done) (by decide +kernel)) (fun _ _ _ _ _ => pg_tup (by rfl) (pgs_cons (pg_name (i := 1) sc_done.nd rfl (Or.inl rfl)) (pgs_cons (pg_name (i := 2) sc_done.nd rfl (Or.inl rfl)) pgs_nil))) (fun _ _ _ _ _ => pts_one (pt_cmpR op_eq ((show PE _ _ (tFld K _ _) from pe_fld (pv 2) rfl)) (pe_str) (nomark _))) (fun _ _ _ _ _ => pv 1))), ?_⟩
  obtain ⟨us, h1, h2, hl⟩ := id hR
  have lu : us.length = rs.length := (paired_len h2).symm
  refine lc_go (ti_enum (te_var rfl) (SqL.of h1)) walk_enum (fun L i H' => Same H H' ∧ H' L = some (.lst ((doneTo rs i).map V.int))) (fun L hL => ⟨Same.upd hL, upd_same⟩) (fun L i H' _ h => SqL.of (h.1 _ _ h1)) ?_ fun L H' hL ⟨s1, e1⟩ => k L H' s1 hL (by rw [e1, lu]; rfl)
  rintro L i x H1 H' hL hi ⟨s1, e1⟩ ⟨T0, x', y', rfl, hT, rfl, hx, hy⟩
  obtain rfl := (Option.some.inj hx).symm
  obtain ⟨r, er, hr1⟩ := paired_at h2 hy
  have nT : T0 ≠ L := fun z => by rw [z, e1] at hT; cases hT
  have s2 : Same H (upd H1 T0 (.tup [.int (i : Int), y'])) := s1.trans (Same.upd hT)
  have eL : (upd H1 T0 (.tup [.int (i : Int), y'])) L = some (.lst ((doneTo rs i).map V.int)) := by rw [upd_ne nT.symm]; exact e1
  refine pair_go upd_same ⟨rfl, tt_sl (σ' := [some (.ref a), some (.int (i : Int)), some y']) rfl ?_⟩
  refine (tt_test (te_eq (te_kind T (hr1.mono s2) (te_var rfl)) te_c rfl)).go ?_
  have ed : dnAt rs i = r.dn := by
    unfold dnAt
    rw [er]
  have es : doneTo rs (i + 1) = doneTo rs i ++ (if r.dn = true then [(i : Int)] else []) := by rw [doneTo_succ, ed]
  by_cases hd : r.kd = "done"
  · have h2 : r.dn = true := decide_eq_true hd
    rw [if_pos h2] at es
    rw [decide_eq_true (by rw [hd]), if_pos rfl]
    refine (te_var (v := .int (i : Int)) rfl).go ⟨_, eL, ?_, Same.wr s2 hL, ?_⟩
    · rw [List.length_map, sizeLine_eq]
      have := doneTo_len (rs := rs) (i := i)
      omega
    · rw [upd_same, es, List.map_append]
      rfl
  · have h2 : ¬ r.dn = true := fun z => hd (of_decide_eq_true z)
    rw [if_neg h2, List.append_nil] at es
    rw [decide_eq_false (fun z => hd (V.str.inj z)), if_neg (by simp)]
    exact ⟨s2, by rw [es]; exact eL⟩
/-! ### an account -/
def rcAt (rs : List Rc) (i : Int) : Rc := rs.getD i.toNat ⟨"", [], [], 0, 0⟩
def memsP (rs : List Rc) (ms : List Int) (ix : List Int) (n : Nat) : List (List Int) := (List.range (n + 1)).map fun k => behP rs ms (ix.take k)
def plc (ix : List Int) (j : Int) : Int := (if j ∈ ix then (ix.idxOf j : Int) else (ix.length : Int)) + 1
def needs (rs : List Rc) (ix : List Int) : List (Int × Int) := (doneP rs).map fun j => ((rcAt rs j).en, plc ix j)
def IntsAt (H : Hp) (v : V) (l : List Int) : Prop := ∃ a, v = .ref a ∧ H a = some (.lst (l.map V.int))
def PairAt (K : PySem.W.Frag) (H : Hp) (v : V) (q : Int × Int) : Prop := ∃ a, v = .ref a ∧ SqT K H a [.int q.1, .int q.2]
def accF (R io mm nd : Addr) : List (Str × V) := [("_records", .ref R), ("_in_order", .ref io), ("_memories", .ref mm), ("_needs", .ref nd)]
structure AccAt (A : Adr) (K : PySem.W.Frag) (H : Hp) (x : Addr) (rs : List Rc) (ms ix : List Int) : Prop where
  ex : ∃ dx R io mm nd ios mems nds, H x = some (.ins A.a_Account dx (accF R io mm nd)) ∧ RecsIn A H R rs ∧ H io = some (.lst ios) ∧ Paired (RecAt A H) ios (ix.map (rcAt rs)) ∧ H mm = some (.lst mems) ∧ Paired (IntsAt H) mems (memsP rs ms ix ix.length) ∧ H nd = some (.lst nds) ∧ Paired (PairAt K H) nds (needs rs ix)
  inx : InIx rs ix
  lix : ix.length ≤ 1000
  lms : ms.length ≤ 1000
theorem IntsAt.mono {H H' : Hp} {v : V} {l : List Int} (h : IntsAt H v l) (s : Same H H') : IntsAt H' v l := by
  obtain ⟨a, e, h1⟩ := h
  exact ⟨a, e, s _ _ h1⟩
theorem PairAt.mono {H H' : Hp} {v : V} {q : Int × Int} (h : PairAt K H v q) (s : Same H H') : PairAt K H' v q := by
  obtain ⟨a, e, h1⟩ := h
  exact ⟨a, e, Same.sqT s h1⟩
theorem AccAt.mono {H H' : Hp} {x : Addr} {rs : List Rc} {ms ix : List Int} (h : AccAt A K H x rs ms ix) (s : Same H H') : AccAt A K H' x rs ms ix := by
  obtain ⟨dx, R, io, mm, nd, ios, mems, nds, h1, h2, h3, h4, h5, h6, h7, h8⟩ := h.ex
  exact ⟨⟨dx, R, io, mm, nd, ios, mems, nds, s _ _ h1, h2.mono s, s _ _ h3, L2.Paired.mapP h4 fun _ _ q => q.mono s, s _ _ h5, L2.Paired.mapP h6 fun _ _ q => q.mono s, s _ _ h7, L2.Paired.mapP h8 fun _ _ q => q.mono s⟩, h.inx, h.lix, h.lms⟩
theorem rcAt_of {rs : List Rc} {i : Int} {r : Rc} (e : rs[i.toNat]? = some r) : rcAt rs i = r := by
  unfold rcAt
  rw [List.getD_eq_getElem?_getD, e]
  rfl
/-- where each one stands -/
def plcTo (ix : List Int) (n : Nat) : Mp := (ix.take n).mapIdx fun k j => (j, (k : Int))
theorem plcTo_keys {ix : List Int} {n : Nat} : (plcTo ix n).map (·.1) = ix.take n := by
  unfold plcTo
  refine List.ext_getElem? fun i => ?_
  rw [List.getElem?_map, List.getElem?_mapIdx]
  cases (ix.take n)[i]? <;> rfl
theorem plcTo_put {ix : List Int} (nd : ix.Nodup) {n : Nat} {j : Int} (e : ix[n]? = some j) : putI (plcTo ix n) j (n : Int) = plcTo ix (n + 1) := by
  have hn : j ∉ ix.take n := fun h => by
    obtain ⟨i, hi⟩ := List.getElem?_of_mem h
    rw [List.getElem?_take] at hi
    by_cases q : i < n
    · rw [if_pos q] at hi
      obtain ⟨h1, e1⟩ := List.getElem?_eq_some_iff.mp hi
      obtain ⟨h2, e2⟩ := List.getElem?_eq_some_iff.mp e
      have := (List.getElem_inj (h₀ := h1) (h₁ := h2) nd).mp (by rw [e1, e2])
      omega
    · rw [if_neg q] at hi
      cases hi
  have h2 : ¬ ((plcTo ix n).any fun q => decide (q.1 = j)) = true := fun h => by
    obtain ⟨q, h1, h3⟩ := List.any_eq_true.mp h
    exact hn (by rw [← plcTo_keys, ← of_decide_eq_true h3]; exact List.mem_map.mpr ⟨q, h1, rfl⟩)
  unfold putI
  rw [if_neg h2]
  have hlt : n < ix.length := (List.getElem?_eq_some_iff.mp e).1
  unfold plcTo
  rw [List.take_add_one, e, Option.toList_some, List.mapIdx_append, List.length_take, Nat.min_eq_left (by omega)]
  simp
theorem plcTo_get {ix : List Int} (nd : ix.Nodup) {j : Int} : (getI (plcTo ix ix.length) j).getD (ix.length : Int) + 1 = plc ix j := by
  unfold plc
  by_cases h : j ∈ ix
  · rw [if_pos h]
    have h1 : ix.idxOf j < ix.length := List.idxOf_lt_length_iff.mpr h
    have e1 : ix[ix.idxOf j]? = some j := by rw [List.getElem?_eq_getElem h1, List.getElem_idxOf h1]
    have e2 : (j, (ix.idxOf j : Int)) ∈ plcTo ix ix.length := by
      unfold plcTo
      rw [List.take_length]
      refine List.mem_of_getElem? (i := ix.idxOf j) ?_
      rw [List.getElem?_mapIdx, e1]
      rfl
    rw [getI_of (by rw [plcTo_keys, List.take_length]; exact nd) e2]
    rfl
  · rw [if_neg h]
    cases e : getI (plcTo ix ix.length) j with
    | none => rfl
    | some x =>
      have h1 : j ∈ (plcTo ix ix.length).map (·.1) := List.mem_map.mpr ⟨_, getI_mem e, rfl⟩
      rw [plcTo_keys, List.take_length] at h1
      exact absurd h1 h
theorem plcTo_len {ix : List Int} {n : Nat} : (plcTo ix n).length ≤ n := by
  unfold plcTo
  rw [List.length_mapIdx, List.length_take]
  omega
theorem recs_kpI {H : Hp} {x R C dx : Addr} {rs : List Rc} (h : RecsIn A H R rs) (e : H x = some (.ins C dx [])) : RecsIn A (kp [x] H) R rs := by
  obtain ⟨vs, h1, h2, h3⟩ := h
  refine ⟨vs, kp_at h1 (by simpa using ne_of h1 e (by intro z; cases z)), L2.Paired.mapP h2 fun u r q => ?_, h3⟩
  obtain ⟨a, dx', rd, wr, k, eu, g1, g2, g3⟩ := q
  have n1 : a ≠ x := fun z => by
    rw [z, e] at g1
    have := HO.ins.inj (Option.some.inj g1)
    exact absurd this.2.2 (by unfold Rc.fs; simp)
  have n2 : rd ≠ x := ne_of g2 e (by intro z; cases z)
  have n3 : wr ≠ x := ne_of g3 e (by intro z; cases z)
  exact ⟨a, dx', rd, wr, k, eu, kp_at g1 (by simpa using n1), kp_at g2 (by simpa using n2), kp_at g3 (by simpa using n3)⟩
theorem memsP_len {rs : List Rc} {ms ix : List Int} {n : Nat} : (memsP rs ms ix n).length = n + 1 := by
  unfold memsP
  rw [List.length_map, List.length_range]
theorem memsP_snoc {rs : List Rc} {ms ix : List Int} {n : Nat} : memsP rs ms ix (n + 1) = memsP rs ms ix n ++ [behP rs ms (ix.take (n + 1))] := by
  unfold memsP
  rw [List.range_succ, List.map_append]
  rfl
def spAcc (A : Adr) (K : PySem.W.Frag) : Sp := fun vs H Q _ => ∃ (x dx m R o : Addr) (rs : List Rc) (ms ix : List Int), vs = [.ref x, .ref m, .ref R, .ref o] ∧ H x = some (.ins A.a_Account dx []) ∧ H m = some (.lst (ms.map V.int)) ∧ RecsIn A H R rs ∧ H o = some (.lst (ix.map V.int)) ∧ ix.Nodup ∧ InIx rs ix ∧ ix.length ≤ 1000 ∧ ms.length ≤ 1000 ∧
  ∀ H', Fr [x] H H' → AccAt A K H' x rs ms ix → Q .non H'
theorem ok_Account___init__ (T : Txt K mg A) : FnOk P w K mg base CX0 2 A.a_Account___init__ A.d_Account___init__ ["self", "memory", "records", "order"] (spAcc A K) := by
  refine T.F_Account___init__.ok sc_Account___init__ (fun vs H Q E ⟨_, _, _, _, _, _, _, _, e, _⟩ => by rw [e]; rfl) (fun cdv A' outer s H vs Q E hr h => ?_)
  obtain ⟨x, dx, m, R, o, rs, ms, ix, rfl, hx, hm, hR, ho, nd, hix, lix, lms, k⟩ := h
  refine ⟨_, pss_cons (ps_fld (pv 0) (pv 2) rfl)
  (pss_cons (ps_fld (pv 0) (pe_lc (own := [("at", 6)]) (g := gName 6) (tt := tYes) rfl sc_Account___init__.nd (pi_list (pv 3)) (blkOk_by (N := ["self", "memory", "records", "order", "record", "places", "at", "place"]) (sc := defScope s_Account___init__) (by decide +kernel)) (fun _ _ _ _ _ => pg_name (i := 6) sc_Account___init__.nd rfl (Or.inl rfl)) (fun _ _ _ _ _ => pts_nil) (fun _ _ _ _ _ => pe_ix (show IxR _ (rIxL K) from ix_list) (pv 2) (pv 6) (fun _ _ => rfl))) rfl)
  (pss_cons (ps_fld (pv 0) (pe_lst (pa_cons (pe_callTy call_list_of (by rfl) T.n_list (by decide +kernel) (pa_cons (pv 1) pa_nil)) pa_nil)) rfl)
  (pss_cons (ps_for PassesOwn.never rfl (pi_list (pe_fld (pv 0) rfl)) (pg_name (i := 4) sc_Account___init__.nd rfl (Or.inl rfl))
  (pss_one (ps_expr (pe_bm PySem.F.plainAttrs_list PySem.F.slot_list_append PySem.F.type_list_append mt_append (pe_fld (pv 0) rfl) (pa_cons (pe_call (ok_written T) (hr.mono (by decide)) rfl T.g__written T.F__written.kp T.b__written .nil pass0 (pa_cons (pe_ix ix_list (pe_fld (pv 0) rfl) (pe_un un_neg pe_int) (fun _ _ => rfl)) (pa_cons (pe_fld (pv 4) rfl) pa_nil))) pa_nil)))))
  (pss_cons (ps_set (i := 5) sc_Account___init__.nd rfl (Or.inr rfl) (pe_dc (own := [("place", 7), ("at", 6)]) (g := gTup K 2 (gCons (gName 7) (gCons (gName 6) gNil))) (tt := tYes) rfl sc_Account___init__.nd (pi_enum (by rfl) T.n_enumerate (pa_cons (pv 3) pa_nil)) (blkOk_by (N := ["self", "memory", "records", "order", "record", "places", "at", "place"]) (sc := defScope s_Account___init__) (by decide +kernel)) (fun _ _ _ _ _ => pg_tup (by rfl) (pgs_cons (pg_name (i := 7) sc_Account___init__.nd rfl (Or.inl rfl)) (pgs_cons (pg_name (i := 6) sc_Account___init__.nd rfl (Or.inl rfl)) pgs_nil))) (fun _ _ _ _ _ => pts_nil) (fun _ _ _ _ _ => pv 6) (fun _ _ _ _ _ => pv 7)))
  (pss_one (ps_fld (pv 0) (pe_lc (own := [("at", 6)]) (g := gName 6) (tt := tYes) rfl sc_Account___init__.nd (pi_list (pe_call (ok_done T) (hr.mono (by decide)) rfl T.g__done T.F__done.kp T.b__done .nil pass0 (pa_cons (pv 2) pa_nil))) (blkOk_by (N := ["self", "memory", "records", "order", "record", "places", "at", "place"]) (sc := defScope s_Account___init__) (by decide +kernel)) (fun _ _ _ _ _ => pg_name (i := 6) sc_Account___init__.nd rfl (Or.inl rfl)) (fun _ _ _ _ _ => pts_nil) (fun _ _ _ _ _ => pe_tup (pa_cons ((show PE _ _ (tFld K _ _) from pe_fld (pe_ix (show IxR _ (rIxL K) from ix_list) (pv 2) (pv 6) (fun _ _ => rfl)) rfl)) (pa_cons (pe_op op_add (pe_dget2 (hu_of hr) (pv 5) (pv 6) (pe_callB (show CallR _ _ (rLenS K) from call_len_seq) (by rfl) T.n_len (by decide +kernel) (pa_cons (pv 3) pa_nil)) ⟨rfl, rfl, rfl, rfl⟩) (pe_int)) pa_nil)))) rfl)))))), ?_⟩
  have nmx : m ≠ x := ne_of hm hx (by intro z; cases z)
  have nox : o ≠ x := ne_of ho hx (by intro z; cases z)
  have hRk := recs_kpI hR hx
  obtain ⟨us, hR1, hR2, hRl⟩ := id hR
  have nRx : R ≠ x := ne_of hR1 hx (by intro z; cases z)
  -- _records
  refine st_fld (te_var rfl) (te_var rfl) hx T.cl_Account T.no_Account__records (by show 0 < 1000; decide) ?_
  have s1 : Fr [x] H (upd H x (.ins A.a_Account dx (putF "_records" (.ref R) []))) := Fr.refl.wr (by simp)
  have e1 : (upd H x (.ins A.a_Account dx (putF "_records" (.ref R) []))) x = some (.ins A.a_Account dx [("_records", .ref R)]) := upd_same
  generalize upd H x (HO.ins A.a_Account dx (putF "_records" (.ref R) [])) = H1 at s1 e1 ⊢
  have hR1' := hRk.mono s1.base
  have base : ∀ {G : Hp}, Fr [x] H G → RecsIn A G R rs := fun s => hRk.mono s.base
  -- _in_order
  refine sq_go (fld_un (lc_go (ti_list (te_var rfl) (SqL.of (s1 _ _ (by simpa using nox) ho))) walk_list (fun L i H' => Same H1 H' ∧ ∃ vs, H' L = some (.lst vs) ∧ Paired (RecAt A (kp [x] H)) vs ((ix.take i).map (rcAt rs))) (fun L hL => ⟨Same.upd hL, [], upd_same, .nil⟩) (fun L i H' _ h => SqL.of (h.1 _ _ (s1 _ _ (by simpa using nox) ho))) ?_ ?_))
  · rintro L i y G0 G hL hi ⟨s2, vs, g1, g2⟩ ⟨rfl, hy⟩
    obtain ⟨j, ej, rfl⟩ := map_at hy
    obtain ⟨r, er, _, j0⟩ := hix.at_ ej
    refine name_go (σ' := [some (.ref x), some (.ref m), some (.ref R), some (.ref o), none, none, some (.int j), none]) rfl ⟨rfl, yes_go ?_⟩
    obtain ⟨us', q1, q2, _⟩ := id hRk
    obtain ⟨vr', ev', hvr⟩ := paired_at2 q2 er
    have tr' := te_ixL (K := K) (σ := [some (.ref x), some (.ref m), some (.ref R), some (.ref o), none, none, some (.int j), none]) (te_var (i := 2) rfl) (te_var (i := 6) rfl) (SqL.of ((s1.trans (Fr.of s2)).base _ _ q1)) (atI_int j0 ev')
    refine tr'.go ⟨_, g1, ?_, Same.wr s2 hL, _, upd_same, ?_⟩
    · have := paired_len g2
      rw [List.length_map, List.length_take] at this
      rw [sizeLine_eq]
      omega
    · rw [List.take_add_one, ej, List.map_append]
      exact paired_snoc g2 (by rw [show rcAt rs j = r from rcAt_of er]; exact hvr)
  rintro io H2 hio ⟨s2, ios, g1, g2⟩
  rw [List.length_map, List.take_length] at g2
  have lios : ios.length = ix.length := by
    have := paired_len g2
    rw [List.length_map] at this
    omega
  have nio : io ≠ x := (ne_of_none e1 hio).symm
  refine (te_var rfl).go ⟨x, _, _, _, rfl, s2 _ _ e1, T.cl_Account, T.no_Account__in_order, by show 1 < 1000; decide, ?_⟩
  have s3 : Fr [x] H (upd H2 x (.ins A.a_Account dx (putF "_in_order" (.ref io) [("_records", .ref R)]))) := (s1.trans (Fr.of s2)).wr (by simp)
  have e3 : (upd H2 x (.ins A.a_Account dx (putF "_in_order" (.ref io) [("_records", .ref R)]))) x = some (.ins A.a_Account dx [("_records", .ref R), ("_in_order", .ref io)]) := upd_same
  have g3 : (upd H2 x (.ins A.a_Account dx (putF "_in_order" (.ref io) [("_records", .ref R)]))) io = some (.lst ios) := by rw [upd_ne nio]; exact g1
  generalize upd H2 x (HO.ins A.a_Account dx (putF "_in_order" (.ref io) [("_records", .ref R)])) = H3 at s3 e3 g3 ⊢
  dsimp only
  -- _memories
  refine sq_go (fld_un (lstd_un (cons_un ((tn_list (te_var rfl) (.inl (SqL.of (s3 _ _ (by simpa using nmx) hm)))).go fun b hb => nil_un ⟨by show 1 ≤ sizeLine; decide, fun mm hmm => ?_⟩))))
  have nbmm : b ≠ mm := ne_of_none upd_same hmm
  have nbx : b ≠ x := (ne_of_none e3 hb).symm
  have nmmx : mm ≠ x := (ne_of_none (show (upd H3 b (.lst (ms.map V.int))) x = _ by rw [upd_ne nbx.symm]; exact e3) hmm).symm
  have hmm3 : H3 mm = none := (upd_none hmm).2
  have free3 : ∀ {c : Addr}, c ≠ x → H3 c = none → H c = none := fun {c} n e => by
    cases q : H c with
    | none => rfl
    | some u =>
      rw [s3 c u (by simpa using n) q] at e
      cases e
  have hmm0 : H mm = none := free3 nmmx hmm3
  have s4 : Same H3 (upd (upd H3 b (.lst (ms.map V.int))) mm (.lst [.ref b])) := (Same.upd hb).trans (Same.upd hmm)
  have f4 : (upd (upd H3 b (.lst (ms.map V.int))) mm (.lst [.ref b])) mm = some (.lst [.ref b]) := upd_same
  have b4 : (upd (upd H3 b (.lst (ms.map V.int))) mm (.lst [.ref b])) b = some (.lst (ms.map V.int)) := by rw [upd_ne nbmm, upd_same]
  generalize upd (upd H3 b (HO.lst (ms.map V.int))) mm (HO.lst [V.ref b]) = H4 at s4 f4 b4 ⊢
  refine (te_var rfl).go ⟨x, _, _, _, rfl, s4 _ _ e3, T.cl_Account, T.no_Account__memories, by show 2 < 1000; decide, ?_⟩
  have s5 : Fr [x] H (upd H4 x (.ins A.a_Account dx (putF "_memories" (.ref mm) [("_records", .ref R), ("_in_order", .ref io)]))) := (s3.trans (Fr.of s4)).wr (by simp)
  have e5 : (upd H4 x (.ins A.a_Account dx (putF "_memories" (.ref mm) [("_records", .ref R), ("_in_order", .ref io)]))) x = some (.ins A.a_Account dx [("_records", .ref R), ("_in_order", .ref io), ("_memories", .ref mm)]) := upd_same
  have g5 : (upd H4 x (.ins A.a_Account dx (putF "_memories" (.ref mm) [("_records", .ref R), ("_in_order", .ref io)]))) io = some (.lst ios) := by rw [upd_ne nio]; exact s4 _ _ g3
  have f5 : (upd H4 x (.ins A.a_Account dx (putF "_memories" (.ref mm) [("_records", .ref R), ("_in_order", .ref io)]))) mm = some (.lst [.ref b]) := by rw [upd_ne nmmx]; exact f4
  have b5 : (upd H4 x (.ins A.a_Account dx (putF "_memories" (.ref mm) [("_records", .ref R), ("_in_order", .ref io)]))) b = some (.lst (ms.map V.int)) := by rw [upd_ne nbx]; exact b4
  generalize upd H4 x (HO.ins A.a_Account dx (putF "_memories" (.ref mm) [("_records", .ref R), ("_in_order", .ref io)])) = H5 at s5 e5 g5 f5 b5 ⊢
  dsimp only
  have niomm : io ≠ mm := ne_of_none g3 hmm3
  have lk1 : ∀ {r : List (Str × V)}, List.lookup ("_in_order" : Str) (("_records", V.ref R) :: ("_in_order", V.ref io) :: r) = some (V.ref io) := by
    intro r
    rw [lk_on (by decide +kernel), lk_here (by decide +kernel)]
  have lk2 : ∀ {r : List (Str × V)}, List.lookup ("_memories" : Str) (("_records", V.ref R) :: ("_in_order", V.ref io) :: ("_memories", V.ref mm) :: r) = some (V.ref mm) := by
    intro r
    rw [lk_on (by decide +kernel), lk_on (by decide +kernel), lk_here (by decide +kernel)]
  refine sq_go (for_go (ti_list (te_fld (te_var rfl) e5 T.cl_Account T.no_Account__in_order lk1) (SqL.of g5)) walk_list (fun i σ G => (∃ v4 : Option V, σ = [some (.ref x), some (.ref m), some (.ref R), some (.ref o), v4, none, none, none]) ∧ Fr [x] H G ∧ G x = some (.ins A.a_Account dx [("_records", .ref R), ("_in_order", .ref io), ("_memories", .ref mm)]) ∧ G io = some (.lst ios) ∧ ∃ mems, G mm = some (.lst mems) ∧ Paired (IntsAt (kp [x, mm] G)) mems (memsP rs ms ix i))
    ⟨⟨_, rfl⟩, s5, e5, g5, _, f5, .cons ⟨b, rfl, kp_at b5 (by simp [nbx, nbmm])⟩ .nil⟩ (fun i σ G _ h => SqL.of h.2.2.2.1) ?_ ?_)
  · rintro i y σ G0 G hi ⟨⟨v4, rfl⟩, sG, eG, gG, mems, mG, pG⟩ ⟨rfl, hy⟩
    obtain ⟨r, er, hr1⟩ := paired_at g2 hy
    obtain ⟨j, ej, rfl⟩ : ∃ j, ix[i]? = some j ∧ r = rcAt rs j := by
      rw [List.getElem?_map] at er
      cases q : ix[i]? with
      | none =>
        rw [q] at er
        cases er
      | some j =>
        rw [q] at er
        exact ⟨j, rfl, (Option.some.inj er).symm⟩
    have hrG := hr1.mono sG.base
    refine name_go (σ' := [some (.ref x), some (.ref m), some (.ref R), some (.ref o), some y, none, none, none]) rfl ?_
    have tm := te_fld (σ := [some (.ref x), some (.ref m), some (.ref R), some (.ref o), some y, none, none, none]) (te_var (i := 0) rfl) eG T.cl_Account T.no_Account__memories lk2
    obtain ⟨wr, tw, hw⟩ := te_writes (K := K) (σ := [some (.ref x), some (.ref m), some (.ref R), some (.ref o), some y, none, none, none]) T hrG (te_var (i := 4) rfl)
    have lmm : mems.length = i + 1 := by
      have := paired_len pG
      rw [memsP_len] at this
      omega
    obtain ⟨v, ev, hv⟩ := paired_at2 (i := i) (v := behP rs ms (ix.take i)) pG (by
      unfold memsP
      rw [List.getElem?_map, List.getElem?_range (by omega)]
      rfl)
    obtain ⟨c, rfl, hc⟩ := hv
    refine drop_un (app_un tm (SqL.of mG) (call_un (cons_un ((te_ixL (K := K) tm (te_neg te_c) (SqL.of mG) (atI_neg1 lmm ev)).go (cons_un (tw.go (nil_un ⟨c, wr, _, _, rfl, (kp_some hc).2, by rw [behP_len]; exact lms, hw, fun d G2 s2 hd e2 => ⟨mm, mems, .ref d, rfl, rfl, s2 _ _ mG, by rw [lmm, sizeLine_eq]; omega, ?_⟩⟩)))))))
    have ndx : d ≠ x := (ne_of_none eG hd).symm
    have ndm : d ≠ mm := (ne_of_none mG hd).symm
    refine ⟨⟨_, rfl⟩, (sG.trans (Fr.of s2)).wrNew hmm0, by rw [upd_ne nmmx.symm]; exact s2 _ _ eG, by rw [upd_ne niomm]; exact s2 _ _ gG, _, upd_same, ?_⟩
    rw [memsP_snoc]
    refine paired_snoc (L2.Paired.mapP pG fun u l q => q.mono ?_) ⟨d, rfl, kp_at ?_ (by simp [ndx, ndm])⟩
    · exact ((Fr.of s2).wr (by simp) : Fr [x, mm] G (upd G2 mm (.lst (mems ++ [.ref d])))).kp
    · rw [upd_ne ndm, e2, List.take_add_one (i := i), ej]
      show _ = some (HO.lst ((behP rs ms (ix.take i ++ [j])).map V.int))
      rw [behP_snoc]
      obtain ⟨r0, er0, ew0, _⟩ := hix.at_ ej
      rw [ew0, rcAt_of er0]
  rintro σ G ⟨⟨v4, rfl⟩, sG, eG, gG, mems, mG, pG⟩
  rw [lios] at pG
  dsimp only
  -- places
  refine asg_un (dc_go (ti_enum (te_var rfl) (SqL.of (sG _ _ (by simpa using nox) ho))) walk_enum (fun L i G' => Same G G' ∧ G' L = some (.dK (kvI (plcTo ix i)))) (fun L hL => ⟨Same.upd hL, upd_same⟩) (fun L i G' _ h => SqL.of (h.1 _ _ (sG _ _ (by simpa using nox) ho))) ?_ ?_)
  · rintro L i y G0 G' hL hi ⟨s1', eL⟩ ⟨T0, x', y', rfl, hT, rfl, hx', hy⟩
    obtain rfl := (Option.some.inj hx').symm
    obtain ⟨j, ej, rfl⟩ := map_at hy
    have nT : T0 ≠ L := fun z => by rw [z, eL] at hT; cases hT
    refine pair_go upd_same ⟨rfl, ?_⟩
    refine yes_go ((te_var (v := .int j) rfl).go ((te_var (v := .int (i : Int)) rfl).go ⟨_, (.inl j : Key), rfl, by rw [upd_ne nT.symm]; exact eL, ?_, Same.wr (s1'.trans (Same.upd hT)) hL, ?_⟩))
    · have := plcTo_len (ix := ix) (n := i)
      have hi2 : i < ix.length := (List.getElem?_eq_some_iff.mp ej).1
      rw [kvI_len, sizeLine_eq]
      omega
    · rw [upd_same, putK_kvI, plcTo_put nd ej]
  rintro pl G1 hpl ⟨s6, e6⟩
  rw [List.length_map] at e6
  refine ts_sl (σ' := [some (.ref x), some (.ref m), some (.ref R), some (.ref o), v4, some (.ref pl), none, none]) rfl ?_
  have sG1 := sG.trans (Fr.of s6)
  -- _needs
  refine fld_un (lc_un (call_un (cons_un ((te_var rfl).go (nil_un ⟨R, rs, rfl, base sG1, fun dn G2 s7 hdn e7 => ?_⟩)))))
  refine lc_go (ti_list te_c (SqL.of e7)) walk_list (fun L i G' => Same G2 G' ∧ ∃ nds, G' L = some (.lst nds) ∧ Paired (PairAt K (kp [L, x] G')) nds (((doneP rs).take i).map fun j => ((rcAt rs j).en, plc ix j))) (fun L hL => ⟨Same.upd hL, [], upd_same, .nil⟩) (fun L i G' _ h => SqL.of (h.1 _ _ e7)) ?_ ?_
  · rintro L i y G0 G' hL hi ⟨s8, nds, eL, pL⟩ ⟨rfl, hy⟩
    obtain ⟨j, ej, rfl⟩ := map_at hy
    obtain ⟨kk, rfl, hkk, _⟩ := doneP_mem (List.mem_of_getElem? ej)
    refine name_go (σ' := [some (.ref x), some (.ref m), some (.ref R), some (.ref o), v4, some (.ref pl), some (.int (kk : Int)), none]) rfl ⟨rfl, yes_go ?_⟩
    have sG' : Fr [x] H G' := (sG1.trans (Fr.of s7)).trans (Fr.of s8)
    obtain ⟨vr, tr, hvr⟩ := (base sG').ix (K := K) (σ := [some (.ref x), some (.ref m), some (.ref R), some (.ref o), v4, some (.ref pl), some (.int (kk : Int)), none]) (te_var (i := 2) rfl) (te_var (i := 6) rfl) (by omega) (List.getElem?_eq_getElem (by omega : ((kk : Int)).toNat < rs.length))
    have tl := te_len (K := K) (te := tVar 3) (σ := [some (.ref x), some (.ref m), some (.ref R), some (.ref o), v4, some (.ref pl), some (.int (kk : Int)), none]) (te_var rfl) (.inl (SqL.of (sG' _ _ (by simpa using nox) ho)))
    rw [List.length_map] at tl
    have tg := te_getD (ta := tVar 5) (tb := tVar 6) (te_var rfl) (te_var rfl) tl (s8 _ _ (s7 _ _ e6))
    refine tup_un (cons_un ((te_ended (K := K) T hvr tr).go (cons_un ((te_i0 (g := fun i j => .int (i + j)) tg te_c).go (nil_un ⟨by show 2 ≤ sizeLine; decide, fun q hq => ?_⟩)))))
    rw [plcTo_get nd]
    have nqL : q ≠ L := (ne_of_none eL hq).symm
    refine ⟨_, by rw [upd_ne nqL.symm]; exact eL, ?_, Same.wr (s8.trans (Same.upd hq)) hL, _, upd_same, ?_⟩
    · have := paired_len pL
      rw [List.length_map, List.length_take] at this
      have h2 := doneTo_len (rs := rs) (i := rs.length)
      unfold doneP at this
      rw [sizeLine_eq]
      omega
    · rw [List.take_add_one, ej, List.map_append]
      refine paired_snoc (L2.Paired.mapP pL fun u l w => w.mono ?_) ⟨q, rfl, ?_⟩
      · exact ((Fr.refl.new hq).wr (by simp) : Fr [L, x] G' _).kp
      · show SqT K _ q [.int (rcAt rs (kk : Int)).en, .int (plc ix (kk : Int))]
        have nqx : q ≠ x := (ne_of_none (s8 _ _ (s7 _ _ (s6 _ _ eG))) hq).symm
        have : rcAt rs (kk : Int) = rs[((kk : Int)).toNat]'(by omega) := rcAt_of (List.getElem?_eq_getElem _)
        rw [this]
        exact SqT.of (kp_at (by rw [upd_ne nqL, upd_same]) (by simp [nqL, nqx]))
  rintro nd' G3 hnd ⟨s8, nds, e8, p8⟩
  rw [List.length_map, List.take_length] at p8
  have sG3 : Fr [x] H G3 := (sG1.trans (Fr.of s7)).trans (Fr.of s8)
  have s68 : Same G G3 := (s6.trans s7).trans s8
  have eG3 := s68 _ _ eG
  refine (te_var rfl).go ⟨x, _, _, _, rfl, eG3, T.cl_Account, T.no_Account__needs, by show 3 < 1000; decide, ?_⟩
  have sF : Fr [x] G3 (upd G3 x (.ins A.a_Account dx (putF "_needs" (.ref nd') [("_records", .ref R), ("_in_order", .ref io), ("_memories", .ref mm)]))) := Fr.refl.wr (by simp)
  have nndx : nd' ≠ x := fun z => by
    have := (s6.trans s7) _ _ eG
    rw [z, this] at hnd
    cases hnd
  refine k _ (sG3.trans sF) ⟨⟨dx, R, io, mm, nd', ios, mems, nds, upd_same, base (sG3.trans sF), sF _ _ (by simpa using nio) (s68 _ _ gG), L2.Paired.mapP g2 fun _ _ q => q.mono (sG3.trans sF).base, sF _ _ (by simpa using nmmx) (s68 _ _ mG), ?_, sF _ _ (by simpa using nndx) e8, ?_⟩, hix, lix, lms⟩
  · refine L2.Paired.mapP pG fun u l q => q.mono fun c o e => ?_
    obtain ⟨n, e⟩ := kp_some e
    have n' : c ≠ x ∧ c ≠ mm := by simpa using n
    exact sF _ _ (by simpa using n'.1) (s68 _ _ e)
  · refine L2.Paired.mapP p8 fun u q w => w.mono fun c o e => ?_
    obtain ⟨n, e⟩ := kp_some e
    have n' : c ≠ nd' ∧ c ≠ x := by simpa using n
    exact sF _ _ (by simpa using n'.2) e
end
end O43

namespace O43
open PySem L2 YF
/-! ### the pasts, plainly -/
def noEarly (rs : List Rc) (ix : List Int) (r : Rc) (k : Nat) : Bool := (doneP rs).all fun j => !(decide ((rcAt rs j).en < r.bg)) || decide (j ∈ ix.take k)
def noLate (rs : List Rc) (ix : List Int) (r : Rc) (k : Nat) : Bool := (ix.take k).all fun j => !(decide (r.en < (rcAt rs j).bg))
def okK (rs : List Rc) (ms ix : List Int) (r : Rc) (k : Nat) : Bool := (noEarly rs ix r k && noLate rs ix r k) && agP r.rd (behP rs ms (ix.take k))
def pst (rs : List Rc) (ms ix : List Int) (r : Rc) : List Int := ((List.range (ix.length + 1)).filter (okK rs ms ix r)).map fun k : Nat => (k : Int)
def mostP (rs : List Rc) (ix : List Int) (r : Rc) : Nat := ix.findIdx fun j => decide (r.en < (rcAt rs j).bg)
theorem filt_mid {N l n : Nat} (h : l + n ≤ N) (f : Nat → Bool) : (List.range N).filter (fun k => (decide (l ≤ k) && decide (k < l + n)) && f k) = ((List.range n).filter fun j => f (l + j)).map fun j => l + j := by
  obtain ⟨d, rfl⟩ : ∃ d, N = l + n + d := ⟨N - (l + n), by omega⟩
  have e : List.range (l + n + d) = List.range' 0 l ++ List.range' l n ++ List.range' (l + n) d := by
    rw [List.range_eq_range', ← List.range'_append_1 (s := 0) (m := l + n), ← List.range'_append_1 (s := 0) (m := l)]
    simp
  rw [e, List.filter_append, List.filter_append]
  have e1 : (List.range' 0 l).filter (fun k => (decide (l ≤ k) && decide (k < l + n)) && f k) = [] := by
    rw [List.filter_eq_nil_iff]
    intro k hk
    have := (List.mem_range'_1.mp hk).2
    simp
    omega
  have e3 : (List.range' (l + n) d).filter (fun k => (decide (l ≤ k) && decide (k < l + n)) && f k) = [] := by
    rw [List.filter_eq_nil_iff]
    intro k hk
    have := (List.mem_range'_1.mp hk).1
    simp
    omega
  have e2 : (List.range' l n).filter (fun k => (decide (l ≤ k) && decide (k < l + n)) && f k) = (List.range' l n).filter f := by
    refine List.filter_congr fun k hk => ?_
    have := List.mem_range'_1.mp hk
    simp [this]
  rw [e1, e2, e3, List.nil_append, List.append_nil, List.range'_eq_map_range, List.filter_map]
  rfl
theorem plc_le {ix : List Int} (nd : ix.Nodup) {j : Int} {k : Nat} (hk : k ≤ ix.length) : plc ix j ≤ (k : Int) ↔ j ∈ ix.take k := by
  unfold plc
  by_cases h : j ∈ ix
  · rw [if_pos h]
    have h1 : ix.idxOf j < ix.length := List.idxOf_lt_length_iff.mpr h
    constructor
    · intro q
      have q2 : ix.idxOf j < k := by omega
      refine List.mem_of_getElem? (i := ix.idxOf j) ?_
      rw [List.getElem?_take, if_pos q2, List.getElem?_eq_getElem h1, List.getElem_idxOf h1]
    · intro q
      obtain ⟨i, hi⟩ := List.getElem?_of_mem q
      rw [List.getElem?_take] at hi
      by_cases z : i < k
      · rw [if_pos z] at hi
        obtain ⟨h2, e2⟩ := List.getElem?_eq_some_iff.mp hi
        have := (List.getElem_inj (h₀ := h2) (h₁ := h1) nd).mp (by rw [e2, List.getElem_idxOf h1])
        omega
      · rw [if_neg z] at hi
        cases hi
  · rw [if_neg h]
    constructor
    · intro q
      omega
    · intro q
      exact absurd (List.mem_of_mem_take q) h
theorem plc_pos {ix : List Int} {j : Int} : 1 ≤ plc ix j ∧ plc ix j ≤ (ix.length : Int) + 1 := by
  unfold plc
  by_cases h : j ∈ ix
  · rw [if_pos h]
    have h1 : ix.idxOf j < ix.length := List.idxOf_lt_length_iff.mpr h
    omega
  · rw [if_neg h]
    omega
theorem early_iff {rs : List Rc} {ix : List Int} {r : Rc} {l k : Nat} (nd : ix.Nodup) (hk : k ≤ ix.length) (h1 : ∀ q ∈ needs rs ix, q.1 < r.bg → q.2 ≤ (l : Int)) (h2 : l = 0 ∨ ∃ q ∈ needs rs ix, q.1 < r.bg ∧ q.2 = (l : Int)) : noEarly rs ix r k = decide (l ≤ k) := by
  have key : noEarly rs ix r k = true ↔ l ≤ k := by
    unfold noEarly
    rw [List.all_eq_true]
    constructor
    · intro h
      rcases h2 with h2 | ⟨q, hq, h3, h4⟩
      · omega
      · unfold needs at hq
        obtain ⟨j, hj, rfl⟩ := List.mem_map.mp hq
        have h5 := h j hj
        dsimp only at h3 h4
        rw [decide_eq_true h3, Bool.not_true, Bool.false_or] at h5
        have := (plc_le nd hk).mpr (of_decide_eq_true h5)
        omega
    · intro h j hj
      by_cases z : (rcAt rs j).en < r.bg
      · have h3 := h1 ((rcAt rs j).en, plc ix j) (List.mem_map.mpr ⟨j, hj, rfl⟩) z
        dsimp only at h3
        have h4 : j ∈ ix.take k := (plc_le nd hk).mp (by omega)
        rw [decide_eq_true h4, Bool.or_true]
      · rw [decide_eq_false z]
        rfl
  by_cases h : l ≤ k
  · rw [decide_eq_true h]
    exact key.mpr h
  · rw [decide_eq_false h]
    cases e : noEarly rs ix r k with
    | false => rfl
    | true => exact absurd (key.mp e) h
theorem late_iff {rs : List Rc} {ix : List Int} {r : Rc} {k : Nat} (hk : k ≤ ix.length) : noLate rs ix r k = decide (k ≤ mostP rs ix r) := by
  have key : noLate rs ix r k = true ↔ k ≤ mostP rs ix r := by
    unfold noLate mostP
    rw [List.all_eq_true]
    constructor
    · intro h
      refine Nat.le_of_not_lt fun q => ?_
      have hl : (ix.findIdx fun j => decide (r.en < (rcAt rs j).bg)) < ix.length := by omega
      have h1 := List.findIdx_getElem (w := hl)
      have h2 := h (ix[ix.findIdx fun j => decide (r.en < (rcAt rs j).bg)]) (List.mem_of_getElem? (i := ix.findIdx fun j => decide (r.en < (rcAt rs j).bg)) (by rw [List.getElem?_take, if_pos q, List.getElem?_eq_getElem hl]))
      rw [h1] at h2
      cases h2
    · intro h j hj
      obtain ⟨i, hi⟩ := List.getElem?_of_mem hj
      rw [List.getElem?_take] at hi
      by_cases z : i < k
      · rw [if_pos z] at hi
        obtain ⟨h2, e2⟩ := List.getElem?_eq_some_iff.mp hi
        have h3 := List.not_of_lt_findIdx (p := fun j => decide (r.en < (rcAt rs j).bg)) (xs := ix) (i := i) (by omega)
        rw [e2] at h3
        simpa using h3
      · rw [if_neg z] at hi
        cases hi
  by_cases h : k ≤ mostP rs ix r
  · rw [decide_eq_true h]
    exact key.mpr h
  · rw [decide_eq_false h]
    cases e : noLate rs ix r k with
    | false => rfl
    | true => exact absurd (key.mp e) h
theorem mostP_le {rs : List Rc} {ix : List Int} {r : Rc} : mostP rs ix r ≤ ix.length := List.findIdx_le_length
theorem pst_eq {rs : List Rc} {ms ix : List Int} {r : Rc} {l : Nat} (nd : ix.Nodup) (hl : l ≤ ix.length + 1) (h1 : ∀ q ∈ needs rs ix, q.1 < r.bg → q.2 ≤ (l : Int)) (h2 : l = 0 ∨ ∃ q ∈ needs rs ix, q.1 < r.bg ∧ q.2 = (l : Int)) :
    ((List.range (mostP rs ix r + 1 - l)).filter fun j => agP r.rd (behP rs ms (ix.take (l + j)))).map (fun j : Nat => ((l : Int) + (j : Int))) = pst rs ms ix r := by
  have hm := mostP_le (rs := rs) (ix := ix) (r := r)
  unfold pst
  have e : (List.range (ix.length + 1)).filter (okK rs ms ix r) = (List.range (ix.length + 1)).filter fun k => (decide (l ≤ k) && decide (k < l + (mostP rs ix r + 1 - l))) && agP r.rd (behP rs ms (ix.take k)) := by
    refine List.filter_congr fun k hk => ?_
    have hk2 : k ≤ ix.length := by have := List.mem_range.mp hk; omega
    unfold okK
    rw [early_iff nd hk2 h1 h2, late_iff hk2]
    congr 1
    by_cases z : l ≤ k
    · rw [decide_eq_true z, Bool.true_and, Bool.true_and]
      congr 1
      exact propext ⟨fun h => by omega, fun h => by omega⟩
    · rw [decide_eq_false z, Bool.false_and, Bool.false_and]
  rw [e, filt_mid (by omega) fun k => agP r.rd (behP rs ms (ix.take k)), List.map_map]
  refine List.map_congr_left fun j _ => ?_
  simp
section
variable {P : Program} {w : World} {K : PySem.W.Frag} {mg : Str → Option Value} {base : Heap} {A : Adr}
theorem accF_1 {R io mm nd : Addr} : (accF R io mm nd).lookup ("_records" : Str) = some (.ref R) := lk_here (by decide +kernel)
theorem accF_2 {R io mm nd : Addr} : (accF R io mm nd).lookup ("_in_order" : Str) = some (.ref io) := (lk_on (by decide +kernel)).trans (lk_here (by decide +kernel))
theorem accF_3 {R io mm nd : Addr} : (accF R io mm nd).lookup ("_memories" : Str) = some (.ref mm) := (lk_on (by decide +kernel)).trans ((lk_on (by decide +kernel)).trans (lk_here (by decide +kernel)))
theorem accF_4 {R io mm nd : Addr} : (accF R io mm nd).lookup ("_needs" : Str) = some (.ref nd) := (lk_on (by decide +kernel)).trans ((lk_on (by decide +kernel)).trans ((lk_on (by decide +kernel)).trans (lk_here (by decide +kernel))))
theorem accF_no {R io mm nd : Addr} {m : Str} (h1 : (m == ("_records" : Str)) = false) (h2 : (m == ("_in_order" : Str)) = false) (h3 : (m == ("_memories" : Str)) = false) (h4 : (m == ("_needs" : Str)) = false) : (accF R io mm nd).lookup m = none :=
  (lk_on h1).trans ((lk_on h2).trans ((lk_on h3).trans ((lk_on h4).trans rfl)))
/-! ### how many had begun -/
def spMost (A : Adr) (K : PySem.W.Frag) : Sp := fun vs H Q _ => ∃ (x : Addr) (u : V) (rs : List Rc) (ms ix : List Int) (r : Rc), vs = [.ref x, u] ∧ AccAt A K H x rs ms ix ∧ RecAt A H u r ∧ ∀ H', Same H H' → Q (.int (mostP rs ix r : Int)) H'
theorem ok_Account__most (T : Txt K mg A) : FnOk P w K mg base CX0 1 A.a_Account__most A.d_Account__most ["self", "record"] (spMost A K) := by
  refine T.F_Account__most.ok sc_Account__most (fun vs H Q E ⟨_, _, _, _, _, _, e, _⟩ => by rw [e]; rfl) (fun cdv A' outer s H vs Q E hr h => ?_)
  obtain ⟨x, u, rs, ms, ix, r, rfl, hA, hu, k⟩ := h
  refine ⟨_, pss_cons (ps_for PassesOwn.never rfl (pi_enum (by rfl) T.n_enumerate (pa_cons (pe_fld (pv 0) rfl) pa_nil)) (pg_tup (by rfl) (pgs_cons (pg_name (i := 2) sc_Account__most.nd rfl (Or.inl rfl)) (pgs_cons (pg_name (i := 3) sc_Account__most.nd rfl (Or.inl rfl)) pgs_nil)))
  (pss_one (ps_if (pt_cmpR op_gt (pe_fld (pv 3) rfl) (pe_fld (pv 1) rfl) (nomark _))
  (pss_one (ps_ret (pv 2)))
  (pss_nil))))
  (pss_one (ps_ret (pe_callB call_len_seq (by rfl) T.n_len (by decide +kernel) (pa_cons (pe_fld (pv 0) rfl) pa_nil)))), ?_⟩
  obtain ⟨dx, R, io, mm, nd, ios, mems, nds, h1, h2, h3, h4, h5, h6, h7, h8⟩ := hA.ex
  have lios : ios.length = ix.length := by
    have := paired_len h4
    rw [List.length_map] at this
    omega
  have tio : ∀ {H' : Hp} {v2 v3 : Option V}, Same H H' → Te (tFld K (tVar 0) "_in_order") [some (.ref x), some u, v2, v3] H' (.ref io) := fun s => te_fld (te_var rfl) (s _ _ h1) T.cl_Account T.no_Account__in_order accF_2
  refine sq_go (for_go (ti_enum (tio (Same.refl H)) (SqL.of h3)) walk_enum (fun i σ H' => (∃ v2 v3 : Option V, σ = [some (.ref x), some u, v2, v3]) ∧ Same H H' ∧ ∀ j ∈ ix.take i, ¬ r.en < (rcAt rs j).bg) ⟨⟨_, _, rfl⟩, Same.refl H, fun j h => (by simp at h)⟩ (fun i σ H' _ h => SqL.of (h.2.1 _ _ h3)) ?_ ?_)
  · rintro i y σ H1 H' hi ⟨⟨v2, v3, rfl⟩, s1, no⟩ ⟨T0, x', y', rfl, hT, rfl, hx, hy⟩
    obtain rfl := (Option.some.inj hx).symm
    obtain ⟨r2, er2, hr2⟩ := paired_at h4 hy
    obtain ⟨j, ej, rfl⟩ : ∃ j, ix[i]? = some j ∧ r2 = rcAt rs j := by
      rw [List.getElem?_map] at er2
      cases q : ix[i]? with
      | none =>
        rw [q] at er2
        cases er2
      | some j =>
        rw [q] at er2
        exact ⟨j, rfl, (Option.some.inj er2).symm⟩
    have s2 : Same H (upd H1 T0 (.tup [.int (i : Int), y'])) := s1.trans (Same.upd hT)
    refine pair_go upd_same (ts_sl (σ' := [some (.ref x), some u, some (.int (i : Int)), some y']) rfl ?_)
    refine if_go (tt_test (te_i0 (te_begun T (hr2.mono s2) (te_var rfl)) (te_ended T (hu.mono s2) (te_var rfl)))) (fun hb => ?_) fun hb => ?_
    · have hb2 : r.en < (rcAt rs j).bg := by have := of_decide_eq_true hb; omega
      have em : mostP rs ix r = i := by
        unfold mostP
        have hlt : i < ix.length := by omega
        refine (List.findIdx_eq hlt).mpr ⟨?_, fun jj hjj => ?_⟩
        · obtain ⟨_, e2⟩ := List.getElem?_eq_some_iff.mp ej
          rw [e2]
          exact decide_eq_true hb2
        · have hm : ix[jj]'(by omega) ∈ ix.take i := List.mem_of_getElem? (i := jj) (by rw [List.getElem?_take, if_pos hjj, List.getElem?_eq_getElem (by omega)])
          exact decide_eq_false (no _ hm)
      refine ret_te (te_var rfl) ?_
      have q := k _ s2
      rw [em] at q
      exact q
    · refine ⟨⟨_, _, rfl⟩, s2, fun j' hj' => ?_⟩
      rw [List.take_add_one, ej] at hj'
      rcases List.mem_append.mp hj' with h | h
      · exact no _ h
      · rw [show j' = j by simpa using h]
        have := of_decide_eq_false hb
        omega
  · rintro σ H' ⟨⟨v2, v3, rfl⟩, s1, no⟩
    have em : mostP rs ix r = ix.length := by
      unfold mostP
      refine List.findIdx_eq_length.mpr fun j hj => ?_
      rw [lios, List.take_length] at no
      exact decide_eq_false (no j hj)
    have tl := te_len (K := K) (tio (v2 := v2) (v3 := v3) s1) (.inl (SqL.of (s1 _ _ h3)))
    rw [lios, ← em] at tl
    dsimp only
    exact ret_te tl (k _ s1)
/-! ### the pasts of a record -/
def spPastsOf (A : Adr) (K : PySem.W.Frag) : Sp := fun vs H Q _ => ∃ (x : Addr) (rs : List Rc) (ms ix : List Int) (r : Rc) (n : Nat), vs = [.ref x, .int n] ∧ AccAt A K H x rs ms ix ∧ ix.Nodup ∧ rs[n]? = some r ∧ r.rd.length ≤ 1000 ∧ ∀ v H', Same H H' → H v = none → H' v = some (.lst ((pst rs ms ix r).map V.int)) → Q (.ref v) H'
theorem ok_Account_pasts_of (T : Txt K mg A) : FnOk P w K mg base CX0 2 A.a_Account_pasts_of A.d_Account_pasts_of ["self", "index"] (spPastsOf A K) := by
  refine T.F_Account_pasts_of.ok sc_Account_pasts_of (fun vs H Q E ⟨_, _, _, _, _, _, e, _⟩ => by rw [e]; rfl) (fun cdv A' outer s H vs Q E hr h => ?_)
  obtain ⟨x, rs, ms, ix, r, n, rfl, hA, hnd, er, lrd, k⟩ := h
  refine ⟨_, pss_cons (ps_set (i := 2) sc_Account_pasts_of.nd rfl (Or.inr rfl) (pe_ix ix_list (pe_fld (pv 0) rfl) (pv 1) (fun _ _ => rfl)))
  (pss_cons (ps_set (i := 3) sc_Account_pasts_of.nd rfl (Or.inl rfl) (pe_callBK (cr_maxDf rfl) (by rfl) T.n_max (by decide +kernel) (pa_cons (pe_lc (own := [("ended", 6), ("k", 5)]) (g := gTup K 2 (gCons (gName 6) (gCons (gName 5) gNil))) rfl sc_Account_pasts_of.nd (pi_list (pe_fld (pv 0) rfl)) (blkOk_by (N := ["self", "index", "record", "least", "most", "k", "ended"]) (sc := defScope s_Account_pasts_of) (by decide +kernel)) (fun _ _ _ _ _ => pg_tup (by rfl) (pgs_cons (pg_name (i := 6) sc_Account_pasts_of.nd rfl (Or.inl rfl)) (pgs_cons (pg_name (i := 5) sc_Account_pasts_of.nd rfl (Or.inl rfl)) pgs_nil))) (fun _ _ _ _ _ => pts_one (pt_cmpR op_lt (pv 6) ((show PE _ _ (tFld K _ _) from pe_fld (pv 2) rfl)) (nomark _))) (fun _ _ _ _ _ => pv 5)) pa_nil) (pk_cons (pe_int) pk_nil)))
  (pss_cons (ps_set (i := 4) sc_Account_pasts_of.nd rfl (Or.inl rfl) (pe_meth (pv 0) T.cl_Account T.m_Account__most (ok_Account__most T) (hr.mono (by decide)) T.b_Account__most .nil pass0 (pa_cons (pv 2) pa_nil)))
  (pss_one (ps_ret (pe_lc (own := [("k", 5)]) (g := gName 5) rfl sc_Account_pasts_of.nd (pi_range2 (by rfl) T.n_range (pa_cons (pv 3) (pa_cons (pe_op op_add (pv 4) (pe_int)) pa_nil))) (blkOk_by (N := ["self", "index", "record", "least", "most", "k", "ended"]) (sc := defScope s_Account_pasts_of) (by decide +kernel)) (fun _ _ _ _ _ => pg_name (i := 5) sc_Account_pasts_of.nd rfl (Or.inl rfl)) (fun _ _ _ _ _ => pts_one (pt_val (pe_call (ok_agrees T) (hr.mono (by decide)) rfl T.g_agrees T.F_agrees.kp T.b_agrees .nil pass0 (pa_cons ((show PE _ _ (tFld K _ _) from pe_fld (pv 2) rfl)) (pa_cons (pe_ix (show IxR _ (rIxL K) from ix_list) ((show PE _ _ (tFld K _ _) from pe_fld (pv 0) rfl)) (pv 5) (fun _ _ => rfl)) pa_nil))))) (fun _ _ _ _ _ => pv 5)))))), ?_⟩
  obtain ⟨dx, R, io, mm, nd, ios, mems, nds, h1, h2, h3, h4, h5, h6, h7, h8⟩ := hA.ex
  obtain ⟨us, q1, q2, q3⟩ := id h2
  obtain ⟨u, eu, hu⟩ := paired_at2 q2 er
  refine asg_te (te_ixL (te_fld (te_var rfl) h1 T.cl_Account T.no_Account__records accF_1) (te_var rfl) (SqL.of q1) (atI_nat eu)) ?_
  refine ts_sl (σ' := [some (.ref x), some (.int n), some u, none, none, none, none]) rfl ?_
  -- least
  refine asg_un (ckw_un (cons_un (lc_go (ti_list (te_fld (te_var rfl) h1 T.cl_Account T.no_Account__needs accF_4) (SqL.of h7)) walk_list (fun L i H' => Same H H' ∧ H' L = some (.lst (((((needs rs ix).take i).filter fun q => decide (q.1 < r.bg)).map (·.2)).map V.int))) (fun L hL => ⟨Same.upd hL, upd_same⟩) (fun L i H' _ h => SqL.of (h.1 _ _ h7)) ?_ ?_)))
  · rintro L i y H1 H' hL hi ⟨s1, e1⟩ ⟨rfl, hy⟩
    obtain ⟨q, eq, hq⟩ := paired_at h8 hy
    obtain ⟨a, rfl, hq⟩ := hq
    refine pair_goT (Same.sqT s1 hq) ⟨rfl, tt_sl (σ' := [some (.ref x), some (.int n), some u, none, none, some (.int q.2), some (.int q.1)]) rfl ?_⟩
    refine (tt_test (te_i0 (te_var rfl) (te_begun T (hu.mono s1) (te_var rfl)))).go ?_
    have es : ((((needs rs ix).take (i + 1)).filter fun q => decide (q.1 < r.bg)).map (·.2)) = ((((needs rs ix).take i).filter fun q => decide (q.1 < r.bg)).map (·.2)) ++ (if q.1 < r.bg then [q.2] else []) := by
      rw [List.take_add_one, eq, List.filter_append, List.map_append]
      congr 1
      by_cases z : q.1 < r.bg
      · simp [z]
      · simp [z]
    by_cases z : q.1 < r.bg
    · rw [if_pos z] at es
      rw [decide_eq_true z, if_pos rfl]
      refine (te_var (v := .int q.2) rfl).go ⟨_, e1, ?_, Same.wr s1 hL, by rw [upd_same, es, List.map_append]; rfl⟩
      have l1 := List.length_filter_le (fun q : Int × Int => decide (q.1 < r.bg)) ((needs rs ix).take i)
      rw [List.length_take] at l1
      have l2 : (needs rs ix).length ≤ rs.length := by unfold needs; rw [List.length_map]; exact doneTo_len
      rw [List.length_map, List.length_map, sizeLine_eq]
      omega
    · rw [if_neg z, List.append_nil] at es
      rw [decide_eq_false z, if_neg (by simp)]
      exact ⟨s1, by rw [es]; exact e1⟩
  rintro L H2 hL ⟨s2, e2⟩
  have lnd : nds.length = (needs rs ix).length := (paired_len h8).symm
  rw [lnd, List.take_length] at e2
  refine nil_un (cons_un (te_c.go (nil_un (maxdf_go (SqL.of e2) fun M m1 m2 m3 => ?_))))
  try dsimp only
  have inn : ∀ {y : Int}, y ∈ ((needs rs ix).filter fun q => decide (q.1 < r.bg)).map (·.2) → ∃ q ∈ needs rs ix, q.1 < r.bg ∧ q.2 = y := fun hy => by
    obtain ⟨q, hq, rfl⟩ := List.mem_map.mp hy
    obtain ⟨g1, g2⟩ := List.mem_filter.mp hq
    exact ⟨q, g1, of_decide_eq_true g2, rfl⟩
  have bnd : ∀ {q : Int × Int}, q ∈ needs rs ix → 1 ≤ q.2 ∧ q.2 ≤ (ix.length : Int) + 1 := fun hq => by
    unfold needs at hq
    obtain ⟨j, _, rfl⟩ := List.mem_map.mp hq
    exact plc_pos
  obtain ⟨l, rfl⟩ : ∃ l : Nat, M = (l : Int) := by
    rcases m2 with m2 | m2
    · exact ⟨0, m2⟩
    · obtain ⟨q, hq, _, e⟩ := inn m2
      have := bnd hq
      exact ⟨M.toNat, by omega⟩
  have hll : l ≤ ix.length + 1 := by
    rcases m2 with m2 | m2
    · omega
    · obtain ⟨q, hq, _, e⟩ := inn m2
      have := bnd hq
      omega
  have c1 : ∀ q ∈ needs rs ix, q.1 < r.bg → q.2 ≤ (l : Int) := fun q hq hb => m1 q.2 (List.mem_map.mpr ⟨q, List.mem_filter.mpr ⟨hq, decide_eq_true hb⟩, rfl⟩)
  have c2 : l = 0 ∨ ∃ q ∈ needs rs ix, q.1 < r.bg ∧ q.2 = (l : Int) := by
    rcases m2 with m2 | m2
    · exact .inl (by omega)
    · exact .inr (inn m2)
  clear m1 m2 m3 inn bnd
  refine ts_sl (σ' := [some (.ref x), some (.int n), some u, some (.int l), none, none, none]) rfl ?_
  -- most
  have hA2 := hA.mono s2
  refine asg_un (meth_un ((te_var rfl).go ⟨x, dx, _, rfl, s2 _ _ h1, accF_no (by decide +kernel) (by decide +kernel) (by decide +kernel) (by decide +kernel), cons_un ((te_var rfl).go (nil_un ⟨x, u, rs, ms, ix, r, rfl, hA2, hu.mono s2, fun H3 s3 => ?_⟩))⟩))
  refine ts_sl (σ' := [some (.ref x), some (.int n), some u, some (.int l), some (.int (mostP rs ix r : Int)), none, none]) rfl ?_
  have hml := mostP_le (rs := rs) (ix := ix) (r := r)
  have lix := hA.lix
  have s23 := s2.trans s3
  have ti := ti_rng2 (σ := [some (.ref x), some (.int n), some u, some (.int l), some (.int (mostP rs ix r : Int)), none, none]) (H := H3) (te := tVar 3) (tb := tOp (rI0 fun i j => .int (i + j)) (tVar 4) (tC (.int 1))) (i := (l : Int)) (j := (mostP rs ix r : Int) + 1) (te_var rfl) (te_i0 (g := fun i j => .int (i + j)) (te_var rfl) te_c) (by omega) (by omega)
  rw [show ((mostP rs ix r : Int) + 1 - (l : Int)).toNat = mostP rs ix r + 1 - l by omega] at ti
  refine ret_un (lc_go ti walk_range (fun L i H' => Same H3 H' ∧ H' L = some (.lst ((((List.range i).filter fun j => agP r.rd (behP rs ms (ix.take (l + j)))).map fun j : Nat => (l : Int) + (j : Int)).map V.int))) (fun L hL => ⟨Same.upd hL, upd_same⟩) (fun _ _ _ _ _ => trivial) ?_ ?_)
  · rintro L2 i y H4 H' hL2 hi ⟨s4, e4⟩ ⟨rfl, rfl⟩
    refine name_go (σ' := [some (.ref x), some (.int n), some u, some (.int l), some (.int (mostP rs ix r : Int)), some (.int ((l : Int) + (i : Int))), none]) rfl ⟨rfl, ?_⟩
    have sH := s23.trans s4
    obtain ⟨rd, trd, hrd⟩ := te_reads (K := K) (σ := [some (.ref x), some (.int n), some u, some (.int l), some (.int (mostP rs ix r : Int)), some (.int ((l : Int) + (i : Int))), none]) T (hu.mono sH) (te_var (i := 2) rfl)
    have hlt : l + i < ix.length + 1 := by omega
    obtain ⟨c, ec, hc⟩ := paired_at2 (i := l + i) (v := behP rs ms (ix.take (l + i))) h6 (by
      unfold memsP
      rw [List.getElem?_map, List.getElem?_range hlt]
      rfl)
    obtain ⟨ca, rfl, hca⟩ := hc
    have tm := te_ixL (K := K) (v := .ref ca) (σ := [some (.ref x), some (.int n), some u, some (.int l), some (.int (mostP rs ix r : Int)), some (.int ((l : Int) + (i : Int))), none]) (te_fld (te_var (i := 0) rfl) (sH _ _ h1) T.cl_Account T.no_Account__memories accF_3) (te_var (i := 5) rfl) (SqL.of (sH _ _ h5)) (atI_int (by omega) (by rw [show ((l : Int) + (i : Int)).toNat = l + i by omega]; exact ec))
    refine b_un (call_un (cons_un (trd.go (cons_un (tm.go (nil_un ⟨rd, ca, r.rd, _, rfl, hrd, sH _ _ hca, lrd, fun H5 s5 => ⟨_, rfl, ?_⟩⟩))))))
    rw [List.range_succ, List.filter_append, List.map_append]
    by_cases z : agP r.rd (behP rs ms (ix.take (l + i))) = true
    · rw [z, if_pos rfl]
      refine (te_var rfl).go ⟨_, s5 _ _ e4, ?_, Same.wr (s4.trans s5) hL2, ?_⟩
      · have l1 := List.length_filter_le (fun j => agP r.rd (behP rs ms (ix.take (l + j)))) (List.range i)
        rw [List.length_range] at l1
        rw [List.length_map, List.length_map, sizeLine_eq]
        omega
      · rw [upd_same, List.map_append]
        simp [z]
    · rw [if_neg z]
      refine ⟨s4.trans s5, ?_⟩
      rw [s5 _ _ e4]
      simp [z]
  · rintro L2 H4 hL2 ⟨s4, e4⟩
    rw [pst_eq hnd hll c1 c2] at e4
    exact k L2 H4 (s23.trans s4) (s23.free hL2) e4
end
end O43

/-! lists that are being written -/
namespace YF
open PySem PySem.Spec PyProof.Rows L2
section
variable {K : PySem.W.Frag}
theorem set_sl {σ σ' : L2.St} {t : TS} {E : Ends} {H : Hp} (e : σ = σ') (h : t E σ' H) : t E σ H := by
  rw [e]
  exact h
theorem te_ixs {σ : L2.St} {H : Hp} {ta tb : TE} {z : Str} {i : Int} {c : Nat} (ha : Te ta σ H (.str z)) (hb : Te tb σ H (.int i)) (h : z.length ≤ sizeLine) (h2 : atI z.cps.toList i = some c) : Te (tOp rIxS ta tb) σ H (.str ⟨#[c]⟩) := fun Q q => ha _ (hb _ ⟨z, i, c, rfl, rfl, h, h2, q⟩)
theorem te_ins {σ : L2.St} {H : Hp} {ta tb : TE} {z : Str} {c : Nat} (ha : Te ta σ H (.str ⟨#[c]⟩)) (hb : Te tb σ H (.str z)) : Te (tOp (fun x y H Q => ∃ (c : Nat) (z : Str), x = .str ⟨#[c]⟩ ∧ y = .str z ∧ Q (.bl (decide (c ∈ z.cps.toList))) H) ta tb) σ H (.bl (decide (c ∈ z.cps.toList))) := fun Q q => ha _ (hb _ ⟨c, z, rfl, rfl, q⟩)
theorem one_eq {c d : Nat} {s : Str} (hs : s = ⟨#[d]⟩) : (V.str ⟨#[c]⟩ = V.str s) ↔ c = d := by
  rw [hs]
  constructor
  · intro h
    have h2 := V.str.inj h
    have h3 := congrArg (fun z : Str => z.cps.toList) h2
    simpa using h3
  · rintro rfl
    rfl
theorem te_cut {σ : L2.St} {H : Hp} {ta tb tc : TE} {z : Str} {i j : Int} (ha : Te ta σ H (.str z)) (hb : Te tb σ H (.int i)) (hc : Te tc σ H (.int j)) (h : z.length ≤ sizeLine) : Te (tSl rSlS ta (tPart tb) (tPart tc)) σ H (.str (cutS z (some i) (some j))) := fun Q q => ha _ (hb _ ⟨i, rfl, hc _ ⟨j, rfl, z, rfl, h, q⟩⟩)
theorem inV_str (t : Str) : ∀ zs : List Str, inV (.str t) (zs.map V.str) = decide (t ∈ zs)
  | [] => by simp [inV]
  | a :: r => by
    have ih := inV_str t r
    simp only [inV, List.map_cons, List.any_cons] at ih ⊢
    rw [ih]
    have e : eqV (.str a) (.str t) = decide (t = a) := by
      show (a == t) = _
      by_cases h : a = t
      · rw [h]
        simp
      · have h2 : ¬ t = a := fun q => h q.symm
        rw [decide_eq_false h2]
        exact beq_eq_false_iff_ne.mpr h
    rw [e]
    simp [List.mem_cons]
theorem all_flat (zs : List Str) : (zs.map V.str).all flatV = true := by
  induction zs with
  | nil => rfl
  | cons a r ih =>
    rw [List.map_cons, List.all_cons, ih]
    rfl
theorem te_inT {σ : L2.St} {H : Hp} {ta tb : TE} {t : Str} {p : Addr} {zs : List Str} (ha : Te ta σ H (.str t)) (hb : Te tb σ H (.ref p)) (h : SqL K H p (zs.map V.str) ∨ SqT K H p (zs.map V.str)) : Te (tOp (rIn K false) ta tb) σ H (.bl (decide (t ∈ zs))) := fun Q q => ha _ (hb _ ⟨p, _, rfl, h, rfl, all_flat zs, by rw [inV_str]; exact q⟩)
/-- x = [..], to be written -/
theorem asg_l0 {X : List Addr} {B H : Hp} {ta : TA} {σ : L2.St} {ds : D} {E : Ends} {rest : TS} {i : Nat} {l : List (V × D)} (h : Eds K X B ta σ ds) (h1 : ds.isRow = true) (h2 : ds.len ≤ 1000) (s : Same B H) (o : Off X B) (j : Ints X H) (e : Env K B l)
    (k : ∀ p vs N H2, Same N H2 → Off X N → Ints X H2 → Env K N l → Rp K N ds vs → N p = none → p ∉ X → H2 p = some (.lst vs) → rest E (σ.set i (some (.ref p))) H2) : tSeq (tAsg (tLst ta) (gName i)) rest E σ H :=
  h B (Same.refl B) H s o j _ fun vs d N H1 g j1 q r => by
    subst q
    have hl : vs.length ≤ 1000 := by rw [Rp.row_len h1 r]; exact h2
    refine ⟨Nat.le_trans hl (by decide), fun p hp => ?_⟩
    have o1 := g.offI o j
    have npx : p ∉ X := fun m => by
      obtain ⟨ns, q⟩ := j1 p m
      rw [hp] at q
      cases q
    refine k p vs N (upd H1 p (.lst vs)) (Same.wr g.nh (g.nh.free hp)) o1 (fun a m => ?_) (e.mono g.bn) r (g.nh.free hp) npx upd_same
    obtain ⟨ns, q⟩ := j1 a m
    exact ⟨ns, Same.upd hp a _ q⟩
/-- x.append(e) to such a list -/
theorem app_go {X : List Addr} {B H : Hp} {te : TE} {σ : L2.St} {d ds : D} {E : Ends} {rest : TS} {i : Nat} {l : List (V × D)} {p : Addr} {vs : List V} (h : Ed K X B te σ d) (hi : σ[i]? = some (some (.ref p))) (hp : H p = some (.lst vs)) (hl : vs.length ≤ 1000) (hB : B p = none) (npx : p ∉ X) (s : Same B H) (o : Off X B) (j : Ints X H) (e : Env K B l) (r : Rp K B ds vs)
    (k : ∀ v N H2, Same N H2 → Off X N → Ints X H2 → Env K N l → Rp K N ds vs → Rp K N d [v] → N p = none → H2 p = some (.lst (vs ++ [v])) → rest E σ H2) : tSeq (tDrop (tBM K "list" rAppend (tVar i) (tCons te tNil))) rest E σ H := by
  refine ⟨_, hi, .inl ⟨rfl, _, SqL.of hp⟩, h.go s o j fun v N H1 g j1 rv => ?_⟩
  have hN : N p = none := by
    cases q : N p with
    | none => rfl
    | some u =>
      rcases g.frs p u q with q2 | q2
      · rw [hB] at q2
        cases q2
      · rw [hp] at q2
        cases q2
  refine ⟨p, vs, v, rfl, rfl, g.keep p _ npx hp, Nat.lt_of_le_of_lt hl (by decide), ?_⟩
  refine k v N _ (Same.wr g.nh hN) (g.offI o j) (fun a m => ?_) (e.mono g.bn) (Rp.mono g.bn r) rv hN upd_same
  obtain ⟨ns, q⟩ := j1 a m
  exact ⟨ns, by rw [upd_ne (fun z => npx (by rw [← z]; exact m))]; exact q⟩
/-- the same, and what was known stands -/
theorem app_go2 {X : List Addr} {B H : Hp} {te : TE} {σ : L2.St} {d ds : D} {E : Ends} {rest : TS} {i : Nat} {p : Addr} {vs : List V} (h : Ed K X B te σ d) (hi : σ[i]? = some (some (.ref p))) (hp : H p = some (.lst vs)) (hl : vs.length ≤ 1000) (hB : B p = none) (npx : p ∉ X) (s : Same B H) (o : Off X B) (j : Ints X H) (r : Rp K B ds vs)
    (k : ∀ v N H2, Same B N → Same N H2 → Off X N → Ints X H2 → Rp K N ds vs → Rp K N d [v] → N p = none → H2 p = some (.lst (vs ++ [v])) → rest E σ H2) : tSeq (tDrop (tBM K "list" rAppend (tVar i) (tCons te tNil))) rest E σ H := by
  refine ⟨_, hi, .inl ⟨rfl, _, SqL.of hp⟩, h.go s o j fun v N H1 g j1 rv => ?_⟩
  have hN : N p = none := by
    cases q : N p with
    | none => rfl
    | some u =>
      rcases g.frs p u q with q2 | q2
      · rw [hB] at q2
        cases q2
      · rw [hp] at q2
        cases q2
  refine ⟨p, vs, v, rfl, rfl, g.keep p _ npx hp, Nat.lt_of_le_of_lt hl (by decide), ?_⟩
  refine k v N _ g.bn (Same.wr g.nh hN) (g.offI o j) (fun a m => ?_) (Rp.mono g.bn r) rv hN upd_same
  obtain ⟨ns, q⟩ := j1 a m
  exact ⟨ns, by rw [upd_ne (fun z => npx (by rw [← z]; exact m))]; exact q⟩
theorem same_know {N H : Hp} {p : Addr} {o : HO} (s : Same N H) (h : H p = some o) : Same (upd N p o) H := fun a u q => by
  by_cases z : a = p
  · subst z
    rw [upd_same] at q
    cases q
    exact h
  · rw [upd_ne z] at q
    exact s a u q
/-- from now on it is known -/
theorem know_go {X : List Addr} {N H : Hp} {l : List (V × D)} {p : Addr} {vs : List V} {ds : D} (s : Same N H) (o : Off X N) (e : Env K N l) (r : Rp K N ds vs) (hl : vs.length ≤ 100000) (hN : N p = none) (npx : p ∉ X) (hp : H p = some (.lst vs)) :
    ∃ N2, Same N2 H ∧ Off X N2 ∧ Env K N2 ((.ref p, .lst ds) :: l) := by
  have s2 : Same N (upd N p (.lst vs)) := Same.upd hN
  refine ⟨upd N p (.lst vs), fun a u q => ?_, fun a m => ?_, (e.mono s2).add ⟨p, vs, rfl, SqL.of upd_same, hl, Rp.mono s2 r⟩⟩
  · by_cases z : a = p
    · subst z
      rw [upd_same] at q
      cases q
      exact hp
    · rw [upd_ne z] at q
      exact s a u q
  · rw [upd_ne (fun z => npx (by rw [← z]; exact m))]
    exact o a m
theorem Rp.snoc {N : Hp} : ∀ {ds : List D} {vs : List V} {d : D} {v : V}, Rp K N (D.row ds) vs → Rp K N d [v] → Rp K N (D.row (ds ++ [d])) (vs ++ [v])
  | [], vs, d, v, h, r => by
    have e : vs = [] := h
    rw [e]
    exact ⟨v, [], rfl, r, rfl⟩
  | a :: t, vs, d, v, ⟨x, xs, e, h1, h2⟩, r => by
    rw [e]
    exact ⟨x, xs ++ [v], rfl, h1, Rp.snoc h2 r⟩
end
end YF

namespace O43
open PySem L2 YF
section
variable {P : Program} {w : World} {K : PySem.W.Frag} {mg : Str → Option Value} {base : Heap} {A : Adr}
theorem inV_int (t : Int) : ∀ zs : List Int, inV (.int t) (zs.map V.int) = decide (t ∈ zs)
  | [] => by simp [inV]
  | a :: r => by
    have ih := inV_int t r
    simp only [inV, List.map_cons, List.any_cons] at ih ⊢
    rw [ih]
    have e : eqV (.int a) (.int t) = decide (t = a) := by
      show (a == t) = _
      by_cases h : a = t
      · rw [h]
        simp
      · have h2 : ¬ t = a := fun q => h q.symm
        rw [decide_eq_false h2]
        exact beq_eq_false_iff_ne.mpr h
    rw [e]
    simp [List.mem_cons]
theorem all_flatI (zs : List Int) : (zs.map V.int).all flatV = true := by
  induction zs with
  | nil => rfl
  | cons a r ih =>
    rw [List.map_cons, List.all_cons, ih]
    rfl
theorem notin_un {σ : L2.St} {H : Hp} {tx ty : TE} {j : Int} {zs : List Int} {Q : Bool → Hp → Prop} (hx : Te tx σ H (.int j)) (ht : Tn ty σ H (zs.map V.int)) (k : ∀ q, H q = none → Q (!decide (j ∈ zs)) (upd H q (.lst (zs.map V.int)))) : tTest (tOp (rIn K true) tx ty) σ H Q :=
  hx _ (ht _ fun q hq => ⟨q, _, rfl, .inl (SqL.of upd_same), rfl, all_flatI zs, by
    rw [if_pos rfl, inV_int]
    exact ⟨_, rfl, k q hq⟩⟩)
theorem filt_turn {B G : Hp} {L : Addr} {l : List Int} {p : Int → Bool} {t : Nat} {j : Int} {c : Bool} {σ : L2.St} {te : TE} (ej : l[t]? = some j) (hc : c = p j) (ht : Te te σ G (.int j)) (s : Same B G) (eL : G L = some (.lst (((l.take t).filter p).map V.int))) (hL : B L = none) (hl : l.length ≤ 1000) :
    if c = true then te σ G fun y H4 => ∃ acc, H4 L = some (.lst acc) ∧ acc.length < sizeLine ∧ Same B (upd H4 L (.lst (acc ++ [y]))) ∧ (upd H4 L (.lst (acc ++ [y]))) L = some (.lst (((l.take (t + 1)).filter p).map V.int)) else Same B G ∧ G L = some (.lst (((l.take (t + 1)).filter p).map V.int)) := by
  have es : (l.take (t + 1)).filter p = (l.take t).filter p ++ (if p j = true then [j] else []) := by
    rw [List.take_add_one, ej, List.filter_append]
    by_cases z : p j = true
    · simp [z]
    · simp [z]
  rw [es, hc]
  by_cases z : p j = true
  · rw [if_pos z, if_pos z]
    refine ht.go ⟨_, eL, ?_, Same.wr s hL, by rw [upd_same, List.map_append]; rfl⟩
    have := List.length_filter_le p (l.take t)
    rw [List.length_take] at this
    rw [List.length_map, sizeLine_eq]
    omega
  · rw [if_neg z, if_neg z, List.append_nil]
    exact ⟨s, eL⟩
theorem all_filt (l : List Int) (p : Int → Bool) : (l.all fun j => !p j) = decide ((l.filter p).length = 0) := by
  induction l with
  | nil => rfl
  | cons a r ih =>
    cases z : p a with
    | true => simp [z]
    | false => rw [List.all_cons, List.filter_cons, z, ih]; simp
/-! ### the law's own pasts -/
end
end O43

/-! sorted of a list of rows of two ints: some order of them -/
namespace YF
open PySem PySem.Spec PyProof.Rows L2
/-- a row of two ints -/
def Row2 (K : PySem.W.Frag) (H : Hp) (v : V) (q : Int × Int) : Prop := ∃ b, v = .ref b ∧ SqL K H b [.int q.1, .int q.2]
def rSortRows (K : PySem.W.Frag) : List V → Hp → VK → Prop := fun vs H Q => ∃ (a : Addr) (xs : List V) (qs : List (Int × Int)), vs = [V.ref a] ∧ SqL K H a xs ∧ Paired (Row2 K H) xs qs ∧ ∀ (ys : List V) (p : Addr), ys.Perm xs → H p = none → Q (.ref p) (upd H p (.lst ys))
def encR (b : V × Int × Int) : PyData := .list [.int b.2.1, .int b.2.2]
section
variable {X : Cx}
theorem each_of {R : Value → V × Int × Int → Prop} : ∀ {xs : List V} {us : List Value} {qs : List (Int × Int)}, Vals xs us → xs.length = qs.length → (∀ (i : Nat) x u q, xs[i]? = some x → us[i]? = some u → qs[i]? = some q → RelV x u → R u (x, q)) → PySem.W.EachIs R us (xs.zip qs)
  | [], [], [], .nil, _, _ => .nil
  | x :: xs, u :: us, q :: qs, .cons h t, l, k => .cons (k 0 x u q rfl rfl rfl h) (each_of t (by simpa using l) fun i x u q e1 e2 e3 r => k (i + 1) x u q (by simpa using e1) (by simpa using e2) (by simpa using e3) r)
theorem vals_each : ∀ {us : List Value} {bs : List (V × Int × Int)}, PySem.W.EachIs (fun u (b : V × Int × Int) => RelV b.1 u) us bs → Vals (bs.map (·.1)) us
  | [], [], .nil => .nil
  | _ :: _, _ :: _, .cons h t => .cons h (vals_each t)
theorem cr_sortRows (hu : X.A.units + 64 < cLine) : CallR X (.builtin "sorted") (rSortRows X.K) := by
  intro pins s σ H vs us Q I r h
  obtain ⟨a, xs, qs, rfl, hs, hp, q⟩ := h
  obtain ⟨its, rv, hl, hz⟩ := I.list hs
  rw [Vals.ref1 r]
  have lxq := Paired.length hp
  have e : PySem.W.EachIs (fun u (b : V × Int × Int) => RelV b.1 u) its (xs.zip qs) := each_of rv lxq fun i x u q _ _ _ rr => rr
  have er : PySem.W.EachIs (fun u (b : V × Int × Int) => ∃ as, Reads s.heap u (encR b) as) its (xs.zip qs) := each_of rv lxq fun i x u q e1 e2 e3 rr => by
    obtain ⟨q', e4, h2⟩ := paired_get hp e1
    rw [e3] at e4
    cases e4
    obtain ⟨b, rfl, h2⟩ := h2
    exact Dp.reads I _ _ _ (Dp.lst h2 (.cons (.int _) (.cons (.int _) .nil))) rr
  have lz : (xs.zip qs).length = xs.length := by rw [List.length_zip, ← lxq, Nat.min_self]
  have ax : PySem.W.AllAlike ((xs.zip qs).map encR) := PySem.W.AllAlike.of fun b b' => by simp [encR, PySem.W.alike, PySem.W.alikeAll]
  have sx : PySem.W.Sortable ((xs.zip qs).map encR) := PySem.W.Sortable.others fun b => ⟨by simp [encR], by simp [encR]⟩
  have dx : ∀ b, b ∈ xs.zip qs → X.A.units + 2 + (encR b).depth < cLine := fun b _ => by
    simp only [encR, PyData.depth, PyData.depthAll]
    omega
  refine PySem.W.sorted_data hl.isList e er ax sx (by rw [lz]; exact hz) dx fun out h1 h2 => ?_
  obtain ⟨ep, he'⟩ := sortedAll_at s.heap its (List.toArray out)
  have pm := List.mergeSort_perm (xs.zip qs) (PySem.W.dataLe false encR)
  have pv : (((xs.zip qs).mergeSort (PySem.W.dataLe false encR)).map (·.1)).Perm xs := by
    have := pm.map (·.1)
    rw [List.map_fst_zip (by omega)] at this
    exact this
  have hlen : (((xs.zip qs).mergeSort (PySem.W.dataLe false encR)).map (·.1)).length ≤ sizeLine := by
    rw [pv.length_eq]
    exact hz
  exact ⟨.ref _, upd H (s.heap.objs.size + 1) (.lst (((xs.zip qs).mergeSort (PySem.W.dataLe false encR)).map (·.1))), I.laid (t' := s.toks) (fun _ _ => sortedAll_old) (Nat.le_succ _) ⟨hlen, _, ep, vals_each h2, he'⟩, rfl, q _ _ pv (I.hok.fresh (Nat.le_succ _))⟩
end
end YF

namespace O43
open PySem L2 YF
/-! ### an order, plainly -/
def ixAt (ix : List Int) (k : Nat) : Int := ix.getD k 0
def agIn (rs : List Rc) (ms ix : List Int) : Bool := (List.range ix.length).all fun k => agP (rcAt rs (ixAt ix k)).rd (behP rs ms (ix.take k))
def timeOk (rs : List Rc) (ix : List Int) : Bool := decide (ix.Pairwise fun a b => (rcAt rs a).bg ≤ (rcAt rs b).en)
def allP (rs : List Rc) (ms ix : List Int) : Bool := (List.range rs.length).all fun k => dnAt rs k || !(pst rs ms ix (rcAt rs (k : Int))).isEmpty
def isO (rs : List Rc) (ms ix : List Int) : Bool := decide (ix.Perm (doneP rs)) && (agIn rs ms ix && (timeOk rs ix && allP rs ms ix))
theorem sorted_eq : ∀ {a b : List Int}, a.Perm b → a.Pairwise (· ≤ ·) → b.Pairwise (· ≤ ·) → a = b
  | [], b, p, _, _ => p.nil_eq
  | x :: a, [], p, _, _ => absurd p.length_eq (by simp)
  | x :: a, y :: b, p, h1, h2 => by
    rw [List.pairwise_cons] at h1 h2
    have e : x = y := by
      have g1 : x ≤ y := by
        rcases List.mem_cons.mp (p.mem_iff.mpr List.mem_cons_self : y ∈ x :: a) with q | q
        · omega
        · exact h1.1 y q
      have g2 : y ≤ x := by
        rcases List.mem_cons.mp (p.mem_iff.mp List.mem_cons_self : x ∈ y :: b) with q | q
        · omega
        · exact h2.1 x q
      omega
    subst e
    rw [sorted_eq (List.Perm.cons_inv p) h1.2 h2.2]
theorem doneP_sorted {rs : List Rc} : (doneP rs).Pairwise (· ≤ ·) := by
  unfold doneP doneTo
  refine List.Pairwise.map (R := fun a b : Nat => a < b) _ (fun a b h => by omega) (List.Pairwise.filter _ ?_)
  exact List.pairwise_lt_range
theorem sorted_iff {rs : List Rc} {ix ns : List Int} (p : ns.Perm ix) (s : ns.Pairwise (· ≤ ·)) : decide (ns = doneP rs) = decide (ix.Perm (doneP rs)) := by
  by_cases h : ns = doneP rs
  · rw [decide_eq_true h, decide_eq_true (by rw [← h]; exact p.symm)]
  · rw [decide_eq_false h, decide_eq_false (fun q => h (sorted_eq (p.trans q) s doneP_sorted))]
theorem eqv_ints : ∀ a b : List Int, PyData.eqvAll (a.map PyData.int) (b.map PyData.int) = decide (a = b)
  | [], [] => by simp [PyData.eqvAll]
  | [], _ :: _ => by simp [PyData.eqvAll]
  | _ :: _, [] => by simp [PyData.eqvAll]
  | x :: a, y :: b => by
    rw [List.map_cons, List.map_cons, PyData.eqvAll, eqv_ints a b, PyData.eqv]
    by_cases h : x = y
    · by_cases h2 : a = b
      · simp [h, h2]
      · simp [h, h2]
    · simp [h]
theorem eqv_lst (a b : List Int) : PyData.eqv (.list (a.map PyData.int)) (.list (b.map PyData.int)) = decide (a = b) := by
  rw [PyData.eqv, eqv_ints]
section
variable {P : Program} {w : World} {K : PySem.W.Frag} {mg : Str → Option Value} {base : Heap} {A : Adr}
/-- != of two lists of ints -/
theorem neI_un {H : Hp} {a b : Addr} {xs ys : List Int} {Q : VK} (h1 : H a = some (.lst (xs.map V.int))) (h2 : H b = some (.lst (ys.map V.int))) (q : Q (.bl (!decide (xs = ys))) H) : rNeD K (.ref a) (.ref b) H Q :=
  ⟨_, _, dp_ints h1, dp_ints h2, shaped_one xs, shaped_one ys, by rw [eqv_lst]; exact q⟩
theorem ixAt_of {ix : List Int} {k : Nat} {j : Int} (e : ix[k]? = some j) : ixAt ix k = j := by
  unfold ixAt
  rw [List.getD_eq_getElem?_getD, e]
  rfl
/-! ### the account's questions -/
def spQ (A : Adr) (K : PySem.W.Frag) (f : List Rc → List Int → List Int → Bool) : Sp := fun vs H Q _ => ∃ (x : Addr) (rs : List Rc) (ms ix : List Int), vs = [.ref x] ∧ AccAt A K H x rs ms ix ∧ (∀ r ∈ rs, r.rd.length ≤ 1000) ∧ ∀ H', Same H H' → Q (.bl (f rs ms ix)) H'
theorem all_range {f : Nat → Bool} {n : Nat} {L : Addr} {H : Hp} {bs : List V} (h : bs = ((List.range n).map f).map V.bl) : bs = ((List.range n).map f).map V.bl ∧ ((List.range n).map f).all id = (List.range n).all f := ⟨h, by rw [List.all_map]; rfl⟩
theorem rc_at {rs : List Rc} {ix : List Int} {i : Nat} {r : Rc} (e : (ix.map (rcAt rs))[i]? = some r) : ∃ j, ix[i]? = some j ∧ r = rcAt rs j := by
  rw [List.getElem?_map] at e
  cases q : ix[i]? with
  | none =>
    rw [q] at e
    cases e
  | some j =>
    rw [q] at e
    exact ⟨j, rfl, (Option.some.inj e).symm⟩
theorem InIx.rc {rs : List Rc} {ix : List Int} (h : InIx rs ix) {j : Int} (hj : j ∈ ix) : rcAt rs j ∈ rs := by
  obtain ⟨h0, h1⟩ := h j hj
  have h2 : j.toNat < rs.length := by omega
  rw [rcAt_of (List.getElem?_eq_getElem h2)]
  exact List.getElem_mem h2
theorem ok_Account_agrees_in_order (T : Txt K mg A) : FnOk P w K mg base CX0 2 A.a_Account_agrees_in_order A.d_Account_agrees_in_order ["self"] (spQ A K agIn) := by
  refine T.F_Account_agrees_in_order.ok sc_Account_agrees_in_order (fun vs H Q E ⟨_, _, _, _, e, _⟩ => by rw [e]; rfl) (fun cdv A' outer s H vs Q E hr h => ?_)
  obtain ⟨x, rs, ms, ix, rfl, hA, hrd, k⟩ := h
  refine ⟨_, pss_one (ps_ret (pe_callB (cr_all rfl) (by rfl) T.n_all (by decide +kernel) (pa_cons (pe_lc (own := [("k", 1), ("record", 2)]) (g := gTup K 2 (gCons (gName 1) (gCons (gName 2) gNil))) (tt := tYes) rfl sc_Account_agrees_in_order.nd (pi_enum (by rfl) T.n_enumerate (pa_cons (pe_fld (pv 0) rfl) pa_nil)) (blkOk_by (N := ["self", "k", "record"]) (sc := defScope s_Account_agrees_in_order) (by decide +kernel)) (fun _ _ _ _ _ => pg_tup (by rfl) (pgs_cons (pg_name (i := 1) sc_Account_agrees_in_order.nd rfl (Or.inl rfl)) (pgs_cons (pg_name (i := 2) sc_Account_agrees_in_order.nd rfl (Or.inl rfl)) pgs_nil))) (fun _ _ _ _ _ => pts_nil) (fun _ _ _ _ _ => pe_call (ok_agrees T) (hr.mono (by decide)) rfl T.g_agrees T.F_agrees.kp T.b_agrees .nil pass0 (pa_cons ((show PE _ _ (tFld K _ _) from pe_fld (pv 2) rfl)) (pa_cons (pe_ix (show IxR _ (rIxL K) from ix_list) ((show PE _ _ (tFld K _ _) from pe_fld (pv 0) rfl)) (pv 1) (fun _ _ => rfl)) pa_nil)))) pa_nil))), ?_⟩
  obtain ⟨dx, R, io, mm, nd, ios, mems, nds, h1, h2, h3, h4, h5, h6, h7, h8⟩ := hA.ex
  have lios : ios.length = ix.length := by
    have := paired_len h4
    rw [List.length_map] at this
    omega
  refine ret_un (cb_un (cons_un (lc_go (ti_enum (te_fld (te_var rfl) h1 T.cl_Account T.no_Account__in_order accF_2) (SqL.of h3)) walk_enum (fun L i H' => Same H H' ∧ H' L = some (.lst (((List.range i).map fun k => agP (rcAt rs (ixAt ix k)).rd (behP rs ms (ix.take k))).map V.bl))) (fun L hL => ⟨Same.upd hL, upd_same⟩) (fun L i H' _ h => SqL.of (h.1 _ _ h3)) ?_ ?_)))
  · rintro L i y H1 H' hL hi ⟨s1, e1⟩ ⟨T0, x', y', rfl, hT, rfl, hx, hy⟩
    obtain rfl := (Option.some.inj hx).symm
    obtain ⟨r, er, hr⟩ := paired_at h4 hy
    obtain ⟨j, ej, rfl⟩ := rc_at er
    have nT : T0 ≠ L := fun z => by rw [z, e1] at hT; cases hT
    have s2 : Same H (upd H1 T0 (.tup [.int (i : Int), y'])) := s1.trans (Same.upd hT)
    have eL : (upd H1 T0 (.tup [.int (i : Int), y'])) L = H1 L := upd_ne nT.symm
    rw [e1] at eL
    refine pair_go upd_same ⟨rfl, yes_go (te_sl (σ' := [some (.ref x), some (.int (i : Int)), some y']) rfl ?_)⟩
    generalize upd H1 T0 (HO.tup [V.int (i : Int), y']) = G at s2 eL ⊢
    obtain ⟨rd, trd, hrd'⟩ := te_reads (K := K) (σ := [some (.ref x), some (.int (i : Int)), some y']) T (hr.mono s2) (te_var (i := 2) rfl)
    obtain ⟨c, ec, hc⟩ := paired_at2 (i := i) (v := behP rs ms (ix.take i)) h6 (by
      unfold memsP
      rw [List.getElem?_map, List.getElem?_range (by omega)]
      rfl)
    obtain ⟨ca, rfl, hca⟩ := hc
    have tm := te_ixL (K := K) (v := .ref ca) (σ := [some (.ref x), some (.int (i : Int)), some y']) (te_fld (te_var (i := 0) rfl) (s2 _ _ h1) T.cl_Account T.no_Account__memories accF_3) (te_var (i := 1) rfl) (SqL.of (s2 _ _ h5)) (atI_nat ec)
    refine call_un (cons_un (trd.go (cons_un (tm.go (nil_un ⟨rd, ca, _, _, rfl, hrd', s2 _ _ hca, hrd _ (hA.inx.rc (List.mem_of_getElem? ej)), fun G2 s3 => ⟨_, s3 _ _ eL, ?_, Same.wr (s2.trans s3) hL, ?_⟩⟩)))))
    · rw [List.length_map, List.length_map, List.length_range, sizeLine_eq]
      have := hA.lix
      omega
    · rw [upd_same, List.range_succ, List.map_append, List.map_append]
      simp [ixAt_of ej]
  · rintro L H' hL ⟨s1, e1⟩
    rw [lios] at e1
    refine nil_un ⟨L, _, rfl, SqL.of e1, ?_⟩
    have e2 : ((List.range ix.length).map fun k => agP (rcAt rs (ixAt ix k)).rd (behP rs ms (ix.take k))).all id = agIn rs ms ix := by
      rw [List.all_map]
      rfl
    rw [e2]
    exact k _ s1
theorem timeOk_eq {rs : List Rc} {ix : List Int} : timeOk rs ix = (List.range (ix.length - 1)).all fun i => (ix.take (1 + i)).all fun j => decide ((rcAt rs j).bg ≤ (rcAt rs (ixAt ix (1 + i))).en) := by
  have key : (ix.Pairwise fun a b => (rcAt rs a).bg ≤ (rcAt rs b).en) ↔ ((List.range (ix.length - 1)).all fun i => (ix.take (1 + i)).all fun j => decide ((rcAt rs j).bg ≤ (rcAt rs (ixAt ix (1 + i))).en)) = true := by
    rw [List.pairwise_iff_getElem, List.all_eq_true]
    constructor
    · intro h i hi
      rw [List.all_eq_true]
      intro j hj
      have hi2 := List.mem_range.mp hi
      obtain ⟨t, ht⟩ := List.getElem?_of_mem hj
      rw [List.getElem?_take] at ht
      by_cases z : t < 1 + i
      · rw [if_pos z] at ht
        obtain ⟨h1, e1⟩ := List.getElem?_eq_some_iff.mp ht
        have h2 : 1 + i < ix.length := by omega
        have := h t (1 + i) h1 h2 z
        rw [ixAt_of (List.getElem?_eq_getElem h2), ← e1]
        exact decide_eq_true this
      · rw [if_neg z] at ht
        cases ht
    · intro h i j hi hj hij
      have h1 := h (j - 1) (List.mem_range.mpr (by omega))
      rw [List.all_eq_true] at h1
      have h2 := h1 ix[i] (List.mem_of_getElem? (i := i) (by rw [List.getElem?_take, if_pos (by omega), List.getElem?_eq_getElem hi]))
      rw [show 1 + (j - 1) = j by omega, ixAt_of (List.getElem?_eq_getElem hj)] at h2
      exact of_decide_eq_true h2
  unfold timeOk
  cases e : (List.range (ix.length - 1)).all fun i => (ix.take (1 + i)).all fun j => decide ((rcAt rs j).bg ≤ (rcAt rs (ixAt ix (1 + i))).en) with
  | true => exact decide_eq_true (key.mpr e)
  | false => exact decide_eq_false fun q => by rw [key.mp q] at e; cases e
theorem ok_Account_keeps_time (T : Txt K mg A) : FnOk P w K mg base CX0 1 A.a_Account_keeps_time A.d_Account_keeps_time ["self"] (spQ A K fun rs _ ix => timeOk rs ix) := by
  refine T.F_Account_keeps_time.ok sc_Account_keeps_time (fun vs H Q E ⟨_, _, _, _, e, _⟩ => by rw [e]; rfl) (fun cdv A' outer s H vs Q E hr h => ?_)
  obtain ⟨x, rs, ms, ix, rfl, hA, hrd, k⟩ := h
  refine ⟨_, pss_cons (ps_set (i := 1) sc_Account_keeps_time.nd rfl (Or.inr rfl) (pe_lc (own := [("record", 2)]) (g := gName 2) (tt := tYes) rfl sc_Account_keeps_time.nd (pi_list (pe_fld (pv 0) rfl)) (blkOk_by (N := ["self", "begun", "record", "k"]) (sc := defScope s_Account_keeps_time) (by decide +kernel)) (fun _ _ _ _ _ => pg_name (i := 2) sc_Account_keeps_time.nd rfl (Or.inl rfl)) (fun _ _ _ _ _ => pts_nil) (fun _ _ _ _ _ => (show PE _ _ (tFld K _ _) from pe_fld (pv 2) rfl))))
  (pss_one (ps_ret (pe_callB (cr_all rfl) (by rfl) T.n_all (by decide +kernel) (pa_cons (pe_lc (own := [("k", 3)]) (g := gName 3) (tt := tYes) rfl sc_Account_keeps_time.nd (pi_range2 (by rfl) T.n_range (pa_cons (pe_int) (pa_cons (pe_callB call_len_seq (by rfl) T.n_len (by decide +kernel) (pa_cons (pv 1) pa_nil)) pa_nil))) (blkOk_by (N := ["self", "begun", "record", "k"]) (sc := defScope s_Account_keeps_time) (by decide +kernel)) (fun _ _ _ _ _ => pg_name (i := 3) sc_Account_keeps_time.nd rfl (Or.inl rfl)) (fun _ _ _ _ _ => pts_nil) (fun _ _ _ _ _ => pe_cmpR op_ge ((show PE _ _ (tFld K _ _) from pe_fld (pe_ix (show IxR _ (rIxL K) from ix_list) ((show PE _ _ (tFld K _ _) from pe_fld (pv 0) rfl)) (pv 3) (fun _ _ => rfl)) rfl)) (pe_callB (show CallR _ _ (rMax K) from cr_max rfl) (by rfl) T.n_max (by decide +kernel) (pa_cons (pe_slice (show SlR _ (rSlL K) from sl_list) (pv 1) (po_none) (po_some (pv 3))) pa_nil)) (nomark _))) pa_nil)))), ?_⟩
  obtain ⟨dx, R, io, mm, nd, ios, mems, nds, h1, h2, h3, h4, h5, h6, h7, h8⟩ := hA.ex
  have lios : ios.length = ix.length := by
    have := paired_len h4
    rw [List.length_map] at this
    omega
  refine asg_un (lc_go (ti_list (te_fld (te_var rfl) h1 T.cl_Account T.no_Account__in_order accF_2) (SqL.of h3)) walk_list (fun L i H' => Same H H' ∧ H' L = some (.lst (((ix.take i).map fun j => (rcAt rs j).bg).map V.int))) (fun L hL => ⟨Same.upd hL, upd_same⟩) (fun L i H' _ h => SqL.of (h.1 _ _ h3)) ?_ ?_)
  · rintro L i y H1 H' hL hi ⟨s1, e1⟩ ⟨rfl, hy⟩
    obtain ⟨r, er, hr⟩ := paired_at h4 hy
    obtain ⟨j, ej, rfl⟩ := rc_at er
    refine name_go (σ' := [some (.ref x), none, some y, none]) rfl ⟨rfl, yes_go ?_⟩
    refine (te_begun (K := K) T (hr.mono s1) (te_var rfl)).go ⟨_, e1, ?_, Same.wr s1 hL, ?_⟩
    · rw [List.length_map, List.length_map, List.length_take, sizeLine_eq]
      have := hA.lix
      omega
    · rw [upd_same, List.take_add_one, ej, List.map_append, List.map_append]
      rfl
  rintro b H1 hb ⟨s1, e1⟩
  rw [lios, List.take_length] at e1
  try dsimp only
  refine ts_sl (σ' := [some (.ref x), some (.ref b), none, none]) rfl ?_
  have tl := te_len (K := K) (te := tVar 1) (σ := [some (.ref x), some (.ref b), none, none]) (te_var rfl) (.inl (SqL.of e1))
  rw [List.length_map, List.length_map] at tl
  have lix := hA.lix
  have ti := ti_rng2 (te_c (v := .int 1)) tl (by omega) (by omega)
  rw [show ((ix.length : Int) - 1).toNat = ix.length - 1 by omega] at ti
  refine ret_un (cb_un (cons_un (lc_go ti walk_range (fun L i H' => Same H1 H' ∧ H' L = some (.lst (((List.range i).map fun i => (ix.take (1 + i)).all fun j => decide ((rcAt rs j).bg ≤ (rcAt rs (ixAt ix (1 + i))).en)).map V.bl))) (fun L hL => ⟨Same.upd hL, upd_same⟩) (fun _ _ _ _ _ => trivial) ?_ ?_)))
  · rintro L i y H2 H' hL hi ⟨s2, e2⟩ ⟨rfl, rfl⟩
    refine name_go (σ' := [some (.ref x), some (.ref b), none, some (.int (1 + (i : Int)))]) rfl ⟨rfl, yes_go ?_⟩
    have hi2 : 1 + i < ix.length := by omega
    have ej : ix[1 + i]? = some ix[1 + i] := List.getElem?_eq_getElem hi2
    have eu : (ix.map (rcAt rs))[1 + i]? = some (rcAt rs ix[1 + i]) := by rw [List.getElem?_map, ej]; rfl
    obtain ⟨u, eu2, hu⟩ := paired_at2 h4 eu
    have s12 := s1.trans s2
    have tu := te_ended (K := K) (σ := [some (.ref x), some (.ref b), none, some (.int (1 + (i : Int)))]) T (hu.mono s12) (te_ixL (K := K) (te_fld (te_var (i := 0) rfl) (s12 _ _ h1) T.cl_Account T.no_Account__in_order accF_2) (te_var (i := 3) rfl) (SqL.of (s12 _ _ h3)) (atI_int (by omega) (by rw [show (1 + (i : Int)).toNat = 1 + i by omega]; exact eu2)))
    have tn : Te (tVar 3) [some (.ref x), some (.ref b), none, some (.int (1 + (i : Int)))] H' (.int ((1 + i : Nat) : Int)) := te_var (by simp)
    refine op_un (tu.go (cb_un (cons_un ((tn_take (te_var rfl) tn (SqL.of (s2 _ _ e1))).go fun q hq => nil_un ⟨q, (ix.map fun j => (rcAt rs j).bg).take (1 + i), rfl, SqL.of (by rw [upd_same, List.map_take]), ?_, fun M hM hx => ⟨_, _, rfl, rfl, ?_⟩⟩))))
    · rw [List.length_take, List.length_map]
      omega
    · have nqL : L ≠ q := ne_of_none e2 hq
      refine ⟨_, by rw [upd_ne nqL]; exact e2, ?_, Same.wr (s2.trans (Same.upd hq)) hL, ?_⟩
      · rw [List.length_map, List.length_map, List.length_range, sizeLine_eq]
        omega
      · rw [upd_same, List.range_succ, List.map_append, List.map_append]
        have e5 : ((ix.take (1 + i)).all fun j => decide ((rcAt rs j).bg ≤ (rcAt rs (ixAt ix (1 + i))).en)) = decide (M ≤ (rcAt rs ix[1 + i]).en) := by
          rw [ixAt_of ej]
          rw [← List.map_take] at hM hx
          by_cases z : M ≤ (rcAt rs ix[1 + i]).en
          · rw [decide_eq_true z, List.all_eq_true]
            intro j hj
            have := hx _ (List.mem_map.mpr ⟨j, hj, rfl⟩)
            exact decide_eq_true (by omega)
          · rw [decide_eq_false z, List.all_eq_false]
            obtain ⟨j, hj, ejM⟩ := List.mem_map.mp hM
            exact ⟨j, hj, by rw [decide_eq_true_iff]; omega⟩
        simp [e5]
  · rintro L H2 hL ⟨s2, e2⟩
    refine nil_un ⟨L, _, rfl, SqL.of e2, ?_⟩
    have e3 : ((List.range (ix.length - 1)).map fun i => (ix.take (1 + i)).all fun j => decide ((rcAt rs j).bg ≤ (rcAt rs (ixAt ix (1 + i))).en)).all id = timeOk rs ix := by
      rw [List.all_map, timeOk_eq]
      rfl
    rw [e3]
    exact k _ (s1.trans s2)
end
end O43

namespace O43
open PySem L2 YF
def othTo (rs : List Rc) (i : Nat) : List Int := ((List.range i).filter fun k => !dnAt rs k).map fun k : Nat => (k : Int)
theorem othTo_succ {rs : List Rc} {i : Nat} : othTo rs (i + 1) = othTo rs i ++ (if dnAt rs i = false then [(i : Int)] else []) := by
  unfold othTo
  rw [List.range_succ, List.filter_append, List.map_append]
  congr 1
  cases h : dnAt rs i with
  | true => simp [h]
  | false => simp [h]
theorem othTo_len {rs : List Rc} {i : Nat} : (othTo rs i).length ≤ i := by
  unfold othTo
  rw [List.length_map]
  exact Nat.le_trans (List.length_filter_le _ (List.range i)) (by rw [List.length_range]; exact Nat.le_refl _)
theorem othTo_mem {rs : List Rc} {i : Nat} {j : Int} (h : j ∈ othTo rs i) : ∃ k : Nat, j = k ∧ k < i := by
  unfold othTo at h
  obtain ⟨k, h1, h2⟩ := List.mem_map.mp h
  exact ⟨k, h2.symm, List.mem_range.mp (List.mem_filter.mp h1).1⟩
theorem allP_eq {rs : List Rc} {ms ix : List Int} : ((othTo rs rs.length).all fun j => !(pst rs ms ix (rcAt rs j)).isEmpty) = allP rs ms ix := by
  unfold allP othTo
  rw [List.all_map, List.all_filter]
  congr 1
  funext k
  cases dnAt rs k <;> simp
section
variable {P : Program} {w : World} {K : PySem.W.Frag} {mg : Str → Option Value} {base : Heap} {A : Adr}
def spAHP (A : Adr) (K : PySem.W.Frag) : Sp := fun vs H Q _ => ∃ (x l : Addr) (rs : List Rc) (ms ix js : List Int), vs = [.ref x, .ref l] ∧ AccAt A K H x rs ms ix ∧ ix.Nodup ∧ H l = some (.lst (js.map V.int)) ∧ InIx rs js ∧ js.length ≤ 1000 ∧ (∀ r ∈ rs, r.rd.length ≤ 1000) ∧ ∀ H', Same H H' → Q (.bl (js.all fun j => !(pst rs ms ix (rcAt rs j)).isEmpty)) H'
theorem ok_Account_all_have_pasts (T : Txt K mg A) : FnOk P w K mg base CX0 3 A.a_Account_all_have_pasts A.d_Account_all_have_pasts ["self", "indexes"] (spAHP A K) := by
  refine T.F_Account_all_have_pasts.ok sc_Account_all_have_pasts (fun vs H Q E ⟨_, _, _, _, _, _, e, _⟩ => by rw [e]; rfl) (fun cdv A' outer s H vs Q E hr h => ?_)
  obtain ⟨x, l, rs, ms, ix, js, rfl, hA, hnd, hl, hjs, ljs, hrd, k⟩ := h
  refine ⟨_, pss_one (ps_ret (pe_callB (cr_all rfl) (by rfl) T.n_all (by decide +kernel) (pa_cons (pe_lc (own := [("index", 2)]) (g := gName 2) (tt := tYes) rfl sc_Account_all_have_pasts.nd (pi_list (pv 1)) (blkOk_by (N := ["self", "indexes", "index"]) (sc := defScope s_Account_all_have_pasts) (by decide +kernel)) (fun _ _ _ _ _ => pg_name (i := 2) sc_Account_all_have_pasts.nd rfl (Or.inl rfl)) (fun _ _ _ _ _ => pts_nil) (fun _ _ _ _ _ => pe_cmpR op_gt (pe_callB (show CallR _ _ (rLenS K) from call_len_seq) (by rfl) T.n_len (by decide +kernel) (pa_cons (pe_meth (pv 0) T.cl_Account T.m_Account_pasts_of (ok_Account_pasts_of T) (hr.mono (by decide)) T.b_Account_pasts_of .nil pass0 (pa_cons (pv 2) pa_nil)) pa_nil)) (pe_int) (nomark _))) pa_nil))), ?_⟩
  refine ret_un (cb_un (cons_un (lc_go (ti_list (te_var rfl) (SqL.of hl)) walk_list (fun L i H' => Same H H' ∧ H' L = some (.lst (((js.take i).map fun j => !(pst rs ms ix (rcAt rs j)).isEmpty).map V.bl))) (fun L hL => ⟨Same.upd hL, upd_same⟩) (fun L i H' _ h => SqL.of (h.1 _ _ hl)) ?_ ?_)))
  · rintro L i y H1 H' hL hi ⟨s1, e1⟩ ⟨rfl, hy⟩
    obtain ⟨j, ej, rfl⟩ := map_at hy
    obtain ⟨j0, j1⟩ := hjs j (List.mem_of_getElem? ej)
    obtain ⟨n, rfl⟩ : ∃ n : Nat, j = (n : Int) := ⟨j.toNat, by omega⟩
    have hn : n < rs.length := by omega
    have er : rs[n]? = some rs[n] := List.getElem?_eq_getElem hn
    have ek : rcAt rs (n : Int) = rs[n] := rcAt_of er
    refine name_go (σ' := [some (.ref x), some (.ref l), some (.int (n : Int))]) rfl ⟨rfl, yes_go ?_⟩
    have hA1 := hA.mono s1
    obtain ⟨dx, R, io, mm, nd, ios, mems, nds, h1, _⟩ := id hA1.ex
    refine op_un (cb_un (cons_un (meth_un ((te_var rfl).go ⟨x, dx, _, rfl, h1, accF_no (by decide +kernel) (by decide +kernel) (by decide +kernel) (by decide +kernel), cons_un ((te_var rfl).go (nil_un ⟨x, rs, ms, ix, rs[n], n, rfl, hA1, hnd, er, hrd _ (List.getElem_mem hn), fun v G s2 hv e2 => nil_un ⟨v, _, rfl, .inl (SqL.of e2), te_c.go ⟨_, _, rfl, rfl, _, s2 _ _ e1, ?_, Same.wr (s1.trans s2) hL, ?_⟩⟩⟩))⟩))))
    · rw [List.length_map, List.length_map, List.length_take, sizeLine_eq]
      omega
    · rw [upd_same, List.take_add_one, ej, List.map_append, List.map_append]
      rw [List.length_map]
      have e3 : decide ((((pst rs ms ix rs[n]).length : Nat) : Int) > 0) = !(pst rs ms ix rs[n]).isEmpty := by
        cases pst rs ms ix rs[n] with
        | nil => rfl
        | cons a t =>
          rw [decide_eq_true (by rw [List.length_cons]; omega)]
          rfl
      show some (HO.lst (_ ++ [V.bl (decide ((((pst rs ms ix rs[n]).length : Nat) : Int) > 0))])) = some (HO.lst (_ ++ [V.bl (!(pst rs ms ix (rcAt rs (n : Int))).isEmpty)]))
      rw [e3, ek]
  · rintro L H' hL ⟨s1, e1⟩
    rw [List.length_map, List.take_length] at e1
    refine nil_un ⟨L, _, rfl, SqL.of e1, ?_⟩
    have e2 : (js.map fun j => !(pst rs ms ix (rcAt rs j)).isEmpty).all id = js.all fun j => !(pst rs ms ix (rcAt rs j)).isEmpty := by
      rw [List.all_map]
      rfl
    rw [e2]
    exact k _ s1
/-! ### is_order -/
def spIsOrder (A : Adr) (K : PySem.W.Frag) : Sp := fun vs H Q _ => ∃ (m R o : Addr) (rs : List Rc) (ms ix : List Int), vs = [.ref m, .ref R, .ref o] ∧ H m = some (.lst (ms.map V.int)) ∧ RecsIn A H R rs ∧ H o = some (.lst (ix.map V.int)) ∧ ix.length < 64 ∧ ms.length ≤ 1000 ∧ (∀ r ∈ rs, r.rd.length ≤ 1000) ∧ ∀ H', Same H H' → Q (.bl (isO rs ms ix)) H'
theorem meth0_go {C x dx : Addr} {m : Str} {sp : Sp} {E : XK} {σ : L2.St} {H : Hp} {te : TE} {Q : VK} {fs : List (Str × V)} (t : Te te σ H (.ref x)) (h : H x = some (.ins C dx fs)) (l : fs.lookup m = none) (k : sp [.ref x] H Q E) : tMeth C m sp [] E te tNil σ H Q := meth_un (t.go ⟨x, dx, fs, rfl, h, l, nil_un k⟩)
theorem andv_b {σ : L2.St} {H : Hp} {tb : TE} {Q : VK} {c : Bool} (h1 : c = true → tb σ H Q) (h2 : c = false → Q (.bl false) H) : ∃ c' : Bool, V.bl c = .bl c' ∧ if c' = true then tb σ H Q else Q (.bl false) H := ⟨c, rfl, by
  cases c with
  | true => exact h1 rfl
  | false => exact h2 rfl⟩
theorem ok_is_order (T : Txt K mg A) : FnOk P w K mg base CX0 4 A.a_is_order A.d_is_order ["memory", "records", "order"] (spIsOrder A K) := by
  refine T.F_is_order.ok sc_is_order (fun vs H Q E ⟨_, _, _, _, _, _, e, _⟩ => by rw [e]; rfl) (fun cdv A' outer s H vs Q E hr h => ?_)
  obtain ⟨m, R, o, rs, ms, ix, rfl, hm, hR, ho, lix, lms, hrd, k⟩ := h
  refine ⟨_, pss_cons (ps_if (pt_cmpR (op_neD hr.units) (pe_callB cr_sorted (by rfl) T.n_sorted (by decide +kernel) (pa_cons (pv 2) pa_nil)) (pe_call (ok_done T) (hr.mono (by decide)) rfl T.g__done T.F__done.kp T.b__done .nil pass0 (pa_cons (pv 1) pa_nil)) (nomark _))
  (pss_one (ps_ret (pe_bl)))
  (pss_nil))
  (pss_cons (ps_set (i := 3) sc_is_order.nd rfl (Or.inl rfl) (pe_make T.mk_Account (ok_Account___init__ T) (hr.mono (by decide)) rfl T.g_Account T.b_Account___init__ .nil pass0 (pa_cons (pv 0) (pa_cons (pv 1) (pa_cons (pv 2) pa_nil)))))
  (pss_cons (ps_setLc (i := 4) (own := [("at", 5), ("record", 6)]) (g := gTup K 2 (gCons (gName 5) (gCons (gName 6) gNil))) rfl sc_is_order.nd rfl rfl (sw_true rfl rfl rfl (by decide +kernel)) (pi_enum (by rfl) T.n_enumerate (pa_cons (pv 1) pa_nil)) (blkOk_by (N := ["memory", "records", "order", "account", "others", "at", "record"]) (sc := defScope s_is_order) (by decide +kernel)) (fun _ _ _ _ _ => pg_tup (by rfl) (pgs_cons (pg_name (i := 5) sc_is_order.nd rfl (Or.inl rfl)) (pgs_cons (pg_name (i := 6) sc_is_order.nd rfl (Or.inl rfl)) pgs_nil))) (fun _ _ _ _ _ => pts_one (pt_cmpR op_ne ((show PE _ _ (tFld K _ _) from pe_fld (pv 6) rfl)) (pe_str) (nomark _))) (fun _ _ _ _ _ => pv 5))
  (pss_one (ps_ret (pe_and (pe_meth0 (pv 3) T.cl_Account T.m_Account_agrees_in_order (ok_Account_agrees_in_order T) (hr.mono (by decide)) T.b_Account_agrees_in_order .nil pass0) (pe_and (pe_meth0 (pv 3) T.cl_Account T.m_Account_keeps_time (ok_Account_keeps_time T) (hr.mono (by decide)) T.b_Account_keeps_time .nil pass0) (pe_one (pe_meth (pv 3) T.cl_Account T.m_Account_all_have_pasts (ok_Account_all_have_pasts T) (hr.mono (by decide)) T.b_Account_all_have_pasts .nil pass0 (pa_cons (pv 4) pa_nil))))))))), ?_⟩
  refine sq_go (iff_un (show tTest _ _ _ _ from op_un (cb_un (cons_un ((te_var rfl).go (nil_un ⟨o, ix, rfl, SqL.of ho, lix, fun ns q pm so hq => ?_⟩))))))
  have s1 : Same H (upd H q (.lst (ns.map V.int))) := Same.upd hq
  have e1 : (upd H q (.lst (ns.map V.int))) q = some (.lst (ns.map V.int)) := upd_same
  generalize upd H q (HO.lst (ns.map V.int)) = H1 at s1 e1 ⊢
  refine call_un (cons_un ((te_var rfl).go (nil_un ⟨R, rs, rfl, hR.mono s1, fun d H2 s2 hd e2 => neI_un (s2 _ _ e1) e2 ⟨_, rfl, ?_⟩⟩)))
  have s12 := s1.trans s2
  have eD := sorted_iff (rs := rs) pm so
  by_cases hz : ns = doneP rs
  · dsimp only
    rw [decide_eq_true hz, Bool.not_true, if_neg (by simp)]
    rw [decide_eq_true hz] at eD
    have pmx : ix.Perm (doneP rs) := of_decide_eq_true eD.symm
    have hinx : InIx rs ix := fun i hi => by
      obtain ⟨k, rfl, hk, _⟩ := doneP_mem (pmx.mem_iff.mp hi)
      omega
    have hnod : ix.Nodup := pmx.nodup_iff.mpr doneP_nodup
    have eO : isO rs ms ix = (agIn rs ms ix && (timeOk rs ix && allP rs ms ix)) := by
      unfold isO
      rw [← eD, Bool.true_and]
    try dsimp only [tNext]
    -- the account
    refine asg_un (go_make (vs := [.ref m, .ref R, .ref o]) (ta_cons (te_var rfl) (ta_cons (te_var rfl) (ta_cons (te_var rfl) ta_nil))) fun x dx hx hdx ne => ?_)
    have s3 : Same H2 (upd (upd H2 dx (.own x)) x (.ins A.a_Account dx [])) := (Same.upd hdx).trans (Same.upd (by rw [upd_ne ne.symm]; exact hx))
    refine ⟨x, dx, m, R, o, rs, ms, ix, rfl, upd_same, s3 _ _ (s12 _ _ hm), (hR.mono s12).mono s3, s3 _ _ (s12 _ _ ho), hnod, hinx, by omega, lms, fun H3 s4 hA => ⟨rfl, ?_⟩⟩
    have s23 : Same H2 H3 := fun b u e => s4 b u (by simpa using ne_of_none e hx) (s3 b u e)
    have sH := s12.trans s23
    try dsimp only
    refine ts_sl (σ' := [some (.ref m), some (.ref R), some (.ref o), some (.ref x), none, none, none]) rfl ?_
    -- the others
    obtain ⟨us, q1, q2, q3⟩ := id (hR.mono sH)
    have lu : us.length = rs.length := (paired_len q2).symm
    refine asg_un (lc_go (ti_enum (te_var rfl) (SqL.of q1)) walk_enum (fun L i H' => Same H3 H' ∧ H' L = some (.lst ((othTo rs i).map V.int))) (fun L hL => ⟨Same.upd hL, upd_same⟩) (fun L i H' _ h => SqL.of (h.1 _ _ q1)) ?_ ?_)
    · rintro L i y G0 G hL hi ⟨s5, e5⟩ ⟨T0, x', y', rfl, hT, rfl, hx', hy⟩
      obtain rfl := (Option.some.inj hx').symm
      obtain ⟨r, er, hr1⟩ := paired_at q2 hy
      have nT : T0 ≠ L := fun z => by rw [z, e5] at hT; cases hT
      have s6 : Same H3 (upd G0 T0 (.tup [.int (i : Int), y'])) := s5.trans (Same.upd hT)
      have eL : (upd G0 T0 (.tup [.int (i : Int), y'])) L = G0 L := upd_ne nT.symm
      rw [e5] at eL
      refine pair_go upd_same ⟨rfl, tt_sl (σ' := [some (.ref m), some (.ref R), some (.ref o), some (.ref x), none, some (.int (i : Int)), some y']) rfl ?_⟩
      refine (tt_test (te_ne (te_kind (K := K) T (hr1.mono s6) (te_var rfl)) te_c rfl)).go ?_
      have ed : dnAt rs i = r.dn := by
        unfold dnAt
        rw [er]
      have es : othTo rs (i + 1) = othTo rs i ++ (if r.dn = false then [(i : Int)] else []) := by rw [othTo_succ, ed]
      by_cases hd : r.kd = "done"
      · have h2 : r.dn = true := decide_eq_true hd
        rw [h2, if_neg (by simp), List.append_nil] at es
        rw [decide_eq_true (by rw [hd]), Bool.not_true, if_neg (by simp)]
        exact ⟨s6, by rw [es]; exact eL⟩
      · have h2 : r.dn = false := decide_eq_false hd
        rw [h2, if_pos rfl] at es
        rw [decide_eq_false (fun z => hd (V.str.inj z)), Bool.not_false, if_pos rfl]
        refine (te_var (v := .int (i : Int)) rfl).go ⟨_, eL, ?_, Same.wr s6 hL, by rw [upd_same, es, List.map_append]; rfl⟩
        have := othTo_len (rs := rs) (i := i)
        rw [List.length_map, sizeLine_eq]
        omega
    rintro oth G hoth ⟨s5, e5⟩
    rw [lu] at e5
    try dsimp only
    refine ts_sl (σ' := [some (.ref m), some (.ref R), some (.ref o), some (.ref x), some (.ref oth), none, none]) rfl ?_
    have hAG := hA.mono s5
    have acc : ∀ {G' : Hp}, Same G G' → ∃ dx R io mm nd, G' x = some (.ins A.a_Account dx (accF R io mm nd)) := fun s => by
      obtain ⟨dx, R, io, mm, nd, _, _, _, h1, _⟩ := (hAG.mono s).ex
      exact ⟨dx, R, io, mm, nd, h1⟩
    have noM : ∀ {R io mm nd : Addr} {m : Str}, (m == ("_records" : Str)) = false → (m == ("_in_order" : Str)) = false → (m == ("_memories" : Str)) = false → (m == ("_needs" : Str)) = false → (accF R io mm nd).lookup m = none := fun a b c d => accF_no a b c d
    obtain ⟨dx1, R1, io1, mm1, nd1, h1⟩ := acc (Same.refl G)
    refine ret_un (andv_un (meth0_go (te_var rfl) h1 (noM (by decide +kernel) (by decide +kernel) (by decide +kernel) (by decide +kernel)) ⟨x, rs, ms, ix, rfl, hAG, hrd, fun G1 t1 => andv_b (fun c1 => ?_) fun c1 => ?_⟩))
    · obtain ⟨dx2, R2, io2, mm2, nd2, h2⟩ := acc t1
      refine andv_un (meth0_go (te_var rfl) h2 (noM (by decide +kernel) (by decide +kernel) (by decide +kernel) (by decide +kernel)) ⟨x, rs, ms, ix, rfl, hAG.mono t1, hrd, fun G2 t2 => andv_b (fun c2 => ?_) fun c2 => ?_⟩)
      · obtain ⟨dx3, R3, io3, mm3, nd3, h3⟩ := acc (t1.trans t2)
        refine meth_un ((te_var rfl).go ⟨x, dx3, _, rfl, h3, noM (by decide +kernel) (by decide +kernel) (by decide +kernel) (by decide +kernel), cons_un ((te_var rfl).go (nil_un ⟨x, oth, rs, ms, ix, _, rfl, hAG.mono (t1.trans t2), hnod, (t1.trans t2) _ _ e5, fun j hj => ?_, ?_, hrd, fun G3 t3 => ?_⟩))⟩)
        · obtain ⟨kk, rfl, hk⟩ := othTo_mem hj
          omega
        · exact Nat.le_trans othTo_len q3
        · rw [allP_eq]
          have q := k G3 (((sH.trans s5).trans (t1.trans t2)).trans t3)
          have c2' : timeOk rs ix = true := c2
          rw [eO, c1, c2', Bool.true_and, Bool.true_and] at q
          exact q
      · have q := k G2 ((sH.trans s5).trans (t1.trans t2))
        have c2' : timeOk rs ix = false := c2
        rw [eO, c1, c2'] at q
        exact q
    · have q := k G1 ((sH.trans s5).trans t1)
      rw [eO, c1] at q
      exact q
  · dsimp only
    rw [decide_eq_false hz, Bool.not_false, if_pos rfl]
    rw [decide_eq_false hz] at eD
    have eO : isO rs ms ix = false := by
      unfold isO
      rw [← eD, Bool.false_and]
    refine ret_te te_c ?_
    have q := k H2 s12
    rw [eO] at q
    exact q
end
end O43

set_option linter.all false
set_option maxHeartbeats 2000000
/-! a dict whose keys are tuples of three tuples of ints (what is looked up and noted) -/
namespace YF
open PySem PySem.Spec PyProof.Rows L2
abbrev Tr3 := List Int × List Int × List Int
def nkL (l : List Int) : NestedKey := .tup (l.map .num)
def nk (t : Tr3) : NestedKey := .tup [nkL t.1, nkL t.2.1, nkL t.2.2]
theorem nkL_inj {a b : List Int} (h : nkL a = nkL b) : a = b := by
  unfold nkL at h
  injection h with h
  induction a generalizing b with
  | nil => cases b with
    | nil => rfl
    | cons y b => cases h
  | cons x a ih => cases b with
    | nil => cases h
    | cons y b =>
      obtain ⟨h1, h2⟩ := List.cons.inj h
      injection h1 with h1
      rw [h1, ih h2]
theorem nk_inj {a b : Tr3} (h : nk a = nk b) : a = b := by
  obtain ⟨a1, a2, a3⟩ := a
  obtain ⟨b1, b2, b3⟩ := b
  unfold nk at h
  injection h with h
  injection h with h1 h
  injection h with h2 h
  injection h with h3 h
  have e1 : a1 = b1 := nkL_inj h1
  have e2 : a2 = b2 := nkL_inj h2
  have e3 : a3 = b3 := nkL_inj h3
  rw [e1, e2, e3]
def TrAt (H : Hp) (b : Addr) (t : Tr3) : Prop := ∃ b1 b2 b3, H b = some (.tup [.ref b1, .ref b2, .ref b3]) ∧ H b1 = some (.tup (t.1.map V.int)) ∧ H b2 = some (.tup (t.2.1.map V.int)) ∧ H b3 = some (.tup (t.2.2.map V.int))
def MemO (P : Program) (w : World) (a : Addr) (xs : List (NestedKey × Addr × Value)) : HO := .ext fun h => ∃ o es ep, h.get? a = some o ∧ o.ExactDict ∧ o.data = .dict es ep ∧ es.toList = xs.map (entryOfKey (nestedKind P w))
def MemAt (P : Program) (w : World) (H : Hp) (a : Addr) (S : List Tr3) : Prop := (a == sysModules) = false ∧ ∃ xs, H a = some (MemO P w a xs) ∧ xs.map (·.1) = S.map nk ∧ (∀ x ∈ xs, ∃ t, x.1 = nk t ∧ TrAt H x.2.1 t) ∧ S.Nodup
theorem TrAt.mono {H H' : Hp} {b : Addr} {t : Tr3} (h : TrAt H b t) (s : ∀ c xs, H c = some (.tup xs) → H' c = some (.tup xs)) : TrAt H' b t := by
  obtain ⟨b1, b2, b3, e, e1, e2, e3⟩ := h
  exact ⟨b1, b2, b3, s _ _ e, s _ _ e1, s _ _ e2, s _ _ e3⟩
theorem MemAt.mono {P : Program} {w : World} {H H' : Hp} {a : Addr} {S : List Tr3} (h : MemAt P w H a S) (s : ∀ c u, H c = some u → H' c = some u) : MemAt P w H' a S := by
  obtain ⟨h0, xs, h1, h2, h3, h4⟩ := h
  refine ⟨h0, xs, s _ _ h1, h2, fun x hx => ?_, h4⟩
  obtain ⟨t, e, q⟩ := h3 x hx
  exact ⟨t, e, q.mono fun c ys e => s _ _ e⟩
section
variable {P : Program} {w : World}
theorem memO_ok {H : Hp} {h : Heap} {a : Addr} {xs : List (NestedKey × Addr × Value)} {o : Obj} {es : Array DictEntry} {ep : Nat} (e1 : h.get? a = some o) (e2 : o.ExactDict) (e3 : o.data = .dict es ep) (e4 : es.toList = xs.map (entryOfKey (nestedKind P w))) : ObjOk P w H h a (MemO P w a xs) :=
  ⟨⟨o, es, ep, e1, e2, e3, e4⟩, ⟨o, e1⟩, fun h1 h2 ⟨o, es, ep, q, r⟩ k => ⟨o, es, ep, k _ q, r⟩⟩
end
section
variable {X : Cx} {pins : List (Addr × Obj)} {σ : L2.St} {H : Hp} {s : Shared}
theorem nks_all {h : Heap} : ∀ {l : List Int} {us : List Value}, Vals (l.map V.int) us → NestedAll h (l.map .num) us
  | [], _, r => by
    cases r
    exact .nil
  | i :: l, _, r => by
    cases r with
    | cons a b =>
      obtain ⟨t, rfl⟩ := a
      exact .cons (.int i t) (nks_all b)
theorem nkL_at (I : Inv X pins σ H s) {b : Addr} {l : List Int} (e : H b = some (.tup (l.map V.int))) : NestedIs s.heap (nkL l) (.ref b) := by
  obtain ⟨_, its, r, o, h1, h2, n, h3⟩ := (show ObjOk X.prog X.w H s.heap b (.tup (l.map V.int)) from I.hok b _ e)
  exact .tup h1 h2 h3 (by simpa using nks_all r)
theorem nk_depL (l : List Int) : (nkL l).depth ≤ 2 := by
  have h : ∀ l : List Int, NestedKey.depthAll (l.map .num) ≤ 1 := fun l => by
    induction l with
    | nil => simp [NestedKey.depthAll]
    | cons a r ih =>
      simp only [List.map_cons, NestedKey.depthAll, NestedKey.depth]
      omega
  have := h l
  simp only [nkL, NestedKey.depth]
  omega
theorem nk_at (I : Inv X pins σ H s) {b : Addr} {t : Tr3} (e : TrAt H b t) : (nestedKind X.prog X.w).is s.heap (nk t) b := by
  obtain ⟨b1, b2, b3, e0, e1, e2, e3⟩ := e
  obtain ⟨_, its, r, o, h1, h2, n, h3⟩ := (show ObjOk X.prog X.w H s.heap b (.tup [.ref b1, .ref b2, .ref b3]) from I.hok b _ e0)
  cases r with
  | cons r1 r =>
    cases r with
    | cons r2 r =>
      cases r with
      | cons r3 r =>
        cases r
        cases r1
        cases r2
        cases r3
        refine ⟨.tup h1 h2 h3 (.cons (nkL_at I e1) (.cons (nkL_at I e2) (.cons (nkL_at I e3) .nil))), ?_⟩
        have d1 := nk_depL t.1
        have d2 := nk_depL t.2.1
        have d3 := nk_depL t.2.2
        simp only [nk, NestedKey.depth, NestedKey.depthAll]
        omega
theorem mem_keyed (I : Inv X pins σ H s) {a : Addr} {S : List Tr3} (m : MemAt X.prog X.w H a S) : ∃ xs, H a = some (MemO X.prog X.w a xs) ∧ s.heap.DictOfH (nestedKind X.prog X.w) a xs ∧ xs.map (·.1) = S.map nk := by
  obtain ⟨h0, xs, h1, h2, h3, h4⟩ := m
  obtain ⟨⟨o, es, ep, q1, q2, q3, q4⟩, _, _⟩ := (show ObjOk X.prog X.w H s.heap a (MemO X.prog X.w a xs) from I.hok a _ h1)
  refine ⟨xs, h1, ⟨o, es, ep, q1, q2, q3, q4, fun x hx => ?_, ?_⟩, h2⟩
  · obtain ⟨t, e, q⟩ := h3 x hx
    rw [e]
    exact nk_at I q
  · rw [h2]
    exact List.Pairwise.map _ (fun a b n e => n (nk_inj e)) h4
theorem val_some {xs : List (NestedKey × Addr × Value)} {S : List Tr3} (h : xs.map (·.1) = S.map nk) (t : Tr3) : (valueAt (pairsH xs) (nk t)).isSome = decide (t ∈ S) := by
  rw [valueAt_pairsH, Option.isSome_map]
  have e : (atKey xs (nk t)).isSome = xs.any fun x => decide (x.1 = nk t) := by
    unfold atKey
    induction xs generalizing S with
    | nil => rfl
    | cons x xs ih =>
      cases S with
      | nil => cases h
      | cons u S =>
        have h2 := (List.cons.inj h).2
        by_cases z : x.1 = nk t
        · simp [z]
        · simpa [z] using ih h2
  rw [e]
  have e2 : (xs.any fun x => decide (x.1 = nk t)) = ((xs.map (·.1)).any fun k => decide (k = nk t)) := by
    rw [List.any_map]
    rfl
  rw [e2, h, List.any_map, Bool.eq_iff_iff, List.any_eq_true, decide_eq_true_iff]
  constructor
  · rintro ⟨u, hu, e3⟩
    have := nk_inj (of_decide_eq_true e3)
    rw [← this]
    exact hu
  · exact fun hu => ⟨t, hu, decide_eq_true rfl⟩
/-- t in d -/
def rMemIn (P : Program) (w : World) : R2 := fun x y H Q => ∃ b a t S, x = .ref b ∧ y = .ref a ∧ TrAt H b t ∧ MemAt P w H a S ∧ Q (.bl (decide (t ∈ S))) H
theorem op_memIn (hu : X.A.units + 64 < cLine) : OpR X (compareOp .In) (rMemIn X.prog X.w) := by
  intro pins s σ H x y v u Q I rx ry h
  obtain ⟨b, a, t, S, rfl, rfl, ht, m, q⟩ := h
  cases (show v = Value.ref b from rx)
  cases (show u = Value.ref a from ry)
  obtain ⟨xs, h1, h2, h3⟩ := mem_keyed I m
  refine in_keyed (knd := nestedKind X.prog X.w) (by show X.A.units + 1 + 8 < cLine; omega) (nk_at I ht) m.1 ⟨xs, h2, rfl⟩ ?_
  rw [val_some h3]
  exact ⟨.bl _, H, I.tok _, rfl, q⟩
theorem len_keys {xs : List (NestedKey × Addr × Value)} {S : List Tr3} (h : xs.map (·.1) = S.map nk) : xs.length = S.length := by
  have := congrArg List.length h
  rw [List.length_map, List.length_map] at this
  exact this
/-- t is noted -/
def putT (S : List Tr3) (t : Tr3) : List Tr3 := if t ∈ S then S else S ++ [t]
theorem mem_putT {S : List Tr3} {t u : Tr3} : u ∈ putT S t ↔ u ∈ S ∨ u = t := by
  unfold putT
  by_cases h : t ∈ S
  · rw [if_pos h]
    exact ⟨.inl, fun q => q.elim id fun e => by rw [e]; exact h⟩
  · rw [if_neg h, List.mem_append, List.mem_singleton]
theorem len_putT {S : List Tr3} {t : Tr3} : (putT S t).length ≤ S.length + 1 := by
  unfold putT
  by_cases h : t ∈ S
  · rw [if_pos h]
    omega
  · rw [if_neg h, List.length_append]
    exact Nat.le_refl _
theorem keys_stored {xs : List (NestedKey × Addr × Value)} {S : List Tr3} (h : xs.map (·.1) = S.map nk) {t : Tr3} {b : Addr} {u : Value} : (storedH xs (nk t) b u).map (·.1) = (putT S t).map nk := by
  have e : (atKey xs (nk t)).isSome = decide (t ∈ S) := by rw [← val_some h, valueAt_pairsH, Option.isSome_map]
  unfold storedH putT
  rw [e]
  by_cases z : t ∈ S
  · rw [decide_eq_true z, if_pos rfl, if_pos z, List.map_map, ← h]
    refine List.map_congr_left fun x _ => ?_
    show (putAt (nk t) u x).1 = x.1
    unfold putAt
    by_cases q : x.1 = nk t
    · rw [if_pos q]
    · rw [if_neg q]
  · rw [decide_eq_false z, if_neg (by decide), if_neg z, List.map_append, List.map_append, h]
    rfl
theorem at_stored {H : Hp} {xs : List (NestedKey × Addr × Value)} {t : Tr3} {b : Addr} {u : Value} (h : ∀ x ∈ xs, ∃ t, x.1 = nk t ∧ TrAt H x.2.1 t) (hb : TrAt H b t) : ∀ x ∈ storedH xs (nk t) b u, ∃ t, x.1 = nk t ∧ TrAt H x.2.1 t := fun x hx => by
  unfold storedH at hx
  split at hx
  · obtain ⟨y, hy, rfl⟩ := List.mem_map.mp hx
    unfold putAt
    by_cases q : y.1 = nk t
    · rw [if_pos q]
      exact h y hy
    · rw [if_neg q]
      exact h y hy
  · rcases List.mem_append.mp hx with q | q
    · exact h x q
    · rw [List.mem_singleton.mp q]
      exact ⟨t, rfl, hb⟩
theorem nodup_putT {S : List Tr3} {t : Tr3} (h : S.Nodup) : (putT S t).Nodup := by
  unfold putT
  by_cases z : t ∈ S
  · rw [if_pos z]
    exact h
  · rw [if_neg z, List.nodup_append]
    exact ⟨h, by simp, fun a ha b hb e => z (by rw [List.mem_singleton] at hb; rw [← hb, ← e]; exact ha)⟩
/-- d[t] = v -/
def rMemPut (P : Program) (w : World) : TSet := fun o i v H Q => ∃ b a t S, o = .ref a ∧ i = .ref b ∧ TrAt H b t ∧ MemAt P w H a S ∧ S.length < 16000000 ∧ ∀ H', (∀ c, c ≠ a → H' c = H c) → MemAt P w H' a (putT S t) → Q H'
theorem set_mem (hu : X.A.units + 64 < cLine) : PSet X (rMemPut X.prog X.w) := by
  intro pins s σ H o i v ov iv u Q I ro ri rv h
  obtain ⟨b, a, t, S, rfl, rfl, ht, m, hl, q⟩ := h
  cases (show ov = Value.ref a from ro)
  cases (show iv = Value.ref b from ri)
  obtain ⟨h0, xs0, g1, g2, g3, g4⟩ := m
  obtain ⟨xs, h1, h2, h3⟩ := mem_keyed I ⟨h0, xs0, g1, g2, g3, g4⟩
  have sz : xs0.length ≤ sizeLine := by
    rw [len_keys g2, sizeLine_eq]
    omega
  obtain ⟨⟨o0, es0, ep0, r1, r2, r3, r4⟩, _, _⟩ := (show ObjOk X.prog X.w H s.heap a (MemO X.prog X.w a xs0) from I.hok a _ g1)
  have hm : s.heap.DictOfH (nestedKind X.prog X.w) a xs0 := ⟨o0, es0, ep0, r1, r2, r3, r4, fun x hx => by
    obtain ⟨t', e, q'⟩ := g3 x hx
    rw [e]
    exact nk_at I q', by
    rw [g2]
    exact List.Pairwise.map _ (fun a b n e => n (nk_inj e)) g4⟩
  refine wpAny_setItem_heap (knd := nestedKind X.prog X.w) (by show X.A.units + 1 + 8 < cLine; omega) (nk_at I ht) hm (fun h' hm' sb => ?_) sz
  obtain ⟨o1, es1, ep1, p1, p2, p3, p4, _, _⟩ := hm'
  have nt : ∀ c ys, H c = some (.tup ys) → (upd H a (MemO X.prog X.w a (storedH xs0 (nk t) b u))) c = some (.tup ys) := fun c ys e => by
    rw [upd_ne fun z => by rw [z, g1] at e; cases e]
    exact e
  refine ⟨upd H a (MemO X.prog X.w a (storedH xs0 (nk t) b u)), I.write (e := a) (by rw [g1]; trivial) (.inl rfl) (fun c ob hc hu => (sb.2 c hc).trans hu) ⟨o1, p1⟩ (memO_ok p1 p2 p3 p4), q _ (fun c hc => upd_ne hc) ⟨h0, _, upd_same, keys_stored g2, fun x hx => ?_, nodup_putT g4⟩⟩
  obtain ⟨t', e, q'⟩ := at_stored g3 ht x hx
  exact ⟨t', e, q'.mono nt⟩
/-- {} -/
def tDNewM (P : Program) (w : World) : TE := fun _ H Q => ∀ p, H p = none → MemAt P w (upd H p (MemO P w p [])) p [] → Q (.ref p) (upd H p (MemO P w p []))
theorem pe_dnewM {pos : Pos} : PE X (.Dict [] [] pos) (tDNewM X.prog X.w) := ⟨fun pins s σ H Q I h =>
  wpAny_Dict_empty ⟨.ref s.heap.objs.size, _, I.laid (a := s.heap.objs.size) (o := MemO X.prog X.w s.heap.objs.size []) (t' := s.toks) (fun _ _ q => Heap.get?_push_of_some _ q) (Nat.le_refl _) (memO_ok (Heap.get?_push_size _ rfl) ⟨rfl, rfl, rfl⟩ rfl rfl), rfl,
    h _ (I.hok.fresh (Nat.le_refl _)) ⟨beq_eq_false_iff_ne.mpr (Ne.symm (Nat.ne_of_lt I.big)), [], upd_same, rfl, (fun x hx => nomatch hx), List.nodup_nil⟩⟩⟩
end
end YF

namespace O43
open PySem L2 YF
section
variable {P : Program} {w : World} {K : PySem.W.Frag} {mg : Str → Option Value} {base : Heap} {A : Adr}
theorem not_un {σ : L2.St} {H : Hp} {t : TT} {Q : Bool → Hp → Prop} (h : t σ H fun c H1 => Q (!c) H1) : tNot t σ H Q := h
def spInit (K : PySem.W.Frag) (C : Addr) : Sp := fun vs H Q _ => ∃ (a : Addr) (r : V), vs = [.ref a, r] ∧ H a = some (exo a C none) ∧
  ∀ (d : Addr) (H' : Hp), H d = none → d ≠ a → H' a = some (exo a C (some d)) → H' d = some (exd d [("limit", r)]) → (∀ b, b ≠ a → b ≠ d → H' b = H b) → Q .non H'
theorem ok_TooLarge___init__ (T : Txt K mg A) : FnOk P w K mg base CX0 1 A.a_TooLarge___init__ A.d_TooLarge___init__ ["self", "limit"] (spInit K A.a_TooLarge) := by
  refine T.F_TooLarge___init__.ok sc_TooLarge___init__ (fun vs H Q E ⟨_, _, e, _⟩ => by rw [e]; rfl) (fun cdv A' outer s H vs Q E hr h => ?_)
  obtain ⟨a, r, rfl, ha, k⟩ := h
  refine ⟨_, pss_one (ps_ost (pv 0) (pv 1)), ?_⟩
  refine ⟨_, rfl, _, rfl, a, _, rfl, T.TooLarge_o, T.no_TooLarge_limit, .inl ⟨ha, fun d hd hda => ?_⟩⟩
  refine k d _ hd hda upd_same (by rw [upd_ne hda]; exact upd_same) fun b h1 h2 => ?_
  rw [upd_ne h1, upd_ne h2]
def errF (r : Str) : List (Str × V) := [("limit", .str r)]
theorem raise_go {C : Addr} {ta : TA} {σ : L2.St} {H : Hp} {r : Str} {Q : XK} (hta : ∀ R : List V → Hp → Prop, R [.str r] H → ta σ H R) (k : ∀ d H', Same H H' → H d = none → H' d = some (.xd (errF r)) → Q (.ref C) (some d) H') : tMkO C (spInit K C) [] ta σ H Q := by
  refine hta _ ⟨by show 1 ≤ 1000; decide, fun a ha => ⟨a, .str r, rfl, upd_same, fun d H' hd hne h1 h2 h3 => ⟨rfl, d, _, h1, h2, ?_, ?_⟩⟩⟩
  · rw [← hd, upd_ne hne]
  · have hd' : H d = none := by rw [← hd, upd_ne hne]
    refine k d _ (fun b o q => ?_) hd' upd_same
    have b1 : b ≠ a := fun e => by rw [e, ha] at q; cases q
    have b2 : b ≠ d := fun e => by rw [e, hd'] at q; cases q
    rw [upd_ne b2, del_ne b1, h3 b b1 b2, upd_ne b1]
    exact q

end
end O43

namespace O43
open PySem L2 YF
/-! ### a finder: its parts -/
def finF (R d : Addr) : List (Str × V) := [("_records", .ref R), ("_hopeless", .ref d)]
theorem finF_1 {R d : Addr} : (finF R d).lookup ("_records" : Str) = some (.ref R) := lk_here (by decide +kernel)
theorem finF_2 {R d : Addr} : (finF R d).lookup ("_hopeless" : Str) = some (.ref d) := (lk_on (by decide +kernel)).trans (lk_here (by decide +kernel))
theorem finF_no {R d : Addr} {m : Str} (h1 : (m == ("_records" : Str)) = false) (h2 : (m == ("_hopeless" : Str)) = false) : (finF R d).lookup m = none :=
  (lk_on h1).trans ((lk_on h2).trans rfl)
def earlyB (rs : List Rc) (l : List Int) (i : Int) : Bool := l.any fun a => decide ((rcAt rs a).en < (rcAt rs i).bg)
def lateB (rs : List Rc) (o : List Int) (i : Int) : Bool := o.any fun a => decide ((rcAt rs i).en < (rcAt rs a).bg)
def pastP (rs : List Rc) (ms o l : List Int) (i : Int) : Bool := !earlyB rs l i && (!lateB rs o i && agP (rcAt rs i).rd ms)
def mayP (rs : List Rc) (ms l : List Int) (i : Int) : Bool := !earlyB rs (l.filter fun a => decide (a ≠ i)) i && agP (rcAt rs i).rd ms
section
variable {P : Program} {w : World} {K : PySem.W.Frag} {mg : Str → Option Value} {base : Heap} {A : Adr}
def spFinI (P : Program) (w : World) (A : Adr) : Sp := fun vs H Q _ => ∃ (x dx R : Addr), vs = [.ref x, .ref R] ∧ H x = some (.ins A.a_Finder dx []) ∧
  ∀ d H', H d = none → d ≠ x → Fr [x] H H' → H' x = some (.ins A.a_Finder dx (finF R d)) → MemAt P w H' d [] → Q .non H'
theorem ok_Finder___init__ (T : Txt K mg A) : FnOk P w K mg base CX0 1 A.a_Finder___init__ A.d_Finder___init__ ["self", "records"] (spFinI P w A) := by
  refine T.F_Finder___init__.ok sc_Finder___init__ (fun vs H Q E ⟨_, _, _, e, _⟩ => by rw [e]; rfl) (fun cdv A' outer s H vs Q E hr h => ?_)
  obtain ⟨x, dx, R, rfl, hx, k⟩ := h
  refine ⟨_, pss_cons (ps_fld (pv 0) (pv 1) rfl)
  (pss_one (ps_fld (pv 0) (pe_dnewM) rfl)), ?_⟩
  refine st_fld (te_var rfl) (te_var rfl) hx T.cl_Finder T.no_Finder__records (by show 0 < 1000; decide) ?_
  have s1 : Fr [x] H (upd H x (.ins A.a_Finder dx (putF "_records" (.ref R) []))) := fr_ins
  have e1 : (upd H x (.ins A.a_Finder dx (putF "_records" (.ref R) []))) x = some (.ins A.a_Finder dx [("_records", .ref R)]) := upd_same
  have d1 : ∀ {b : Addr}, (upd H x (.ins A.a_Finder dx (putF "_records" (.ref R) []))) b = none → H b = none := fun {b} e => by
    by_cases n : b = x
    · rw [n, upd_same] at e
      cases e
    · rw [upd_ne n] at e
      exact e
  generalize upd H x (HO.ins A.a_Finder dx (putF "_records" (.ref R) [])) = H1 at s1 e1 d1 ⊢
  intro d hd md
  have ndx : d ≠ x := (ne_of_none e1 hd).symm
  refine ⟨_, rfl, x, _, _, _, rfl, by rw [upd_ne ndx.symm]; exact e1, T.cl_Finder, T.no_Finder__hopeless, by show 1 < 1000; decide, ?_⟩
  refine k d _ (d1 hd) ndx (fun c o n e => ?_) upd_same ?_
  · have n : c ≠ x := by simpa using n
    rw [upd_ne n, upd_ne (ne_of_none (s1 _ _ (by simpa using n) e) hd)]
    exact s1 _ _ (by simpa using n) e
  · obtain ⟨m0, xs, m1, m2, m3, m4⟩ := md
    have : xs = [] := by
      cases xs with
      | nil => rfl
      | cons _ _ => cases m2
    subst this
    exact ⟨m0, [], by rw [upd_ne ndx]; exact m1, rfl, (fun x hx => nomatch hx), m4⟩
/-- what the two tests ask -/
structure FinQ (A : Adr) (H : Hp) (x dx R d m : Addr) (rs : List Rc) (ms : List Int) : Prop where
  ob : H x = some (.ins A.a_Finder dx (finF R d))
  rc : RecsIn A H R rs
  me : H m = some (.lst (ms.map V.int))
  rl : ∀ r ∈ rs, r.rd.length ≤ 1000
theorem FinQ.mono {H H' : Hp} {x dx R d m : Addr} {rs : List Rc} {ms : List Int} (h : FinQ A H x dx R d m rs ms) (s : Same H H') : FinQ A H' x dx R d m rs ms :=
  ⟨s _ _ h.ob, h.rc.mono s, s _ _ h.me, h.rl⟩
theorem FinQ.ix (T : Txt K mg A) {H : Hp} {x dx R d m : Addr} {rs : List Rc} {ms : List Int} (h : FinQ A H x dx R d m rs ms) {σ : L2.St} {tb : TE} {c : Nat} {i : Int} (hs : σ[c]? = some (some (.ref x))) (hb : Te tb σ H (.int i)) (i0 : 0 ≤ i) (i1 : i < rs.length) :
    ∃ v, Te (tOp (rIxL K) (tFld K (tVar c) "_records") tb) σ H v ∧ RecAt A H v (rcAt rs i) ∧ rcAt rs i ∈ rs := by
  have hk : i.toNat < rs.length := by omega
  have e : rs[i.toNat]? = some (rs[i.toNat]) := List.getElem?_eq_getElem hk
  obtain ⟨v, t, r⟩ := h.rc.ix (K := K) (te_fld (te_var hs) h.ob T.cl_Finder T.no_Finder__records finF_1) hb i0 e
  rw [rcAt_of e]
  exact ⟨v, t, r, List.getElem_mem _⟩
def spPast (A : Adr) : Sp := fun vs H Q _ => ∃ (x dx R d m o l : Addr) (rs : List Rc) (ms ord left : List Int) (i : Int), vs = [.ref x, .ref m, .ref o, .ref l, .int i] ∧ FinQ A H x dx R d m rs ms ∧ H o = some (.lst (ord.map V.int)) ∧ H l = some (.lst (left.map V.int)) ∧ InIx rs ord ∧ InIx rs left ∧ 0 ≤ i ∧ i < rs.length ∧ ord.length ≤ 1000 ∧ left.length ≤ 1000 ∧
  ∀ H', Same H H' → Q (.bl (pastP rs ms ord left i)) H'
theorem inIx_at {rs : List Rc} {l : List Int} (h : InIx rs l) {j : Nat} {a : Int} (e : l[j]? = some a) : 0 ≤ a ∧ a < rs.length := h a (List.mem_of_getElem? e)
theorem ok_Finder__is_past (T : Txt K mg A) : FnOk P w K mg base CX0 2 A.a_Finder__is_past A.d_Finder__is_past ["self", "memory", "order", "left", "index"] (spPast A) := by
  refine T.F_Finder__is_past.ok sc_Finder__is_past (fun vs H Q E ⟨_, _, _, _, _, _, _, _, _, _, _, _, e, _⟩ => by rw [e]; rfl) (fun cdv A' outer s H vs Q E hr h => ?_)
  obtain ⟨x, dx, R, d, m, o, l, rs, ms, ord, left, i, rfl, F, ho, hl, io, il, i0, i1, lo, ll, k⟩ := h
  refine ⟨_, pss_cons (ps_set (i := 5) sc_Finder__is_past.nd rfl (Or.inr rfl) (pe_ix ix_list (pe_fld (pv 0) rfl) (pv 4) (fun _ _ => rfl)))
  (pss_cons (ps_if (pt_val (pe_callB (cr_any rfl) (by rfl) T.n_any (by decide +kernel) (pa_cons (pe_lc (own := [("at", 6)]) (g := gName 6) (tt := tYes) rfl sc_Finder__is_past.nd (pi_list (pv 3)) (blkOk_by (N := ["self", "memory", "order", "left", "index", "record", "at"]) (sc := defScope s_Finder__is_past) (by decide +kernel)) (fun _ _ _ _ _ => pg_name (i := 6) sc_Finder__is_past.nd rfl (Or.inl rfl)) (fun _ _ _ _ _ => pts_nil) (fun _ _ _ _ _ => pe_cmpR op_lt ((show PE _ _ (tFld K _ _) from pe_fld (pe_ix (show IxR _ (rIxL K) from ix_list) ((show PE _ _ (tFld K _ _) from pe_fld (pv 0) rfl)) (pv 6) (fun _ _ => rfl)) rfl)) ((show PE _ _ (tFld K _ _) from pe_fld (pv 5) rfl)) (nomark _))) pa_nil)))
  (pss_one (ps_ret (pe_bl)))
  (pss_nil))
  (pss_cons (ps_if (pt_val (pe_callB (cr_any rfl) (by rfl) T.n_any (by decide +kernel) (pa_cons (pe_lc (own := [("at", 6)]) (g := gName 6) (tt := tYes) rfl sc_Finder__is_past.nd (pi_list (pv 2)) (blkOk_by (N := ["self", "memory", "order", "left", "index", "record", "at"]) (sc := defScope s_Finder__is_past) (by decide +kernel)) (fun _ _ _ _ _ => pg_name (i := 6) sc_Finder__is_past.nd rfl (Or.inl rfl)) (fun _ _ _ _ _ => pts_nil) (fun _ _ _ _ _ => pe_cmpR op_gt ((show PE _ _ (tFld K _ _) from pe_fld (pe_ix (show IxR _ (rIxL K) from ix_list) ((show PE _ _ (tFld K _ _) from pe_fld (pv 0) rfl)) (pv 6) (fun _ _ => rfl)) rfl)) ((show PE _ _ (tFld K _ _) from pe_fld (pv 5) rfl)) (nomark _))) pa_nil)))
  (pss_one (ps_ret (pe_bl)))
  (pss_nil))
  (pss_one (ps_ret (pe_call (ok_agrees T) (hr.mono (by decide)) rfl T.g_agrees T.F_agrees.kp T.b_agrees .nil pass0 (pa_cons (pe_fld (pv 5) rfl) (pa_cons (pv 1) pa_nil))))))), ?_⟩
  obtain ⟨v, tv, rv, rm⟩ := F.ix T (σ := L2.start ["self", "memory", "order", "left", "index", "record", "at"] [.ref x, .ref m, .ref o, .ref l, .int i]) (c := 0) (tb := tVar 4) (i := i) rfl (te_var rfl) i0 i1
  refine asg_te tv ?_
  refine ts_sl (σ' := [some (.ref x), some (.ref m), some (.ref o), some (.ref l), some (.int i), some v, none]) rfl ?_
  have lfm : ∀ {l : List Int} {f : Int → Bool} {n : Nat}, (((l.take n).map f).map V.bl).length ≤ l.length := fun {l f n} => by
    rw [List.length_map, List.length_map, List.length_take]
    omega
  -- early
  refine iff_un (b_un (cb_un (cons_un (lc_go (ti_list (te_var rfl) (SqL.of hl)) walk_list (fun L t G => Same H G ∧ G L = some (.lst (((left.take t).map fun a => decide ((rcAt rs a).en < (rcAt rs i).bg)).map V.bl))) (fun L hL => ⟨Same.upd hL, upd_same⟩) (fun L t G _ h => SqL.of (h.1 _ _ hl)) ?_ fun L G hL hP => ?_))))
  · rintro L t y G0 G hL ht ⟨sG, eG⟩ ⟨rfl, hy⟩
    obtain ⟨a, ea, rfl⟩ := map_at hy
    obtain ⟨a0, a1⟩ := inIx_at il ea
    refine name_go (σ' := [some (.ref x), some (.ref m), some (.ref o), some (.ref l), some (.int i), some v, some (.int a)]) rfl ⟨rfl, yes_go ?_⟩
    obtain ⟨u, tu, ru, _⟩ := (F.mono sG).ix T (σ := [some (.ref x), some (.ref m), some (.ref o), some (.ref l), some (.int i), some v, some (.int a)]) (c := 0) (tb := tVar 6) (i := a) rfl (te_var rfl) a0 a1
    refine (te_i0 (g := fun i j => .bl (decide (i < j))) (te_ended T ru tu) (te_begun T (rv.mono sG) (te_var rfl))).go ⟨_, eG, ?_, Same.wr sG hL, ?_⟩
    · have := lfm (l := left) (f := fun a => decide ((rcAt rs a).en < (rcAt rs i).bg)) (n := t)
      rw [sizeLine_eq]
      omega
    · rw [upd_same, List.take_add_one, ea, List.map_append, List.map_append]
      rfl
  obtain ⟨s1, e1⟩ := hP
  rw [List.length_map, List.take_length] at e1
  refine nil_un ⟨L, _, rfl, SqL.of e1, _, rfl, ?_⟩
  have ee : (left.map fun a => decide ((rcAt rs a).en < (rcAt rs i).bg)).any id = earlyB rs left i := by
    rw [List.any_map]
    rfl
  rw [ee]
  cases eb : earlyB rs left i with
  | true =>
    rw [if_pos rfl]
    have q := k _ s1
    rw [show pastP rs ms ord left i = false by unfold pastP; rw [eb]; rfl] at q
    exact ret_te te_c q
  | false =>
    rw [if_neg (by decide)]
    have ho1 := s1 _ _ ho
    dsimp only [tNext]
    refine iff_un (b_un (cb_un (cons_un (lc_go (ti_list (te_var rfl) (SqL.of ho1)) walk_list (fun L t G' => Same G G' ∧ G' L = some (.lst (((ord.take t).map fun a => decide ((rcAt rs i).en < (rcAt rs a).bg)).map V.bl))) (fun L hL => ⟨Same.upd hL, upd_same⟩) (fun L t G _ h => SqL.of (h.1 _ _ ho1)) ?_ fun L2 G2 hL2 hP => ?_))))
    · rintro L2 t y G0 G2 hL2 ht ⟨sG, eG⟩ ⟨rfl, hy⟩
      obtain ⟨a, ea, rfl⟩ := map_at hy
      obtain ⟨a0, a1⟩ := inIx_at io ea
      refine name_go (σ' := [some (.ref x), some (.ref m), some (.ref o), some (.ref l), some (.int i), some v, some (.int a)]) rfl ⟨rfl, yes_go ?_⟩
      have s2 := s1.trans sG
      obtain ⟨u, tu, ru, _⟩ := (F.mono s2).ix T (σ := [some (.ref x), some (.ref m), some (.ref o), some (.ref l), some (.int i), some v, some (.int a)]) (c := 0) (tb := tVar 6) (i := a) rfl (te_var rfl) a0 a1
      refine (te_i0 (g := fun i j => .bl (decide (j < i))) (te_begun T ru tu) (te_ended T (rv.mono s2) (te_var rfl))).go ⟨_, eG, ?_, Same.wr sG hL2, ?_⟩
      · have := lfm (l := ord) (f := fun a => decide ((rcAt rs i).en < (rcAt rs a).bg)) (n := t)
        rw [sizeLine_eq]
        omega
      · rw [upd_same, List.take_add_one, ea, List.map_append, List.map_append]
        rfl
    obtain ⟨s2, e2⟩ := hP
    rw [List.length_map, List.take_length] at e2
    refine nil_un ⟨L2, _, rfl, SqL.of e2, _, rfl, ?_⟩
    have ee : (ord.map fun a => decide ((rcAt rs i).en < (rcAt rs a).bg)).any id = lateB rs ord i := by
      rw [List.any_map]
      rfl
    rw [ee]
    have s3 := s1.trans s2
    cases lb : lateB rs ord i with
    | true =>
      rw [if_pos rfl]
      have q := k _ s3
      rw [show pastP rs ms ord left i = false by unfold pastP; rw [eb, lb]; rfl] at q
      exact ret_te te_c q
    | false =>
      rw [if_neg (by decide)]
      dsimp only [tNext]
      obtain ⟨rd, trd, hrd⟩ := te_reads T (σ := [some (.ref x), some (.ref m), some (.ref o), some (.ref l), some (.int i), some v, none]) (te := tVar 5) (rv.mono s3) (te_var rfl)
      refine ret_un (call_un (cons_un (trd.go (cons_un ((te_var rfl).go (nil_un ⟨rd, m, _, ms, rfl, hrd, (F.mono s3).me, F.rl _ rm, fun G3 s4 => ?_⟩))))))
      have q := k _ (s3.trans s4)
      rw [show pastP rs ms ord left i = agP (rcAt rs i).rd ms by unfold pastP; rw [eb, lb]; simp] at q
      exact q
def spMay (A : Adr) : Sp := fun vs H Q _ => ∃ (x dx R d m l : Addr) (rs : List Rc) (ms left : List Int) (i : Int), vs = [.ref x, .ref m, .ref l, .int i] ∧ FinQ A H x dx R d m rs ms ∧ H l = some (.lst (left.map V.int)) ∧ InIx rs left ∧ 0 ≤ i ∧ i < rs.length ∧ left.length ≤ 1000 ∧
  ∀ H', Same H H' → Q (.bl (mayP rs ms left i)) H'
theorem ok_Finder__may_follow (T : Txt K mg A) : FnOk P w K mg base CX0 2 A.a_Finder__may_follow A.d_Finder__may_follow ["self", "memory", "left", "index"] (spMay A) := by
  refine T.F_Finder__may_follow.ok sc_Finder__may_follow (fun vs H Q E ⟨_, _, _, _, _, _, _, _, _, _, e, _⟩ => by rw [e]; rfl) (fun cdv A' outer s H vs Q E hr h => ?_)
  obtain ⟨x, dx, R, d, m, l, rs, ms, left, i, rfl, F, hl, il, i0, i1, ll, k⟩ := h
  refine ⟨_, pss_cons (ps_set (i := 4) sc_Finder__may_follow.nd rfl (Or.inr rfl) (pe_ix ix_list (pe_fld (pv 0) rfl) (pv 3) (fun _ _ => rfl)))
  (pss_cons (ps_if (pt_val (pe_callB (cr_any rfl) (by rfl) T.n_any (by decide +kernel) (pa_cons (pe_lc (own := [("at", 5)]) (g := gName 5) rfl sc_Finder__may_follow.nd (pi_list (pv 2)) (blkOk_by (N := ["self", "memory", "left", "index", "record", "at"]) (sc := defScope s_Finder__may_follow) (by decide +kernel)) (fun _ _ _ _ _ => pg_name (i := 5) sc_Finder__may_follow.nd rfl (Or.inl rfl)) (fun _ _ _ _ _ => pts_one (pt_cmpR op_ne (pv 5) (pv 3) (nomark _))) (fun _ _ _ _ _ => pe_cmpR op_lt ((show PE _ _ (tFld K _ _) from pe_fld (pe_ix (show IxR _ (rIxL K) from ix_list) ((show PE _ _ (tFld K _ _) from pe_fld (pv 0) rfl)) (pv 5) (fun _ _ => rfl)) rfl)) ((show PE _ _ (tFld K _ _) from pe_fld (pv 4) rfl)) (nomark _))) pa_nil)))
  (pss_one (ps_ret (pe_bl)))
  (pss_nil))
  (pss_one (ps_ret (pe_call (ok_agrees T) (hr.mono (by decide)) rfl T.g_agrees T.F_agrees.kp T.b_agrees .nil pass0 (pa_cons (pe_fld (pv 4) rfl) (pa_cons (pv 1) pa_nil)))))), ?_⟩
  obtain ⟨v, tv, rv, rm⟩ := F.ix T (σ := L2.start ["self", "memory", "left", "index", "record", "at"] [.ref x, .ref m, .ref l, .int i]) (c := 0) (tb := tVar 3) (i := i) rfl (te_var rfl) i0 i1
  refine asg_te tv ?_
  refine ts_sl (σ' := [some (.ref x), some (.ref m), some (.ref l), some (.int i), some v, none]) rfl ?_
  refine iff_un (b_un (cb_un (cons_un (lc_go (ti_list (te_var rfl) (SqL.of hl)) walk_list (fun L t G => Same H G ∧ G L = some (.lst ((((left.take t).filter fun a => decide (a ≠ i)).map fun a => decide ((rcAt rs a).en < (rcAt rs i).bg)).map V.bl))) (fun L hL => ⟨Same.upd hL, upd_same⟩) (fun L t G _ h => SqL.of (h.1 _ _ hl)) ?_ fun L G hL hP => ?_))))
  · rintro L t y G0 G hL ht ⟨sG, eG⟩ ⟨rfl, hy⟩
    obtain ⟨a, ea, rfl⟩ := map_at hy
    obtain ⟨a0, a1⟩ := inIx_at il ea
    refine name_go (σ' := [some (.ref x), some (.ref m), some (.ref l), some (.int i), some v, some (.int a)]) rfl ⟨rfl, ?_⟩
    refine (tt_test (te_ne (te_var rfl) (te_var rfl) rfl)).go ?_
    have es : (left.take (t + 1)).filter (fun a => decide (a ≠ i)) = (left.take t).filter (fun a => decide (a ≠ i)) ++ (if a ≠ i then [a] else []) := by
      rw [List.take_add_one, ea, List.filter_append]
      by_cases z : a = i
      · simp [z]
      · simp [z]
    by_cases z : a = i
    · have e0 : (!decide (V.int a = V.int i)) = false := by rw [z]; simp
      rw [e0, if_neg (by decide)]
      rw [if_neg (fun q => q z), List.append_nil] at es
      exact ⟨sG, by rw [es]; exact eG⟩
    · have e0 : (!decide (V.int a = V.int i)) = true := by
        rw [decide_eq_false fun q => z (V.int.inj q)]
        rfl
      rw [e0, if_pos rfl]
      rw [if_pos z] at es
      obtain ⟨u, tu, ru, _⟩ := (F.mono sG).ix T (σ := [some (.ref x), some (.ref m), some (.ref l), some (.int i), some v, some (.int a)]) (c := 0) (tb := tVar 5) (i := a) rfl (te_var rfl) a0 a1
      refine (te_i0 (g := fun i j => .bl (decide (i < j))) (te_ended T ru tu) (te_begun T (rv.mono sG) (te_var rfl))).go ⟨_, eG, ?_, Same.wr sG hL, ?_⟩
      · have := List.length_filter_le (fun a => decide (a ≠ i)) (left.take t)
        rw [List.length_take] at this
        rw [List.length_map, List.length_map, sizeLine_eq]
        omega
      · rw [upd_same, es, List.map_append, List.map_append]
        rfl
  obtain ⟨s1, e1⟩ := hP
  rw [List.length_map, List.take_length] at e1
  refine nil_un ⟨L, _, rfl, SqL.of e1, _, rfl, ?_⟩
  have ee : ((left.filter fun a => decide (a ≠ i)).map fun a => decide ((rcAt rs a).en < (rcAt rs i).bg)).any id = earlyB rs (left.filter fun a => decide (a ≠ i)) i := by
    rw [List.any_map]
    rfl
  rw [ee]
  cases eb : earlyB rs (left.filter fun a => decide (a ≠ i)) i with
  | true =>
    rw [if_pos rfl]
    have q := k _ s1
    rw [show mayP rs ms left i = false by unfold mayP; rw [eb]; rfl] at q
    exact ret_te te_c q
  | false =>
    rw [if_neg (by decide)]
    dsimp only [tNext]
    obtain ⟨rd, trd, hrd⟩ := te_reads T (σ := [some (.ref x), some (.ref m), some (.ref l), some (.int i), some v, none]) (te := tVar 4) (rv.mono s1) (te_var rfl)
    refine ret_un (call_un (cons_un (trd.go (cons_un ((te_var rfl).go (nil_un ⟨rd, m, _, ms, rfl, hrd, (F.mono s1).me, F.rl _ rm, fun G3 s4 => ?_⟩))))))
    have q := k _ (s1.trans s4)
    rw [show mayP rs ms left i = agP (rcAt rs i).rd ms by unfold mayP; rw [eb]; simp] at q
    exact q
end
end O43

namespace O43
open PySem L2 YF
/-! ### the search, plain -/
def outL (i : Int) (l : List Int) : List Int := l.filter fun a => decide (a ≠ i)
def leftO (rs : List Rc) (ms o l os : List Int) : List Int := os.filter fun i => !pastP rs ms o l i
def restP (rs : List Rc) : Nat → List Int → List Int → List Int → List Int → Option (List Int)
  | 0, _, _, l, os => if l = [] ∧ os = [] then some [] else none
  | f + 1, ms, o, l, os => if l = [] then (if os = [] then some [] else none) else
    l.findSome? fun i => if mayP rs ms l i = true then (restP rs f (wrP ms (wrAt rs i)) (o ++ [i]) (outL i l) (leftO rs (wrP ms (wrAt rs i)) (o ++ [i]) (outL i l) os)).map (i :: ·) else none
def altP (rs : List Rc) (f : Nat) (ms o l os : List Int) (i : Int) : Option (List Int) := if mayP rs ms l i = true then (restP rs f (wrP ms (wrAt rs i)) (o ++ [i]) (outL i l) (leftO rs (wrP ms (wrAt rs i)) (o ++ [i]) (outL i l) os)).map (i :: ·) else none
def tailP (rs : List Rc) (f : Nat) (ms o l os : List Int) : Option (List Int) := restP rs f ms o l (leftO rs ms o l os)
theorem restP_succ {rs : List Rc} {f : Nat} {ms o l os : List Int} (h : l ≠ []) : restP rs (f + 1) ms o l os = l.findSome? (altP rs f ms o l os) := by
  show (if l = [] then _ else _) = _
  rw [if_neg h]
  rfl
theorem restP_nil {rs : List Rc} {f : Nat} {ms o os : List Int} : restP rs f ms o [] os = if os = [] then some [] else none := by
  cases f with
  | zero =>
    show (if ([] : List Int) = [] ∧ os = [] then _ else _) = _
    by_cases h : os = []
    · rw [if_pos ⟨rfl, h⟩, if_pos h]
    · rw [if_neg (fun z => h z.2), if_neg h]
  | succ f =>
    show (if ([] : List Int) = [] then _ else _) = _
    rw [if_pos rfl]
theorem lateB_perm {rs : List Rc} {o o2 : List Int} {i : Int} (h : o.Perm o2) : lateB rs o i = lateB rs o2 i := by
  unfold lateB
  rw [Bool.eq_iff_iff, List.any_eq_true, List.any_eq_true]
  exact ⟨fun ⟨x, hx, e⟩ => ⟨x, h.mem_iff.mp hx, e⟩, fun ⟨x, hx, e⟩ => ⟨x, h.mem_iff.mpr hx, e⟩⟩
theorem leftO_perm {rs : List Rc} {ms o o2 l os : List Int} (h : o.Perm o2) : leftO rs ms o l os = leftO rs ms o2 l os := by
  unfold leftO pastP
  refine congrArg (fun p => os.filter p) (funext fun i => ?_)
  rw [lateB_perm h]
theorem restP_perm {rs : List Rc} : ∀ {f : Nat} {ms o o2 l os : List Int}, o.Perm o2 → restP rs f ms o l os = restP rs f ms o2 l os
  | 0, _, _, _, _, _, _ => rfl
  | f + 1, ms, o, o2, l, os, h => by
    by_cases hl : l = []
    · rw [hl, restP_nil, restP_nil]
    · rw [restP_succ hl, restP_succ hl]
      refine congrArg (fun g => l.findSome? g) (funext fun i => ?_)
      unfold altP
      have hp : (o ++ [i]).Perm (o2 ++ [i]) := h.append_right [i]
      rw [restP_perm hp, leftO_perm hp]
def Sound (rs : List Rc) (S : List Tr3) : Prop := ∀ t ∈ S, ∀ o, (o ++ t.2.1).Perm (doneP rs) → restP rs t.2.1.length t.1 o t.2.1 t.2.2 = none
theorem Sound.put {rs : List Rc} {S : List Tr3} (h : Sound rs S) {ms o l os : List Int} (ho : (o ++ l).Perm (doneP rs)) (e : restP rs l.length ms o l os = none) : Sound rs (putT S (ms, l, os)) := fun t ht o2 h2 => by
  rcases mem_putT.mp ht with m | m
  · exact h t m o2 h2
  · subst m
    have h2 : (o2 ++ l).Perm (doneP rs) := h2
    have hp : o2.Perm o := (List.perm_append_right_iff l).mp (h2.trans ho.symm)
    show restP rs l.length ms o2 l os = none
    rw [restP_perm hp]
    exact e
def cstL : Nat → Nat
  | 0 => 0
  | n + 1 => 1 + (n + 1) * cstL n
theorem outL_perm {l : List Int} {i : Int} (nd : l.Nodup) (hi : i ∈ l) : l.Perm (i :: outL i l) := by
  have h := List.perm_cons_erase hi
  have e : l.erase i = outL i l := by
    rw [List.Nodup.erase_eq_filter nd]
    unfold outL
    refine congrArg (fun p => l.filter p) (funext fun a => ?_)
    by_cases z : a = i <;> simp [z]
  rw [← e]
  exact h
theorem outL_len {l : List Int} {i : Int} (nd : l.Nodup) (hi : i ∈ l) : (outL i l).length + 1 = l.length := by
  rw [(outL_perm nd hi).length_eq]
  rfl
end O43

namespace O43
open PySem L2 YF
/-! ### the search -/
theorem mem_ext {P : Program} {w : World} {H : Hp} {d : Addr} {S : List Tr3} (m : MemAt P w H d S) : ∃ φ, H d = some (.ext φ) := by
  obtain ⟨_, xs, h, _⟩ := m
  exact ⟨_, h⟩
theorem fr_at {H H' : Hp} {d c : Addr} {φ : Heap → Prop} {u : HO} (e : H d = some (.ext φ)) (s : Fr [d] H H') (h : H c = some u) (n : ∀ ψ, u ≠ .ext ψ) : H' c = some u :=
  s c u (fun z => by
    rw [List.mem_singleton.mp z, e] at h
    exact n φ (Option.some.inj h).symm) h
theorem recs_fr {A : Adr} {H H' : Hp} {d R : Addr} {φ : Heap → Prop} {rs : List Rc} (e : H d = some (.ext φ)) (s : Fr [d] H H') (h : RecsIn A H R rs) : RecsIn A H' R rs := by
  obtain ⟨vs, h1, h2, h3⟩ := h
  refine ⟨vs, fr_at e s h1 (fun ψ z => by cases z), L2.Paired.mapP h2 fun v r q => ?_, h3⟩
  obtain ⟨a, dx, rd, wr, k, ev, q1, q2, q3⟩ := q
  exact ⟨a, dx, rd, wr, k, ev, fr_at e s q1 (fun ψ z => by cases z), fr_at e s q2 (fun ψ z => by cases z), fr_at e s q3 (fun ψ z => by cases z)⟩
theorem FinQ.fr {A : Adr} {H H' : Hp} {x dx R d m : Addr} {rs : List Rc} {ms : List Int} {φ : Heap → Prop} (h : FinQ A H x dx R d m rs ms) (e : H d = some (.ext φ)) (s : Fr [d] H H') : FinQ A H' x dx R d m rs ms :=
  ⟨fr_at e s h.ob (fun ψ z => by cases z), recs_fr e s h.rc, fr_at e s h.me (fun ψ z => by cases z), h.rl⟩
section
variable {P : Program} {w : World} {K : PySem.W.Frag} {mg : Str → Option Value} {base : Heap} {A : Adr}
/-- what stands at a call of least -/
structure LeQ (P : Program) (w : World) (A : Adr) (H : Hp) (x dx R d m o l os : Addr) (rs : List Rc) (ms ord left oth : List Int) (S : List Tr3) : Prop where
  fin : FinQ A H x dx R d m rs ms
  ho : H o = some (.lst (ord.map V.int))
  hl : H l = some (.lst (left.map V.int))
  hs : H os = some (.lst (oth.map V.int))
  pm : (ord ++ left).Perm (doneP rs)
  io : InIx rs oth
  lo : oth.length ≤ 1000
  lm : ms.length ≤ 1000
  lr : rs.length ≤ 1000
  mem : MemAt P w H d S
  snd : Sound rs S
  lS : S.length + cstL left.length ≤ 15000000
theorem LeQ.inD {H : Hp} {x dx R d m o l os : Addr} {rs : List Rc} {ms ord left oth : List Int} {S : List Tr3} (h : LeQ P w A H x dx R d m o l os rs ms ord left oth S) : InIx rs ord ∧ InIx rs left ∧ left.Nodup ∧ ord.length ≤ 1000 ∧ left.length ≤ 1000 := by
  have hd : ∀ i ∈ ord ++ left, 0 ≤ i ∧ i < rs.length := fun i hi => by
    obtain ⟨k, rfl, hk, _⟩ := doneP_mem (h.pm.mem_iff.mp hi)
    omega
  have nd : (ord ++ left).Nodup := h.pm.nodup_iff.mpr doneP_nodup
  have hlen := h.pm.length_eq
  rw [List.length_append] at hlen
  have := doneTo_len (rs := rs) (i := rs.length)
  have e : (doneP rs).length = (doneTo rs rs.length).length := rfl
  have := h.lr
  exact ⟨fun i hi => hd i (List.mem_append_left _ hi), fun i hi => hd i (List.mem_append_right _ hi), (List.nodup_append.mp nd).2.1, by omega, by omega⟩
def spLeast (P : Program) (w : World) (A : Adr) (n : Nat) : Sp := fun vs H Q _ => ∃ (x dx R d m o l os : Addr) (rs : List Rc) (ms ord left oth : List Int) (S : List Tr3), vs = [.ref x, .ref m, .ref o, .ref l, .ref os] ∧ LeQ P w A H x dx R d m o l os rs ms ord left oth S ∧ left.length < n ∧
  (∀ H' S', Fr [d] H H' → MemAt P w H' d S' → Sound rs S' → S'.length ≤ S.length + cstL left.length → tailP rs left.length ms ord left oth = none → Q .non H') ∧
  (∀ H' S' t v, Fr [d] H H' → MemAt P w H' d S' → Sound rs S' → S'.length ≤ S.length + cstL left.length → tailP rs left.length ms ord left oth = some t → H' v = some (.lst ((ord ++ t).map V.int)) → (v = o ∨ H v = none) → Q (.ref v) H')
theorem tif_un {t : TT} {ta tb : TE} {σ : L2.St} {H : Hp} {Q : VK} (h : t σ H fun c H1 => if c = true then ta σ H1 Q else tb σ H1 Q) : tIf t ta tb σ H Q := h
theorem tru_un {te : TE} {σ : L2.St} {H : Hp} {Q : Bool → Hp → Prop} (h : te σ H fun x H' => ∃ k, TruV K x H' k ∧ Q k H') : (fun (σ : L2.St) (H : Hp) (Q : Bool → Hp → Prop) => te σ H fun x H' => ∃ k, TruV K x H' k ∧ Q k H') σ H Q := h
theorem mem_un {te ta tb : TE} {r : TSet} {D : Ends} {rest : TS} {σ : L2.St} {H : Hp} (h : te σ H fun v H1 => ta σ H1 fun x H2 => tb σ H2 fun y H3 => r x y v H3 fun H4 => rest D σ H4) : tSeq (tAsg te (gSub ta tb r)) rest D σ H := h
theorem ok_Finder_least (T : Txt K mg A) : ∀ n : Nat, FnOk P w K mg base CX0 (n + 3) A.a_Finder_least A.d_Finder_least ["self", "memory", "order", "left", "others"] (spLeast P w A n) := by
  intro n
  induction n with
  | zero => exact ⟨fun vs H Q E ⟨_, _, _, _, _, _, _, _, _, _, _, _, _, _, e, _⟩ => by rw [e]; rfl, fun A' outer s H args us vs Q E hr e0 hb r ⟨_, _, _, _, _, _, _, _, _, _, _, _, _, _, _, _, h, _⟩ => absurd h (Nat.not_lt_zero _)⟩
  | succ n ih =>
    refine T.F_Finder_least.ok (k := n + 3) sc_Finder_least (fun vs H Q E ⟨_, _, _, _, _, _, _, _, _, _, _, _, _, _, e, _⟩ => by rw [e]; rfl) (fun cdv A' outer s H vs Q E hr h => ?_)
    obtain ⟨x, dx, R, d, m, o, l, os, rs, ms, ord, left, oth, S, rfl, L, hn, k1, k2⟩ := h
    refine ⟨_, pss_cons (ps_setLc (i := 4) (own := [("at", 5)]) (g := gName 5) rfl sc_Finder_least.nd rfl rfl (sw_true rfl rfl rfl (by decide +kernel)) (pi_list (pv 4)) (blkOk_by (N := ["self", "memory", "order", "left", "others", "at", "ahead", "behind", "found", "one"]) (sc := defScope s_Finder_least) (by decide +kernel)) (fun _ _ _ _ _ => pg_name (i := 5) sc_Finder_least.nd rfl (Or.inl rfl)) (fun _ _ _ _ _ => pts_one (pt_not (pt_val (pe_meth (pv 0) T.cl_Finder T.m_Finder__is_past (ok_Finder__is_past T) (hr.mono (by omega)) T.b_Finder__is_past .nil pass0 (pa_cons (pv 1) (pa_cons (pv 2) (pa_cons (pv 3) (pa_cons (pv 5) pa_nil)))))))) (fun _ _ _ _ _ => pv 5))
  (pss_cons (ps_if (pt_cmpR op_eq (pe_callB call_len_seq (by rfl) T.n_len (by decide +kernel) (pa_cons (pv 3) pa_nil)) (pe_int) (nomark _))
  (pss_one (ps_ret (pe_ifExp (pt_truth (pv 4) (by intro _; rfl)) (pe_non) (pv 2))))
  (pss_nil))
  (pss_cons (ps_set (i := 6) sc_Finder_least.nd rfl (Or.inl rfl) (pe_tup (pa_cons (pe_callTy call_tuple_of (by rfl) T.n_tuple (by decide +kernel) (pa_cons (pv 1) pa_nil)) (pa_cons (pe_callTy call_tuple_of (by rfl) T.n_tuple (by decide +kernel) (pa_cons (pv 3) pa_nil)) (pa_cons (pe_callTy call_tuple_of (by rfl) T.n_tuple (by decide +kernel) (pa_cons (pv 4) pa_nil)) pa_nil)))))
  (pss_cons (ps_if (pt_cmpR (op_memIn hr.units) (pv 6) (pe_fld (pv 0) rfl) (by rfl))
  (pss_one (ps_ret (pe_non)))
  (pss_nil))
  (pss_cons (ps_for PassesOwn.never rfl (pi_list (pv 3)) (pg_name (i := 5) sc_Finder_least.nd rfl (Or.inr rfl))
  (pss_one (ps_if (pt_val (pe_meth (pv 0) T.cl_Finder T.m_Finder__may_follow (ok_Finder__may_follow T) (hr.mono (by omega)) T.b_Finder__may_follow .nil pass0 (pa_cons (pv 1) (pa_cons (pv 3) (pa_cons (pv 5) pa_nil)))))
  (pss_cons (ps_set (i := 7) sc_Finder_least.nd rfl (Or.inl rfl) (pe_call (ok_written T) (hr.mono (by omega)) rfl T.g__written T.F__written.kp T.b__written .nil pass0 (pa_cons (pv 1) (pa_cons (pe_fld (pe_ix ix_list (pe_fld (pv 0) rfl) (pv 5) (fun _ _ => rfl)) rfl) pa_nil))))
  (pss_cons (ps_set (i := 8) sc_Finder_least.nd rfl (Or.inl rfl) (pe_meth (pv 0) T.cl_Finder T.m_Finder_least ih (hr.mono (by omega)) T.b_Finder_least .nil pass0 (pa_cons (pv 7) (pa_cons (pe_lst (StX.pa_star (pv 2) (pa_cons (pv 5) pa_nil))) (pa_cons (pe_lc (own := [("one", 9)]) (g := gName 9) rfl sc_Finder_least.nd (pi_list (pv 3)) (blkOk_by (N := ["self", "memory", "order", "left", "others", "at", "ahead", "behind", "found", "one"]) (sc := defScope s_Finder_least) (by decide +kernel)) (fun _ _ _ _ _ => pg_name (i := 9) sc_Finder_least.nd rfl (Or.inl rfl)) (fun _ _ _ _ _ => pts_one (pt_cmpR op_ne (pv 9) (pv 5) (nomark _))) (fun _ _ _ _ _ => pv 9)) (pa_cons (pv 4) pa_nil))))))
  (pss_one (ps_if (pt_cmpR op_notN (pv 8) (pe_non) (nomark _))
  (pss_one (ps_ret (pv 8)))
  (pss_nil)))))
  (pss_nil))))
  (pss_cons (ps_asg pe_bl (pg_sub (pe_fld (pv 0) rfl) (pv 6) (set_mem hr.units)))
  (pss_one (ps_ret (pe_non)))))))), ?_⟩
    obtain ⟨iO, iL, ndl, lO, lL⟩ := L.inD
    -- the others
    refine asg_un (lc_go (ti_list (te_var rfl) (SqL.of L.hs)) walk_list (fun D t G => Same H G ∧ G D = some (.lst (((oth.take t).filter fun i => !pastP rs ms ord left i).map V.int))) (fun D hD => ⟨Same.upd hD, upd_same⟩) (fun D t G _ h => SqL.of (h.1 _ _ L.hs)) ?_ fun D G hD hP => ?_)
    · rintro D t y G0 G hD ht ⟨sG, eG⟩ ⟨rfl, hy⟩
      obtain ⟨i, ei, rfl⟩ := map_at hy
      obtain ⟨i0, i1⟩ := inIx_at L.io ei
      refine name_go (σ' := [some (.ref x), some (.ref m), some (.ref o), some (.ref l), some (.ref os), some (.int i), none, none, none, none]) rfl ⟨rfl, ?_⟩
      exact not_un (b_un (meth_un ((te_var rfl).go ⟨x, dx, _, rfl, (L.fin.mono sG).ob, finF_no (by decide +kernel) (by decide +kernel), cons_un ((te_var rfl).go (cons_un ((te_var rfl).go (cons_un ((te_var rfl).go (cons_un ((te_var rfl).go (nil_un ⟨x, dx, R, d, m, o, l, rs, ms, ord, left, i, rfl, L.fin.mono sG, sG _ _ L.ho, sG _ _ L.hl, iO, iL, i0, i1, lO, lL, fun G2 s2 => ⟨_, rfl, filt_turn (p := fun i => !pastP rs ms ord left i) ei rfl (te_var rfl) (sG.trans s2) (s2 _ _ eG) hD L.lo⟩⟩))))))))⟩)))
    obtain ⟨s1, e1⟩ := hP
    rw [List.length_map, List.take_length] at e1
    replace e1 : G D = some (.lst ((leftO rs ms ord left oth).map V.int)) := e1
    have hx1 : (leftO rs ms ord left oth).length ≤ 1000 := Nat.le_trans (List.length_filter_le _ _) L.lo
    have io1 : InIx rs (leftO rs ms ord left oth) := fun i hi => L.io i ((List.mem_filter.mp hi).1)
    have te1 : tailP rs left.length ms ord left oth = restP rs left.length ms ord left (leftO rs ms ord left oth) := rfl
    rw [te1] at k1 k2
    generalize leftO rs ms ord left oth = oth' at e1 hx1 io1 k1 k2
    clear te1
    try dsimp only
    refine ts_sl (σ' := [some (.ref x), some (.ref m), some (.ref o), some (.ref l), some (.ref D), none, none, none, none, none]) rfl ?_
    have hl1 := s1 _ _ L.hl
    have ho1 := s1 _ _ L.ho
    have mem1 := L.mem.mono s1
    have F1 := L.fin.mono s1
    have tl := te_len (K := K) (te := tVar 3) (σ := [some (.ref x), some (.ref m), some (.ref o), some (.ref l), some (.ref D), none, none, none, none, none]) (te_var rfl) (.inl (SqL.of hl1))
    rw [List.length_map] at tl
    refine if_seq (tt_test (te_eq tl te_c rfl)) (fun h => ?_) fun h => ?_
    · have hz : left = [] := by
        have := V.int.inj (of_decide_eq_true h)
        exact List.length_eq_zero_iff.mp (by omega)
      subst hz
      rw [restP_nil] at k1 k2
      refine ret_un (tif_un (tru_un ((te_var rfl).go ⟨_, (show TruV K (.ref D) G (!(oth'.map V.int).isEmpty) from Or.inl ⟨_, SqL.of e1, rfl⟩), ?_⟩)))
      cases oth' with
      | nil =>
        show if false = true then _ else _
        rw [if_neg (by decide)]
        refine (te_var rfl).go ?_
        exact k2 G S [] o (Fr.of s1) mem1 L.snd (Nat.le_add_right _ _) (if_pos rfl) (by rw [List.append_nil]; exact ho1) (.inl rfl)
      | cons a r =>
        show if true = true then _ else _
        rw [if_pos rfl]
        exact te_c.go (k1 G S (Fr.of s1) mem1 L.snd (Nat.le_add_right _ _) (if_neg fun z => nomatch z))
    · have hz : left ≠ [] := fun z => by
        have h := of_decide_eq_false h
        rw [z] at h
        exact h rfl
      obtain ⟨f, ef⟩ : ∃ f, left.length = f + 1 := ⟨left.length - 1, by
        have : left.length ≠ 0 := fun q => hz (List.length_eq_zero_iff.mp q)
        omega⟩
      rw [ef, restP_succ hz] at k1 k2
      -- the triple
      refine asg_un (tup_un (cons_un (cb_un ((ta_cons (te_var rfl) ta_nil) _ ⟨m, _, rfl, .inl ⟨SqL.of F1.me, fun t1 ht1 => cons_un (cb_un ((ta_cons (te_var rfl) ta_nil) _ ⟨l, _, rfl, .inl ⟨SqL.of (Same.upd ht1 _ _ hl1), fun t2 ht2 => cons_un (cb_un ((ta_cons (te_var rfl) ta_nil) _ ⟨D, _, rfl, .inl ⟨SqL.of (Same.upd ht2 _ _ (Same.upd ht1 _ _ e1)), fun t3 ht3 => nil_un ⟨show 3 ≤ sizeLine by decide, fun tt htt => ?_⟩⟩⟩))⟩⟩))⟩⟩))))
      have q1 : Same G (upd G t1 (.tup (ms.map V.int))) := Same.upd ht1
      have w1 : (upd G t1 (.tup (ms.map V.int))) t1 = some (.tup (ms.map V.int)) := upd_same
      generalize upd G t1 (HO.tup (ms.map V.int)) = G1 at q1 w1 ht2 ht3 htt ⊢
      have q2 : Same G1 (upd G1 t2 (.tup (left.map V.int))) := Same.upd ht2
      have w2 : (upd G1 t2 (.tup (left.map V.int))) t2 = some (.tup (left.map V.int)) := upd_same
      generalize upd G1 t2 (HO.tup (left.map V.int)) = G2 at q2 w2 ht3 htt ⊢
      have q3 : Same G2 (upd G2 t3 (.tup (oth'.map V.int))) := Same.upd ht3
      have w3 : (upd G2 t3 (.tup (oth'.map V.int))) t3 = some (.tup (oth'.map V.int)) := upd_same
      generalize upd G2 t3 (HO.tup (oth'.map V.int)) = G3 at q3 w3 htt ⊢
      have q4 : Same G3 (upd G3 tt (.tup [.ref t1, .ref t2, .ref t3])) := Same.upd htt
      have w4 : (upd G3 tt (.tup [.ref t1, .ref t2, .ref t3])) tt = some (.tup [.ref t1, .ref t2, .ref t3]) := upd_same
      generalize upd G3 tt (HO.tup [.ref t1, .ref t2, .ref t3]) = G4 at q4 w4 ⊢
      have tr : TrAt G4 tt (ms, left, oth') := ⟨t1, t2, t3, w4, q4 _ _ (q3 _ _ (q2 _ _ w1)), q4 _ _ (q3 _ _ w2), q4 _ _ w3⟩
      have s4 := s1.trans (((q1.trans q2).trans q3).trans q4)
      have e4 := (((q1.trans q2).trans q3).trans q4) _ _ e1
      clear q1 q2 q3 q4 w1 w2 w3 w4 ht1 ht2 ht3 htt tl mem1 F1 e1 hl1 ho1
      have L4 := L.fin.mono s4
      have hl4 := s4 _ _ L.hl
      have ho4 := s4 _ _ L.ho
      have mem4 := L.mem.mono s4
      try dsimp only
      refine ts_sl (σ' := [some (.ref x), some (.ref m), some (.ref o), some (.ref l), some (.ref D), none, some (.ref tt), none, none, none]) rfl ?_
      refine iff_un (show tTest _ _ _ _ from op_un ((te_var rfl).go ((te_fld (te_var rfl) L4.ob T.cl_Finder T.no_Finder__hopeless finF_2).go ⟨tt, d, (ms, left, oth'), S, rfl, rfl, tr, mem4, _, rfl, ?_⟩)))
      dsimp only
      by_cases hin : (ms, left, oth') ∈ S
      · rw [decide_eq_true hin, if_pos rfl]
        refine ret_te te_c (k1 G4 S (Fr.of s4) mem4 L.snd (Nat.le_add_right _ _) ?_)
        have := L.snd _ hin ord L.pm
        have this : restP rs left.length ms ord left oth' = none := this
        rw [ef, restP_succ hz] at this
        exact this
      · rw [decide_eq_false hin, if_neg (by decide)]
        dsimp only [tNext]
        obtain ⟨φ, eφ⟩ := mem_ext mem4
        have cs : cstL (f + 1) = 1 + (f + 1) * cstL f := rfl
        have lS := L.lS
        rw [ef, cs] at lS
        rw [cs] at k1 k2
        refine sq_go (for_go (ti_list (te_var rfl) (SqL.of hl4)) walk_list (fun j σ G => (∃ v5 v7 v8 : Option V, σ = [some (.ref x), some (.ref m), some (.ref o), some (.ref l), some (.ref D), v5, some (.ref tt), v7, v8, none]) ∧ Fr [d] G4 G ∧ ∃ S', MemAt P w G d S' ∧ Sound rs S' ∧ S'.length ≤ S.length + j * cstL f ∧ (left.take j).findSome? (altP rs f ms ord left oth') = none) ⟨⟨_, _, _, rfl⟩, Fr.refl, S, mem4, L.snd, by omega, rfl⟩ (fun j σ G _ h => SqL.of (fr_at eφ h.2.1 hl4 fun ψ z => by cases z)) ?_ ?_)
        · rintro j y σ G0 G5 hj ⟨⟨v5, v7, v8, rfl⟩, fr5, S', m5, so5, ls5, no5⟩ ⟨rfl, hy⟩
          obtain ⟨i, ei, rfl⟩ := map_at hy
          have hij : i ∈ left := List.mem_of_getElem? ei
          obtain ⟨i0, i1⟩ := iL i hij
          refine name_go (σ' := [some (.ref x), some (.ref m), some (.ref o), some (.ref l), some (.ref D), some (.int i), some (.ref tt), v7, v8, none]) rfl ?_
          have F5 := L4.fr eφ fr5
          have hl5 := fr_at eφ fr5 hl4 fun ψ z => by cases z
          have ho5 := fr_at eφ fr5 ho4 fun ψ z => by cases z
          have e5 := fr_at eφ fr5 e4 fun ψ z => by cases z
          have nx5 : (left.take (j + 1)).findSome? (altP rs f ms ord left oth') = altP rs f ms ord left oth' i := by
            rw [List.take_add_one, ei, List.findSome?_append, no5]
            simp
          have lS5 : S.length + j * cstL f ≤ S.length + (j + 1) * cstL f := by
            have e : (j + 1) * cstL f = j * cstL f + cstL f := Nat.succ_mul _ _
            omega
          refine iff_un (b_un (meth_un ((te_var rfl).go ⟨x, dx, _, rfl, F5.ob, finF_no (by decide +kernel) (by decide +kernel), cons_un ((te_var rfl).go (cons_un ((te_var rfl).go (cons_un ((te_var rfl).go (nil_un ⟨x, dx, R, d, m, l, rs, ms, left, i, rfl, F5, hl5, iL, i0, i1, lL, fun G6 s6 => ⟨_, rfl, ?_⟩⟩))))))⟩)))
          cases hm : mayP rs ms left i with
          | false =>
            rw [if_neg (by decide)]
            refine ⟨⟨_, _, _, rfl⟩, fr5.trans (Fr.of s6), S', m5.mono s6, so5, by omega, ?_⟩
            rw [nx5]
            unfold altP
            rw [hm, if_neg (by decide)]
          | true =>
            rw [if_pos rfl]
            have F6 := F5.mono s6
            obtain ⟨u, tu, ru, rm⟩ := F6.ix T (σ := [some (.ref x), some (.ref m), some (.ref o), some (.ref l), some (.ref D), some (.int i), some (.ref tt), v7, v8, none]) (c := 0) (tb := tVar 5) (i := i) rfl (te_var rfl) i0 i1
            obtain ⟨wr, twr, hwr⟩ := te_writes T ru tu
            refine asg_un (call_un (cons_un ((te_var rfl).go (cons_un (twr.go (nil_un ⟨m, wr, ms, _, rfl, F6.me, L.lm, hwr, fun bv G7 s7 hbv e7 => ?_⟩))))))
            try dsimp only
            refine ts_sl (σ' := [some (.ref x), some (.ref m), some (.ref o), some (.ref l), some (.ref D), some (.int i), some (.ref tt), some (.ref bv), v8, none]) rfl ?_
            have ew : (rcAt rs i).wr = wrAt rs i := by
              have hk : i.toNat < rs.length := by omega
              have e : rs[i.toNat]? = some (rs[i.toNat]) := List.getElem?_eq_getElem hk
              rw [rcAt_of e]
              unfold wrAt
              rw [e]
            rw [ew] at e7
            have s57 := s6.trans s7
            have F7 := F5.mono s57
            have ho7 := s57 _ _ ho5
            have hl7 := s57 _ _ hl5
            have e57 := s57 _ _ e5
            refine asg_un (meth_un ((te_var rfl).go ⟨x, dx, _, rfl, F7.ob, finF_no (by decide +kernel) (by decide +kernel), cons_un ((te_var rfl).go (cons_un (lstd_un ((te_var rfl).go ⟨o, _, rfl, .inr (SqL.of ho7), cons_un ((te_var rfl).go (nil_un ⟨?_, fun q hq => cons_un ?_⟩))⟩))))⟩))
            · rw [List.length_append, List.length_map, sizeLine_eq]
              show ord.length + 1 ≤ _
              omega
            have q8 : Same G7 (upd G7 q (.lst (ord.map V.int ++ [.int i]))) := Same.upd hq
            have e8 : (upd G7 q (.lst (ord.map V.int ++ [.int i]))) q = some (.lst ((ord ++ [i]).map V.int)) := by
              rw [upd_same, List.map_append]
              rfl
            generalize upd G7 q (HO.lst (ord.map V.int ++ [.int i])) = G8 at q8 e8 ⊢
            have hl8 := q8 _ _ hl7
            refine lc_go (ti_list (te_var rfl) (SqL.of hl8)) walk_list (fun L2 t G => Same G8 G ∧ G L2 = some (.lst (((left.take t).filter fun a => decide (a ≠ i)).map V.int))) (fun L2 hL2 => ⟨Same.upd hL2, upd_same⟩) (fun L2 t G _ h => SqL.of (h.1 _ _ hl8)) ?_ fun L2 G9 hL2 hP => cons_un ((te_var rfl).go (nil_un ?_))
            · rintro L2 t y G0' G9 hL2 ht ⟨sG, eG⟩ ⟨rfl, hy⟩
              obtain ⟨a, ea, rfl⟩ := map_at hy
              refine name_go (σ' := [some (.ref x), some (.ref m), some (.ref o), some (.ref l), some (.ref D), some (.int i), some (.ref tt), some (.ref bv), v8, some (.int a)]) rfl ⟨rfl, ?_⟩
              refine (tt_test (te_ne (te_var rfl) (te_var rfl) rfl)).go ?_
              exact filt_turn (p := fun a => decide (a ≠ i)) ea (by by_cases z : a = i <;> simp [z]) (te_var rfl) sG eG hL2 lL
            obtain ⟨s9, e9⟩ := hP
            rw [List.length_map, List.take_length] at e9
            have e9 : G9 L2 = some (.lst ((outL i left).map V.int)) := e9
            have s79 := q8.trans s9
            have s59 := s57.trans s79
            have lo1 := outL_len ndl hij
            have pm' : ((ord ++ [i]) ++ outL i left).Perm (doneP rs) := by
              rw [List.append_assoc]
              exact ((outL_perm ndl hij).symm.append_left ord).trans L.pm
            have lof : (outL i left).length = f := by omega
            have tel : tailP rs (outL i left).length (wrP ms (wrAt rs i)) (ord ++ [i]) (outL i left) oth' = restP rs f (wrP ms (wrAt rs i)) (ord ++ [i]) (outL i left) (leftO rs (wrP ms (wrAt rs i)) (ord ++ [i]) (outL i left) oth') := by
              rw [lof]
              rfl
            have alt : altP rs f ms ord left oth' i = (restP rs f (wrP ms (wrAt rs i)) (ord ++ [i]) (outL i left) (leftO rs (wrP ms (wrAt rs i)) (ord ++ [i]) (outL i left) oth')).map (i :: ·) := by
              unfold altP
              rw [hm, if_pos rfl]
            have m9 := m5.mono s59
            obtain ⟨φ9, eφ9⟩ := mem_ext m9
            refine ⟨x, dx, R, d, bv, q, L2, D, rs, wrP ms (wrAt rs i), ord ++ [i], outL i left, oth', S', rfl, ⟨⟨(F7.mono s79).ob, (F7.mono s79).rc, s79 _ _ e7, F7.rl⟩, s9 _ _ e8, e9, s59 _ _ e5, pm', io1, hx1, by rw [wrP_len]; exact L.lm, L.lr, m9, so5, ?_⟩, by omega, fun H' S2 fr9 mm9 so9 ls9 t9 => ?_, fun H' S2 t v fr9 mm9 so9 ls9 t9 hv nv9 => ?_⟩
            · rw [lof]
              have := Nat.mul_le_mul_right (cstL f) (show j + 1 ≤ f + 1 by have : j < (left.map V.int).length := hj; rw [List.length_map] at this; omega)
              have e : (j + 1) * cstL f = j * cstL f + cstL f := Nat.succ_mul _ _
              omega
            · rw [tel] at t9
              rw [lof] at ls9
              try dsimp only
              refine ts_sl (σ' := [some (.ref x), some (.ref m), some (.ref o), some (.ref l), some (.ref D), some (.int i), some (.ref tt), some (.ref bv), some .non, none]) rfl ?_
              refine if_go (tt_test (te_notN (te_var rfl))) (fun h => (by simp at h)) fun _ => ?_
              refine ⟨⟨_, _, _, rfl⟩, (fr5.trans (Fr.of s59)).trans fr9, S2, mm9, so9, ?_, ?_⟩
              · have e : (j + 1) * cstL f = j * cstL f + cstL f := Nat.succ_mul _ _
                omega
              · rw [nx5, alt, t9]
                rfl
            · rw [tel] at t9
              rw [lof] at ls9
              try dsimp only
              refine ts_sl (σ' := [some (.ref x), some (.ref m), some (.ref o), some (.ref l), some (.ref D), some (.int i), some (.ref tt), some (.ref bv), some (.ref v), none]) rfl ?_
              refine if_go (tt_test (te_notN (te_var rfl))) (fun _ => ?_) fun h => (by simp at h)
              refine ret_te (te_var rfl) (k2 H' S2 (i :: t) v ((Fr.of s4).trans ((fr5.trans (Fr.of s59)).trans fr9)) mm9 so9 ?_ ?_ ?_ (.inr ?_))
              · have := Nat.mul_le_mul_right (cstL f) (show j + 1 ≤ f + 1 by have : j < (left.map V.int).length := hj; rw [List.length_map] at this; omega)
                have e : (j + 1) * cstL f = j * cstL f + cstL f := Nat.succ_mul _ _
                omega
              · have eq : left.findSome? (altP rs f ms ord left oth') = ((left.take (j + 1)).findSome? (altP rs f ms ord left oth')).or ((left.drop (j + 1)).findSome? (altP rs f ms ord left oth')) := by
                  rw [← List.findSome?_append, List.take_append_drop]
                rw [eq, nx5, alt, t9]
                rfl
              · rw [List.append_assoc] at hv
                exact hv
              · have bk : ∀ {Z : Hp} {c : Addr}, Same G5 Z → Z c = none → H c = none := fun {Z c} sZ hc => by
                  cases e : H c with
                  | none => rfl
                  | some u =>
                    obtain ⟨φ5, eφ5⟩ := mem_ext (m5.mono sZ)
                    have ncd : c ≠ d := fun z => by
                      rw [z, eφ5] at hc
                      cases hc
                    have h1 := sZ _ _ (fr5 _ _ (by simpa using ncd) (s4 _ _ e))
                    rw [hc] at h1
                    cases h1
                rcases nv9 with rfl | h9
                · exact bk s57 hq
                · exact bk s59 h9
        · rintro σ G5 ⟨⟨v5, v7, v8, rfl⟩, fr5, S', m5, so5, ls5, no5⟩
          rw [List.length_map] at ls5
          rw [List.length_map, List.take_length] at no5
          have F5 := L4.fr eφ fr5
          have tr5 : TrAt G5 tt (ms, left, oth') := tr.mono fun c xs e => fr_at eφ fr5 e fun ψ z => by cases z
          dsimp only
          have eR : restP rs left.length ms ord left oth' = none := by
            rw [ef, restP_succ hz]
            exact no5
          refine mem_un (te_c.go ((te_fld (te_var rfl) F5.ob T.cl_Finder T.no_Finder__hopeless finF_2).go ((te_var rfl).go ⟨tt, d, (ms, left, oth'), S', rfl, rfl, tr5, m5, by rw [ef] at ls5; omega, fun H' hk mm => ?_⟩)))
          refine ret_te te_c (k1 H' _ (((Fr.of s4).trans fr5).trans fun c u n e => ?_) mm (so5.put L.pm eR) ?_ no5)
          · rw [hk c (by simpa using n)]
            exact e
          · have := len_putT (S := S') (t := (ms, left, oth'))
            rw [ef] at ls5
            omega
end
end O43

namespace O43
open PySem L2 YF
/-! ### find_order -/
def findP (rs : List Rc) (ms : List Int) : Option (List Int) := tailP rs (doneP rs).length ms [] (doneP rs) (othTo rs rs.length)
section
variable {P : Program} {w : World} {K : PySem.W.Frag} {mg : Str → Option Value} {base : Heap} {A : Adr}
def spFind (A : Adr) (K : PySem.W.Frag) : Sp := fun vs H Q E => ∃ (m R : Addr) (rs : List Rc) (ms : List Int), vs = [.ref m, .ref R] ∧ H m = some (.lst (ms.map V.int)) ∧ RecsIn A H R rs ∧ (∀ r ∈ rs, r.rd.length ≤ 1000) ∧ ms.length ≤ 1000 ∧
  ((doneP rs).length ≤ 8 → ∀ H', Same H H' → findP rs ms = none → Q .non H') ∧
  ((doneP rs).length ≤ 8 → ∀ H' t v, Same H H' → findP rs ms = some t → H' v = some (.lst (t.map V.int)) → H v = none → Q (.ref v) H') ∧
  (8 < (doneP rs).length → ∀ d H', Same H H' → H d = none → H' d = some (.xd (errF "records")) → E (.ref A.a_TooLarge) (some d) H')
theorem none_of {H H1 : Hp} {b : Addr} (s : Same H H1) (h : H1 b = none) : H b = none := by
  cases e : H b with
  | none => rfl
  | some o =>
    rw [s _ _ e] at h
    cases h
theorem ps_never {X : Cx} {st : Stmt} : PS X st (fun _ _ _ => False) := ⟨fun pins s σ H D I h => h.elim⟩
def spFind0 (A : Adr) : Sp := fun vs H Q _ => ∃ (m R : Addr) (rs : List Rc) (ms : List Int), vs = [.ref m, .ref R] ∧ H m = some (.lst (ms.map V.int)) ∧ RecsIn A H R rs ∧ (∀ r ∈ rs, r.rd.length ≤ 1000) ∧ ms.length ≤ 1000 ∧
  ((doneP rs).length ≤ 8 → ∀ H', Same H H' → findP rs ms = none → Q .non H') ∧
  ((doneP rs).length ≤ 8 → ∀ H' t v, Same H H' → findP rs ms = some t → H' v = some (.lst (t.map V.int)) → H v = none → Q (.ref v) H') ∧ (doneP rs).length ≤ 8
theorem ok_find_order (T : Txt K mg A) : FnOk P w K mg base (L2N.CX P w) 13 A.a_find_order A.d_find_order ["memory", "records"] (spFind A K) := by
  refine okN (k := 12) T.F_find_order sc_find_order (fun vs H Q E ⟨_, _, _, _, e, _⟩ => by rw [e]; rfl) (fun cdv A' outer s H vs Q E hr h => ?_)
  obtain ⟨m, R, rs, ms, rfl, hm, hR, hrd, lms, k1, k2, k3⟩ := h
  refine ⟨_, pss_cons (ps_set (i := 2) sc_find_order.nd rfl (Or.inl rfl) (pe_call (ok_done T) (hr.mono (by decide)) rfl T.g__done T.F__done.kp T.b__done .nil pass0 (pa_cons (pv 1) pa_nil)))
  (pss_cons (ps_if (pt_cmpR op_gt (pe_callB call_len_seq (by rfl) T.n_len (by decide +kernel) (pa_cons (pv 2) pa_nil)) (pe_glob (v := .int 8) rfl T.g_MOST_DONE ⟨_, rfl⟩) (nomark _))
  (pss_one (L2N.ps_raise rfl (L2N.takes_of rfl rfl rfl rfl) (pmkN_oex T.TooLarge_o T.TooLarge_i T.TooLarge_t (ok_TooLarge___init__ T) (hr.mono (by decide)) T.b_TooLarge___init__ pass0 (by exact rfl) T.g_TooLarge (pa_cons (pe_str) pa_nil))))
  (pss_nil))
  (pss_cons (ps_setLc (i := 3) (own := [("at", 4), ("record", 5)]) (g := gTup K 2 (gCons (gName 4) (gCons (gName 5) gNil))) rfl sc_find_order.nd rfl rfl (sw_true rfl rfl rfl (by decide +kernel)) (pi_enum (by rfl) T.n_enumerate (pa_cons (pv 1) pa_nil)) (blkOk_by (N := ["memory", "records", "done", "others", "at", "record"]) (sc := defScope s_find_order) (by decide +kernel)) (fun _ _ _ _ _ => pg_tup (by rfl) (pgs_cons (pg_name (i := 4) sc_find_order.nd rfl (Or.inl rfl)) (pgs_cons (pg_name (i := 5) sc_find_order.nd rfl (Or.inl rfl)) pgs_nil))) (fun _ _ _ _ _ => pts_one (pt_cmpR op_ne ((show PE _ _ (tFld K _ _) from pe_fld (pv 5) rfl)) (pe_str) (nomark _))) (fun _ _ _ _ _ => pv 4))
  (pss_one (ps_ret (pe_meth (pe_make T.mk_Finder (ok_Finder___init__ T) (hr.mono (by decide)) rfl T.g_Finder T.b_Finder___init__ .nil pass0 (pa_cons (pv 1) pa_nil)) T.cl_Finder T.m_Finder_least (ok_Finder_least T 9) (hr.mono (by decide)) T.b_Finder_least .nil pass0 (pa_cons (pe_callTy call_list_of (by rfl) T.n_list (by decide +kernel) (pa_cons (pv 0) pa_nil)) (pa_cons (pe_lst pa_nil) (pa_cons (pv 2) (pa_cons (pv 3) pa_nil))))))))), ?_⟩
  refine asg_un (call_un (cons_un ((te_var rfl).go (nil_un ⟨R, rs, rfl, hR, fun dn H1 s1 hdn e1 => ?_⟩))))
  try dsimp only
  refine ts_sl (σ' := [some (.ref m), some (.ref R), some (.ref dn), none, none, none]) rfl ?_
  have tl := te_len (K := K) (te := tVar 2) (σ := [some (.ref m), some (.ref R), some (.ref dn), none, none, none]) (te_var rfl) (.inl (SqL.of e1))
  rw [List.length_map] at tl
  refine if_seq (tt_test (te_i0 (g := fun i j => .bl (decide (j < i))) tl te_c)) (fun h => ?_) fun h => ?_
  · have h : 8 < (doneP rs).length := by
      have := of_decide_eq_true h
      omega
    exact raise_go (fun R q => q) fun d H' s' d0 d1 => k3 h d H' (s1.trans s') (none_of s1 d0) d1
  · have h : (doneP rs).length ≤ 8 := by
      have := of_decide_eq_false h
      omega
    obtain ⟨us, q1, q2, q3⟩ := id (hR.mono s1)
    have lu : us.length = rs.length := (paired_len q2).symm
    refine asg_un (lc_go (ti_enum (te_var rfl) (SqL.of q1)) walk_enum (fun L i H' => Same H1 H' ∧ H' L = some (.lst ((othTo rs i).map V.int))) (fun L hL => ⟨Same.upd hL, upd_same⟩) (fun L i H' _ h => SqL.of (h.1 _ _ q1)) ?_ ?_)
    · rintro L i y G0 G hL hi ⟨s5, e5⟩ ⟨T0, x', y', rfl, hT, rfl, hx', hy⟩
      obtain rfl := (Option.some.inj hx').symm
      obtain ⟨r, er, hr1⟩ := paired_at q2 hy
      have nT : T0 ≠ L := fun z => by rw [z, e5] at hT; cases hT
      have s6 : Same H1 (upd G0 T0 (.tup [.int (i : Int), y'])) := s5.trans (Same.upd hT)
      have eL : (upd G0 T0 (.tup [.int (i : Int), y'])) L = G0 L := upd_ne nT.symm
      rw [e5] at eL
      refine pair_go upd_same ⟨rfl, tt_sl (σ' := [some (.ref m), some (.ref R), some (.ref dn), none, some (.int (i : Int)), some y']) rfl ?_⟩
      refine (tt_test (te_ne (te_kind (K := K) T (hr1.mono s6) (te_var rfl)) te_c rfl)).go ?_
      have ed : dnAt rs i = r.dn := by
        unfold dnAt
        rw [er]
      have es : othTo rs (i + 1) = othTo rs i ++ (if r.dn = false then [(i : Int)] else []) := by rw [othTo_succ, ed]
      by_cases hd : r.kd = "done"
      · have h2 : r.dn = true := decide_eq_true hd
        rw [h2, if_neg (by simp), List.append_nil] at es
        rw [decide_eq_true (by rw [hd]), Bool.not_true, if_neg (by simp)]
        exact ⟨s6, by rw [es]; exact eL⟩
      · have h2 : r.dn = false := decide_eq_false hd
        rw [h2, if_pos rfl] at es
        rw [decide_eq_false (fun z => hd (V.str.inj z)), Bool.not_false, if_pos rfl]
        refine (te_var (v := .int (i : Int)) rfl).go ⟨_, eL, ?_, Same.wr s6 hL, by rw [upd_same, es, List.map_append]; rfl⟩
        have := othTo_len (rs := rs) (i := i)
        rw [List.length_map, sizeLine_eq]
        omega
    rintro oth G hoth ⟨s5, e5⟩
    rw [lu] at e5
    try dsimp only
    refine ts_sl (σ' := [some (.ref m), some (.ref R), some (.ref dn), some (.ref oth), none, none]) rfl ?_
    have sG := s1.trans s5
    refine ret_un (meth_un (go_make (vs := [.ref R]) (ta_cons (te_var rfl) ta_nil) fun x dx hx hdx ne => ?_))
    have s3 : Same G (upd (upd G dx (.own x)) x (.ins A.a_Finder dx [])) := (Same.upd hdx).trans (Same.upd (by rw [upd_ne ne.symm]; exact hx))
    have hd0 : ∀ {b : Addr}, (upd (upd G dx (.own x)) x (.ins A.a_Finder dx [])) b = none → G b = none := fun {b} e => by
      cases q : G b with
      | none => rfl
      | some u =>
        rw [s3 _ _ q] at e
        cases e
    refine ⟨x, dx, R, rfl, upd_same, fun d H4 hd ndx fr4 ex4 mm4 => ⟨rfl, x, dx, _, rfl, ex4, finF_no (by decide +kernel) (by decide +kernel), ?_⟩⟩
    have s4 : Same G H4 := fun c u e => fr4 c u (by simpa using ne_of_none e hx) (s3 _ _ e)
    have hm4 := s4 _ _ (sG _ _ hm)
    refine cons_un ((tn_list (te_var rfl) (.inl (SqL.of hm4))).go fun c1 hc1 => cons_un (lstd_un (nil_un ⟨Nat.zero_le _, fun o1 ho1 => cons_un ((te_var rfl).go (cons_un ((te_var rfl).go (nil_un ?_))))⟩)))
    have q6 : Same H4 (upd H4 c1 (.lst (ms.map V.int))) := Same.upd hc1
    have w6 : (upd H4 c1 (.lst (ms.map V.int))) c1 = some (.lst (ms.map V.int)) := upd_same
    generalize upd H4 c1 (HO.lst (ms.map V.int)) = H5 at q6 w6 ho1 ⊢
    have ho1n := ho1
    have q7 : Same H5 (upd H5 o1 (.lst [])) := Same.upd ho1
    have w7 : (upd H5 o1 (.lst [])) o1 = some (.lst (([] : List Int).map V.int)) := upd_same
    generalize upd H5 o1 (HO.lst []) = H6 at q7 w7 ⊢
    have s46 := q6.trans q7
    have s06 := (sG.trans s4).trans s46
    have lr := q3
    have dG := hd0 hd
    have back : ∀ {H' : Hp}, Fr [d] H6 H' → Same H H' := fun fr c u e => fr c u (by simpa using ne_of_none (sG _ _ e) dG) (s06 _ _ e)
    have cl : ∀ n, n < 9 → cstL n ≤ 100000 := by decide
    have eT : tailP rs (doneP rs).length ms [] (doneP rs) (othTo rs rs.length) = findP rs ms := rfl
    refine ⟨x, dx, R, d, c1, o1, dn, oth, rs, ms, [], doneP rs, othTo rs rs.length, [], rfl, ⟨⟨s46 _ _ ex4, hR.mono s06, q7 _ _ w6, hrd⟩, w7, s46 _ _ (s4 _ _ (s5 _ _ e1)), s46 _ _ (s4 _ _ e5), by rw [List.nil_append], fun j hj => ?_, Nat.le_trans othTo_len lr, lms, lr, mm4.mono s46, (fun t ht => nomatch ht), ?_⟩, by omega, fun H' S' fr mm so ls t => k1 h H' (back fr) (eT.symm.trans t), fun H' S' t v fr mm so ls tt hv nv => k2 h H' t v (back fr) (eT.symm.trans tt) hv (nv.elim (fun z => by rw [z]; exact none_of ((sG.trans s4).trans q6) ho1n) fun z => none_of s06 z)⟩
    · obtain ⟨kk, rfl, hk⟩ := othTo_mem hj
      omega
    · have := cl (doneP rs).length (by omega)
      show 0 + cstL (doneP rs).length ≤ 15000000
      omega
theorem ok_find_order0 (T : Txt K mg A) : FnOk P w K mg base CX0 13 A.a_find_order A.d_find_order ["memory", "records"] (spFind0 A) := by
  refine T.F_find_order.ok (k := 12) sc_find_order (fun vs H Q E ⟨_, _, _, _, e, _⟩ => by rw [e]; rfl) (fun cdv A' outer s H vs Q E hr h => ?_)
  obtain ⟨m, R, rs, ms, rfl, hm, hR, hrd, lms, k1, k2, k3⟩ := h
  refine ⟨_, pss_cons (ps_set (i := 2) sc_find_order.nd rfl (Or.inl rfl) (pe_call (ok_done T) (hr.mono (by decide)) rfl T.g__done T.F__done.kp T.b__done .nil pass0 (pa_cons (pv 1) pa_nil)))
  (pss_cons (ps_if (pt_cmpR op_gt (pe_callB call_len_seq (by rfl) T.n_len (by decide +kernel) (pa_cons (pv 2) pa_nil)) (pe_glob (v := .int 8) rfl T.g_MOST_DONE ⟨_, rfl⟩) (nomark _))
  (pss_one (ps_never))
  (pss_nil))
  (pss_cons (ps_setLc (i := 3) (own := [("at", 4), ("record", 5)]) (g := gTup K 2 (gCons (gName 4) (gCons (gName 5) gNil))) rfl sc_find_order.nd rfl rfl (sw_true rfl rfl rfl (by decide +kernel)) (pi_enum (by rfl) T.n_enumerate (pa_cons (pv 1) pa_nil)) (blkOk_by (N := ["memory", "records", "done", "others", "at", "record"]) (sc := defScope s_find_order) (by decide +kernel)) (fun _ _ _ _ _ => pg_tup (by rfl) (pgs_cons (pg_name (i := 4) sc_find_order.nd rfl (Or.inl rfl)) (pgs_cons (pg_name (i := 5) sc_find_order.nd rfl (Or.inl rfl)) pgs_nil))) (fun _ _ _ _ _ => pts_one (pt_cmpR op_ne ((show PE _ _ (tFld K _ _) from pe_fld (pv 5) rfl)) (pe_str) (nomark _))) (fun _ _ _ _ _ => pv 4))
  (pss_one (ps_ret (pe_meth (pe_make T.mk_Finder (ok_Finder___init__ T) (hr.mono (by decide)) rfl T.g_Finder T.b_Finder___init__ .nil pass0 (pa_cons (pv 1) pa_nil)) T.cl_Finder T.m_Finder_least (ok_Finder_least T 9) (hr.mono (by decide)) T.b_Finder_least .nil pass0 (pa_cons (pe_callTy call_list_of (by rfl) T.n_list (by decide +kernel) (pa_cons (pv 0) pa_nil)) (pa_cons (pe_lst pa_nil) (pa_cons (pv 2) (pa_cons (pv 3) pa_nil))))))))), ?_⟩
  refine asg_un (call_un (cons_un ((te_var rfl).go (nil_un ⟨R, rs, rfl, hR, fun dn H1 s1 hdn e1 => ?_⟩))))
  try dsimp only
  refine ts_sl (σ' := [some (.ref m), some (.ref R), some (.ref dn), none, none, none]) rfl ?_
  have tl := te_len (K := K) (te := tVar 2) (σ := [some (.ref m), some (.ref R), some (.ref dn), none, none, none]) (te_var rfl) (.inl (SqL.of e1))
  rw [List.length_map] at tl
  refine if_seq (tt_test (te_i0 (g := fun i j => .bl (decide (j < i))) tl te_c)) (fun h => ?_) fun h => ?_
  · have h : 8 < (doneP rs).length := by
      have := of_decide_eq_true h
      omega
    exact absurd k3 (by omega)
  · have h : (doneP rs).length ≤ 8 := by
      have := of_decide_eq_false h
      omega
    obtain ⟨us, q1, q2, q3⟩ := id (hR.mono s1)
    have lu : us.length = rs.length := (paired_len q2).symm
    refine asg_un (lc_go (ti_enum (te_var rfl) (SqL.of q1)) walk_enum (fun L i H' => Same H1 H' ∧ H' L = some (.lst ((othTo rs i).map V.int))) (fun L hL => ⟨Same.upd hL, upd_same⟩) (fun L i H' _ h => SqL.of (h.1 _ _ q1)) ?_ ?_)
    · rintro L i y G0 G hL hi ⟨s5, e5⟩ ⟨T0, x', y', rfl, hT, rfl, hx', hy⟩
      obtain rfl := (Option.some.inj hx').symm
      obtain ⟨r, er, hr1⟩ := paired_at q2 hy
      have nT : T0 ≠ L := fun z => by rw [z, e5] at hT; cases hT
      have s6 : Same H1 (upd G0 T0 (.tup [.int (i : Int), y'])) := s5.trans (Same.upd hT)
      have eL : (upd G0 T0 (.tup [.int (i : Int), y'])) L = G0 L := upd_ne nT.symm
      rw [e5] at eL
      refine pair_go upd_same ⟨rfl, tt_sl (σ' := [some (.ref m), some (.ref R), some (.ref dn), none, some (.int (i : Int)), some y']) rfl ?_⟩
      refine (tt_test (te_ne (te_kind (K := K) T (hr1.mono s6) (te_var rfl)) te_c rfl)).go ?_
      have ed : dnAt rs i = r.dn := by
        unfold dnAt
        rw [er]
      have es : othTo rs (i + 1) = othTo rs i ++ (if r.dn = false then [(i : Int)] else []) := by rw [othTo_succ, ed]
      by_cases hd : r.kd = "done"
      · have h2 : r.dn = true := decide_eq_true hd
        rw [h2, if_neg (by simp), List.append_nil] at es
        rw [decide_eq_true (by rw [hd]), Bool.not_true, if_neg (by simp)]
        exact ⟨s6, by rw [es]; exact eL⟩
      · have h2 : r.dn = false := decide_eq_false hd
        rw [h2, if_pos rfl] at es
        rw [decide_eq_false (fun z => hd (V.str.inj z)), Bool.not_false, if_pos rfl]
        refine (te_var (v := .int (i : Int)) rfl).go ⟨_, eL, ?_, Same.wr s6 hL, by rw [upd_same, es, List.map_append]; rfl⟩
        have := othTo_len (rs := rs) (i := i)
        rw [List.length_map, sizeLine_eq]
        omega
    rintro oth G hoth ⟨s5, e5⟩
    rw [lu] at e5
    try dsimp only
    refine ts_sl (σ' := [some (.ref m), some (.ref R), some (.ref dn), some (.ref oth), none, none]) rfl ?_
    have sG := s1.trans s5
    refine ret_un (meth_un (go_make (vs := [.ref R]) (ta_cons (te_var rfl) ta_nil) fun x dx hx hdx ne => ?_))
    have s3 : Same G (upd (upd G dx (.own x)) x (.ins A.a_Finder dx [])) := (Same.upd hdx).trans (Same.upd (by rw [upd_ne ne.symm]; exact hx))
    have hd0 : ∀ {b : Addr}, (upd (upd G dx (.own x)) x (.ins A.a_Finder dx [])) b = none → G b = none := fun {b} e => by
      cases q : G b with
      | none => rfl
      | some u =>
        rw [s3 _ _ q] at e
        cases e
    refine ⟨x, dx, R, rfl, upd_same, fun d H4 hd ndx fr4 ex4 mm4 => ⟨rfl, x, dx, _, rfl, ex4, finF_no (by decide +kernel) (by decide +kernel), ?_⟩⟩
    have s4 : Same G H4 := fun c u e => fr4 c u (by simpa using ne_of_none e hx) (s3 _ _ e)
    have hm4 := s4 _ _ (sG _ _ hm)
    refine cons_un ((tn_list (te_var rfl) (.inl (SqL.of hm4))).go fun c1 hc1 => cons_un (lstd_un (nil_un ⟨Nat.zero_le _, fun o1 ho1 => cons_un ((te_var rfl).go (cons_un ((te_var rfl).go (nil_un ?_))))⟩)))
    have q6 : Same H4 (upd H4 c1 (.lst (ms.map V.int))) := Same.upd hc1
    have w6 : (upd H4 c1 (.lst (ms.map V.int))) c1 = some (.lst (ms.map V.int)) := upd_same
    generalize upd H4 c1 (HO.lst (ms.map V.int)) = H5 at q6 w6 ho1 ⊢
    have ho1n := ho1
    have q7 : Same H5 (upd H5 o1 (.lst [])) := Same.upd ho1
    have w7 : (upd H5 o1 (.lst [])) o1 = some (.lst (([] : List Int).map V.int)) := upd_same
    generalize upd H5 o1 (HO.lst []) = H6 at q7 w7 ⊢
    have s46 := q6.trans q7
    have s06 := (sG.trans s4).trans s46
    have lr := q3
    have dG := hd0 hd
    have back : ∀ {H' : Hp}, Fr [d] H6 H' → Same H H' := fun fr c u e => fr c u (by simpa using ne_of_none (sG _ _ e) dG) (s06 _ _ e)
    have cl : ∀ n, n < 9 → cstL n ≤ 100000 := by decide
    have eT : tailP rs (doneP rs).length ms [] (doneP rs) (othTo rs rs.length) = findP rs ms := rfl
    refine ⟨x, dx, R, d, c1, o1, dn, oth, rs, ms, [], doneP rs, othTo rs rs.length, [], rfl, ⟨⟨s46 _ _ ex4, hR.mono s06, q7 _ _ w6, hrd⟩, w7, s46 _ _ (s4 _ _ (s5 _ _ e1)), s46 _ _ (s4 _ _ e5), by rw [List.nil_append], fun j hj => ?_, Nat.le_trans othTo_len lr, lms, lr, mm4.mono s46, (fun t ht => nomatch ht), ?_⟩, by omega, fun H' S' fr mm so ls t => k1 h H' (back fr) (eT.symm.trans t), fun H' S' t v fr mm so ls tt hv nv => k2 h H' t v (back fr) (eT.symm.trans tt) hv (nv.elim (fun z => by rw [z]; exact none_of ((sG.trans s4).trans q6) ho1n) fun z => none_of s06 z)⟩
    · obtain ⟨kk, rfl, hk⟩ := othTo_mem hj
      omega
    · have := cl (doneP rs).length (by omega)
      show 0 + cstL (doneP rs).length ≤ 15000000
      omega
end
end O43

namespace O43
open PySem L2 YF
/-! ### the search finds the least order -/
def allL : Nat → List Int → List (List Int)
  | 0, l => if l = [] then [[]] else []
  | f + 1, l => if l = [] then [[]] else (List.range l.length).flatMap fun k => (allL f (l.take k ++ l.drop (k + 1))).map fun t => l.getD k 0 :: t
theorem allL_nil : ∀ f, allL f [] = [[]]
  | 0 => rfl
  | _ + 1 => rfl
theorem allL_succ {f : Nat} {l : List Int} (h : l ≠ []) : allL (f + 1) l = (List.range l.length).flatMap fun k => (allL f (l.take k ++ l.drop (k + 1))).map fun t => l.getD k 0 :: t := by
  show (if l = [] then _ else _) = _
  rw [if_neg h]
theorem perm_at {l : List Int} {k : Nat} (h : k < l.length) : (l.getD k 0 :: (l.take k ++ l.drop (k + 1))).Perm l := by
  have e : l.getD k 0 = l[k] := by rw [List.getD_eq_getElem?_getD, List.getElem?_eq_getElem h]; rfl
  rw [e]
  have h2 : l.take k ++ l[k] :: l.drop (k + 1) = l := by
    rw [← List.drop_eq_getElem_cons h, List.take_append_drop]
  have h3 := (List.perm_middle (a := l[k]) (l₁ := l.take k) (l₂ := l.drop (k + 1))).symm
  rw [h2] at h3
  exact h3
theorem allL_perm : ∀ {f : Nat} {l t : List Int}, t ∈ allL f l → t.Perm l
  | 0, l, t, h => by
    unfold allL at h
    by_cases z : l = []
    · rw [if_pos z] at h
      rw [List.mem_singleton.mp h, z]
    · rw [if_neg z] at h
      cases h
  | f + 1, l, t, h => by
    by_cases z : l = []
    · rw [z, allL_nil] at h
      rw [List.mem_singleton.mp h, z]
    · rw [allL_succ z] at h
      obtain ⟨k, hk, h2⟩ := List.mem_flatMap.mp h
      obtain ⟨u, hu, rfl⟩ := List.mem_map.mp h2
      exact ((allL_perm hu).cons _).trans (perm_at (List.mem_range.mp hk))
theorem out_at {l : List Int} {k : Nat} (nd : l.Nodup) (h : k < l.length) : l.take k ++ l.drop (k + 1) = outL (l.getD k 0) l := by
  have e : l.getD k 0 = l[k] := by rw [List.getD_eq_getElem?_getD, List.getElem?_eq_getElem h]; rfl
  have h2 : l = l.take k ++ l[k] :: l.drop (k + 1) := by
    rw [← List.drop_eq_getElem_cons h, List.take_append_drop]
  rw [e]
  generalize l[k] = a at h2
  generalize l.take k = x at h2 ⊢
  generalize l.drop (k + 1) = y at h2 ⊢
  subst h2
  have nd2 := (List.perm_middle (a := a) (l₁ := x) (l₂ := y)).nodup_iff.mp nd
  have na : a ∉ x ++ y := (List.nodup_cons.mp nd2).1
  have kp : ∀ {z : List Int}, a ∉ z → outL a z = z := fun {z} hz => by
    unfold outL
    refine List.filter_eq_self.mpr fun b hb => ?_
    simp only [decide_eq_true_eq]
    exact fun q => hz (by rw [← q]; exact hb)
  have e1 := kp (z := x) fun q => na (List.mem_append_left _ q)
  have e2 := kp (z := y) fun q => na (List.mem_append_right _ q)
  unfold outL at e1 e2 ⊢
  rw [List.filter_append, List.filter_cons, e1, e2]
  simp
theorem find_congr {α : Type} {p q : α → Bool} : ∀ {l : List α}, (∀ x ∈ l, p x = q x) → l.find? p = l.find? q
  | [], _ => rfl
  | x :: l, h => by
    rw [List.find?_cons, List.find?_cons, h x List.mem_cons_self, find_congr fun y hy => h y (List.mem_cons_of_mem _ hy)]
theorem findSome_range {β : Type} {l : List Int} {g : Int → Option β} : l.findSome? g = (List.range l.length).findSome? fun k => g (l.getD k 0) := by
  have h : l = (List.range l.length).map fun k => l.getD k 0 := by
    refine List.ext_getElem? fun k => ?_
    by_cases hk : k < l.length
    · rw [List.getElem?_map, List.getElem?_range hk, List.getElem?_eq_getElem hk]
      simp [List.getD_eq_getElem?_getD, List.getElem?_eq_getElem hk]
    · rw [List.getElem?_eq_none (by omega), List.getElem?_eq_none (by rw [List.length_map, List.length_range]; omega)]
  have h2 := List.findSome?_map (f := fun k => l.getD k 0) (p := g) (l := List.range l.length)
  rw [← h] at h2
  rw [h2]
  rfl
theorem findSome_congr {α β : Type} {g h : α → Option β} : ∀ {l : List α}, (∀ x ∈ l, g x = h x) → l.findSome? g = l.findSome? h
  | [], _ => rfl
  | x :: l, e => by
    rw [List.findSome?_cons, List.findSome?_cons, e x List.mem_cons_self, findSome_congr fun y hy => e y (List.mem_cons_of_mem _ hy)]
/-! what is asked of the rest t of an order behind pre -/
def agT (rs : List Rc) (ms pre t : List Int) : Bool := (List.range t.length).all fun k => agP (rcAt rs (t.getD k 0)).rd (behP rs ms (pre ++ t.take k))
def tmT (rs : List Rc) (t : List Int) : Bool := decide (t.Pairwise fun a b => (rcAt rs a).bg ≤ (rcAt rs b).en)
def paT (rs : List Rc) (ms pre t : List Int) (i : Int) : Bool := (List.range (t.length + 1)).any fun k => pastP rs (behP rs ms (pre ++ t.take k)) (pre ++ t.take k) (t.drop k) i
def tOK (rs : List Rc) (ms pre os t : List Int) : Bool := agT rs ms pre t && (tmT rs t && os.all (paT rs ms pre t))
theorem earlyB_perm {rs : List Rc} {l l2 : List Int} {i : Int} (h : l.Perm l2) : earlyB rs l i = earlyB rs l2 i := by
  unfold earlyB
  rw [Bool.eq_iff_iff, List.any_eq_true, List.any_eq_true]
  exact ⟨fun ⟨x, hx, e⟩ => ⟨x, h.mem_iff.mp hx, e⟩, fun ⟨x, hx, e⟩ => ⟨x, h.mem_iff.mpr hx, e⟩⟩
theorem pastP_perm {rs : List Rc} {ms o l l2 : List Int} {i : Int} (h : l.Perm l2) : pastP rs ms o l i = pastP rs ms o l2 i := by
  unfold pastP
  rw [earlyB_perm h]
theorem agT_cons {rs : List Rc} {ms pre t : List Int} {i : Int} : agT rs ms pre (i :: t) = (agP (rcAt rs i).rd (behP rs ms pre) && agT rs ms (pre ++ [i]) t) := by
  unfold agT
  rw [List.length_cons, List.range_succ_eq_map, List.all_cons, List.all_map]
  congr 1
  · simp
  · refine congrArg (fun f => (List.range t.length).all f) (funext fun k => ?_)
    simp
theorem tmT_cons {rs : List Rc} {t l : List Int} {i : Int} (h : t.Perm l) : tmT rs (i :: t) = (!earlyB rs l i && tmT rs t) := by
  unfold tmT
  rw [← earlyB_perm h, Bool.eq_iff_iff, decide_eq_true_iff, List.pairwise_cons, Bool.and_eq_true_iff, decide_eq_true_iff]
  refine and_congr ?_ Iff.rfl
  unfold earlyB
  rw [Bool.not_eq_true', List.any_eq_false]
  constructor
  · intro h a ha
    have := h a ha
    simp only [decide_eq_true_eq]
    omega
  · intro h a ha
    have := h a ha
    simp only [decide_eq_true_eq] at this
    omega
theorem paT_cons {rs : List Rc} {ms pre t : List Int} {i j : Int} : paT rs ms pre (i :: t) j = (pastP rs (behP rs ms pre) pre (i :: t) j || paT rs ms (pre ++ [i]) t j) := by
  unfold paT
  rw [List.length_cons, List.range_succ_eq_map, List.any_cons, List.any_map]
  congr 1
  · simp
  · refine congrArg (fun f => (List.range (t.length + 1)).any f) (funext fun k => ?_)
    simp
theorem tOK_cons {rs : List Rc} {ms pre os t l : List Int} {i : Int} (nd : l.Nodup) (hi : i ∈ l) (ht : t.Perm (outL i l)) :
    tOK rs ms pre os (i :: t) = (mayP rs (behP rs ms pre) l i && tOK rs ms (pre ++ [i]) (leftO rs (behP rs ms pre) pre l os) t) := by
  have hp : (i :: t).Perm l := (ht.cons i).trans (outL_perm nd hi).symm
  have eo : os.all (paT rs ms pre (i :: t)) = (leftO rs (behP rs ms pre) pre l os).all (paT rs ms (pre ++ [i]) t) := by
    unfold leftO
    rw [List.all_filter]
    refine congrArg (fun f => os.all f) (funext fun j => ?_)
    rw [paT_cons, pastP_perm hp]
    cases pastP rs (behP rs ms pre) pre l j <;> simp
  unfold tOK
  rw [agT_cons, tmT_cons ht, eo]
  unfold mayP
  show _ = ((!earlyB rs (outL i l) i && _) && _)
  generalize agP (rcAt rs i).rd (behP rs ms pre) = b1
  generalize agT rs ms (pre ++ [i]) t = b2
  generalize earlyB rs (outL i l) i = b3
  generalize tmT rs t = b4
  generalize List.all _ _ = b5
  cases b1 <;> cases b2 <;> cases b3 <;> cases b4 <;> cases b5 <;> rfl
theorem rest_find {rs : List Rc} {ms : List Int} : ∀ {f : Nat} {pre l os : List Int}, l.length = f → l.Nodup → restP rs f (behP rs ms pre) pre l (leftO rs (behP rs ms pre) pre l os) = (allL f l).find? (tOK rs ms pre os)
  | f, pre, [], os, _, _ => by
    rw [restP_nil, allL_nil]
    have e : tOK rs ms pre os [] = decide (leftO rs (behP rs ms pre) pre [] os = []) := by
      unfold tOK
      have e1 : agT rs ms pre [] = true := rfl
      have e2 : tmT rs [] = true := by simp [tmT]
      rw [e1, e2, Bool.true_and, Bool.true_and]
      unfold leftO
      rw [Bool.eq_iff_iff, decide_eq_true_iff, List.filter_eq_nil_iff, List.all_eq_true]
      refine forall_congr' fun j => imp_congr_right fun hj => ?_
      have e3 : paT rs ms pre [] j = pastP rs (behP rs ms pre) pre [] j := by
        unfold paT
        simp
      rw [e3]
      cases pastP rs (behP rs ms pre) pre [] j <;> simp
    rw [List.find?_cons, e]
    by_cases z : leftO rs (behP rs ms pre) pre [] os = []
    · rw [if_pos z, decide_eq_true z]
    · rw [if_neg z, decide_eq_false z]
      rfl
  | 0, pre, a :: l, os, h, _ => by cases h
  | f + 1, pre, a :: r, os, h, nd => by
    generalize hl : a :: r = l at h nd ⊢
    have hz : l ≠ [] := by rw [← hl]; exact fun q => nomatch q
    rw [restP_succ hz, allL_succ hz, List.find?_flatMap, findSome_range]
    refine findSome_congr fun k hk => ?_
    have hk := List.mem_range.mp hk
    have hi : l.getD k 0 ∈ l := by
      rw [List.getD_eq_getElem?_getD, List.getElem?_eq_getElem hk]
      exact List.getElem_mem _
    rw [out_at nd hk, List.find?_map]
    generalize l.getD k 0 = i at hi
    have lo := outL_len nd hi
    have ndo : (outL i l).Nodup := (List.filter_sublist).nodup nd
    unfold altP
    have ih := rest_find (rs := rs) (ms := ms) (f := f) (pre := pre ++ [i]) (l := outL i l) (os := leftO rs (behP rs ms pre) pre l os) (by omega) ndo
    rw [behP_snoc] at ih
    cases hm : mayP rs (behP rs ms pre) l i with
    | false =>
      rw [if_neg (by decide)]
      have e : (allL f (outL i l)).find? (tOK rs ms pre os ∘ fun t => i :: t) = none := by
        refine List.find?_eq_none.mpr fun t ht => ?_
        show ¬ tOK rs ms pre os (i :: t) = true
        rw [tOK_cons nd hi (allL_perm ht), hm]
        simp
      rw [e]
      rfl
    | true =>
      rw [if_pos rfl, ih]
      refine congrArg (fun o => Option.map _ o) (find_congr fun t ht => ?_)
      show _ = tOK rs ms pre os (i :: t)
      rw [tOK_cons nd hi (allL_perm ht), hm, Bool.true_and]
theorem past_ok {rs : List Rc} {ms ix : List Int} {i : Int} {k : Nat} (hp : ix.Perm (doneP rs)) : pastP rs (behP rs ms (ix.take k)) (ix.take k) (ix.drop k) i = okK rs ms ix (rcAt rs i) k := by
  have nd : (ix.take k ++ ix.drop k).Nodup := by
    rw [List.take_append_drop]
    exact hp.nodup_iff.mpr doneP_nodup
  have e1 : (!earlyB rs (ix.drop k) i) = noEarly rs ix (rcAt rs i) k := by
    unfold earlyB noEarly
    rw [Bool.eq_iff_iff, Bool.not_eq_true', List.any_eq_false, List.all_eq_true]
    constructor
    · intro h j hj
      by_cases z : j ∈ ix.take k
      · simp [z]
      · have hj2 : j ∈ ix := hp.mem_iff.mpr hj
        rw [← List.take_append_drop k ix] at hj2
        have := h j ((List.mem_append.mp hj2).resolve_left z)
        simpa [z] using this
    · intro h j hj
      have hj2 : j ∈ doneP rs := hp.mem_iff.mp (List.mem_of_mem_drop hj)
      have z : j ∉ ix.take k := fun q => (List.nodup_append.mp nd).2.2 j q j hj rfl
      have := h j hj2
      simpa [z] using this
  have e2 : (!lateB rs (ix.take k) i) = noLate rs ix (rcAt rs i) k := by
    unfold lateB noLate
    rw [Bool.eq_iff_iff, Bool.not_eq_true', List.any_eq_false, List.all_eq_true]
    exact forall_congr' fun j => imp_congr_right fun _ => by simp
  unfold pastP okK
  rw [e1, e2, Bool.and_assoc]
theorem tOK_isO {rs : List Rc} {ms ix : List Int} (hp : ix.Perm (doneP rs)) : tOK rs ms [] (othTo rs rs.length) ix = isO rs ms ix := by
  unfold tOK isO
  rw [decide_eq_true hp, Bool.true_and]
  have e1 : agT rs ms [] ix = agIn rs ms ix := rfl
  have e2 : tmT rs ix = timeOk rs ix := rfl
  have e3 : (othTo rs rs.length).all (paT rs ms [] ix) = allP rs ms ix := by
    rw [← allP_eq]
    refine congrArg (fun f => (othTo rs rs.length).all f) (funext fun j => ?_)
    unfold paT pst
    have e4 : ∀ k, pastP rs (behP rs ms ([] ++ ix.take k)) ([] ++ ix.take k) (ix.drop k) j = okK rs ms ix (rcAt rs j) k := fun k => past_ok hp
    rw [show (fun k => pastP rs (behP rs ms ([] ++ ix.take k)) ([] ++ ix.take k) (ix.drop k) j) = okK rs ms ix (rcAt rs j) from funext e4]
    rw [List.isEmpty_map, Bool.eq_iff_iff, List.any_eq_true, Bool.not_eq_true', List.isEmpty_eq_false_iff_exists_mem]
    exact exists_congr fun k => List.mem_filter.symm
  rw [e1, e2, e3]
theorem findP_eq {rs : List Rc} {ms : List Int} : findP rs ms = (allL (doneP rs).length (doneP rs)).find? (isO rs ms) := by
  unfold findP tailP
  have h := rest_find (rs := rs) (ms := ms) (f := (doneP rs).length) (pre := []) (l := doneP rs) (os := othTo rs rs.length) rfl doneP_nodup
  have eb : behP rs ms [] = ms := rfl
  rw [eb] at h
  rw [h]
  exact find_congr fun ix hx => tOK_isO (allL_perm hx)
end O43

namespace O43
open PySem L2 YF
/-! ### orders of other records -/
def hasP (rs : List Rc) (ms ix : List Int) (i : Int) : Bool := !(pst rs ms ix (rcAt rs i)).isEmpty
theorem hasP_eq {rs : List Rc} {ms ix : List Int} {i : Int} : hasP rs ms ix i = (List.range (ix.length + 1)).any (okK rs ms ix (rcAt rs i)) := by
  unfold hasP pst
  rw [List.isEmpty_map, Bool.eq_iff_iff, List.any_eq_true, Bool.not_eq_true', List.isEmpty_eq_false_iff_exists_mem]
  exact exists_congr fun k => List.mem_filter
structure Emb (rs rs2 : List Rc) (φ : Int → Int) (I : Int → Prop) : Prop where
  dn : (doneP rs2).Perm ((doneP rs).map φ)
  inI : ∀ j ∈ doneP rs, I j
  wr : ∀ j, I j → wrAt rs2 (φ j) = wrAt rs j
  rd : ∀ j, I j → (rcAt rs2 (φ j)).rd = (rcAt rs j).rd
  lt : ∀ a b, I a → I b → ((rcAt rs2 (φ a)).en < (rcAt rs2 (φ b)).bg ↔ (rcAt rs a).en < (rcAt rs b).bg)
  inj : ∀ a b, I a → I b → φ a = φ b → a = b
section
variable {rs rs2 : List Rc} {φ : Int → Int} {I : Int → Prop} {ms ix : List Int}
theorem Emb.beh (E : Emb rs rs2 φ I) : ∀ {ix ms : List Int}, (∀ j ∈ ix, I j) → behP rs2 ms (ix.map φ) = behP rs ms ix := by
  intro ix
  unfold behP
  induction ix with
  | nil => exact fun _ => rfl
  | cons i r ih =>
    intro ms h
    rw [List.map_cons, List.foldl_cons, List.foldl_cons, E.wr i (h i List.mem_cons_self)]
    exact ih fun j hj => h j (List.mem_cons_of_mem _ hj)
theorem Emb.ag (E : Emb rs rs2 φ I) (h : ∀ j ∈ ix, I j) : agIn rs2 ms (ix.map φ) = agIn rs ms ix := by
  unfold agIn
  rw [List.length_map, Bool.eq_iff_iff, List.all_eq_true, List.all_eq_true]
  refine forall_congr' fun k => imp_congr_right fun hk => ?_
  have hk := List.mem_range.mp hk
  have e1 : ixAt (ix.map φ) k = φ (ixAt ix k) := by
    rw [ixAt_of (j := φ ix[k]) (by rw [List.getElem?_map, List.getElem?_eq_getElem hk]; rfl), ixAt_of (List.getElem?_eq_getElem hk)]
  have hm : I (ixAt ix k) := by
    rw [ixAt_of (List.getElem?_eq_getElem hk)]
    exact h _ (List.getElem_mem _)
  rw [e1, E.rd _ hm, ← List.map_take, E.beh fun j hj => h j (List.mem_of_mem_take hj)]
theorem Emb.time (E : Emb rs rs2 φ I) (h : ∀ j ∈ ix, I j) : timeOk rs2 (ix.map φ) = timeOk rs ix := by
  unfold timeOk
  rw [Bool.eq_iff_iff, decide_eq_true_iff, decide_eq_true_iff, List.pairwise_map]
  refine List.Pairwise.iff_of_mem fun {a b} ha hb => ?_
  have := E.lt b a (h b hb) (h a ha)
  constructor <;> intro q <;> omega
theorem Emb.mem (E : Emb rs rs2 φ I) {l : List Int} (h : ∀ j ∈ l, I j) {j : Int} (hj : I j) : φ j ∈ l.map φ ↔ j ∈ l := by
  constructor
  · intro q
    obtain ⟨x, hx, e⟩ := List.mem_map.mp q
    rw [← E.inj x j (h x hx) hj e]
    exact hx
  · exact fun q => List.mem_map.mpr ⟨j, q, rfl⟩
theorem Emb.ok (E : Emb rs rs2 φ I) (h : ∀ j ∈ ix, I j) {i : Int} (hi : I i) {k : Nat} : okK rs2 ms (ix.map φ) (rcAt rs2 (φ i)) k = okK rs ms ix (rcAt rs i) k := by
  have ht : ∀ j ∈ ix.take k, I j := fun j hj => h j (List.mem_of_mem_take hj)
  have e1 : noEarly rs2 (ix.map φ) (rcAt rs2 (φ i)) k = noEarly rs ix (rcAt rs i) k := by
    unfold noEarly
    rw [Bool.eq_iff_iff, List.all_eq_true, List.all_eq_true]
    constructor
    · intro q j hj
      have hIj := E.inI j hj
      have := q (φ j) (E.dn.mem_iff.mpr (List.mem_map.mpr ⟨j, hj, rfl⟩))
      rw [← List.map_take] at this
      have l := E.lt j i hIj hi
      have m := E.mem ht hIj
      simp only [Bool.or_eq_true, Bool.not_eq_true', decide_eq_false_iff_not, decide_eq_true_eq] at this ⊢
      rw [l, m] at this
      exact this
    · intro q j2 hj2
      obtain ⟨j, hj, rfl⟩ := List.mem_map.mp (E.dn.mem_iff.mp hj2)
      have hIj := E.inI j hj
      have := q j hj
      rw [← List.map_take]
      have l := E.lt j i hIj hi
      have m := E.mem ht hIj
      simp only [Bool.or_eq_true, Bool.not_eq_true', decide_eq_false_iff_not, decide_eq_true_eq] at this ⊢
      rw [l, m]
      exact this
  have e2 : noLate rs2 (ix.map φ) (rcAt rs2 (φ i)) k = noLate rs ix (rcAt rs i) k := by
    unfold noLate
    rw [← List.map_take, List.all_map, Bool.eq_iff_iff, List.all_eq_true, List.all_eq_true]
    refine forall_congr' fun j => imp_congr_right fun hj => ?_
    have l := E.lt i j hi (ht j hj)
    show (!decide ((rcAt rs2 (φ i)).en < (rcAt rs2 (φ j)).bg)) = true ↔ _
    simp only [Bool.not_eq_true', decide_eq_false_iff_not]
    rw [l]
  unfold okK
  rw [e1, e2, E.rd i hi, ← List.map_take, E.beh ht]
theorem Emb.has (E : Emb rs rs2 φ I) (h : ∀ j ∈ ix, I j) {i : Int} (hi : I i) : hasP rs2 ms (ix.map φ) (φ i) = hasP rs ms ix i := by
  rw [hasP_eq, hasP_eq, List.length_map]
  exact congrArg (fun f => (List.range (ix.length + 1)).any f) (funext fun k => E.ok h hi)
theorem isO_iff : isO rs ms ix = true ↔ ix.Perm (doneP rs) ∧ agIn rs ms ix = true ∧ timeOk rs ix = true ∧ ∀ j ∈ othTo rs rs.length, hasP rs ms ix j = true := by
  unfold isO
  rw [Bool.and_eq_true, Bool.and_eq_true, Bool.and_eq_true, decide_eq_true_iff, ← allP_eq, List.all_eq_true]
  exact Iff.rfl
/-- orders of the ones are orders of the others -/
theorem Emb.to (E : Emb rs rs2 φ I) (ho : ∀ j2 ∈ othTo rs2 rs2.length, (∃ j ∈ othTo rs rs.length, I j ∧ j2 = φ j) ∨ (timeOk rs ix = true → ix.Perm (doneP rs) → hasP rs2 ms (ix.map φ) j2 = true)) (h : isO rs ms ix = true) : isO rs2 ms (ix.map φ) = true := by
  obtain ⟨h1, h2, h3, h4⟩ := isO_iff.mp h
  have hI : ∀ j ∈ ix, I j := fun j hj => E.inI j (h1.mem_iff.mp hj)
  refine isO_iff.mpr ⟨(h1.map φ).trans E.dn.symm, by rw [E.ag hI]; exact h2, by rw [E.time hI]; exact h3, fun j2 hj2 => ?_⟩
  rcases ho j2 hj2 with ⟨j, hj, hIj, rfl⟩ | q
  · rw [E.has hI hIj]
    exact h4 j hj
  · exact q h3 h1
theorem Emb.from (E : Emb rs rs2 φ I) (ho : ∀ j ∈ othTo rs rs.length, I j ∧ φ j ∈ othTo rs2 rs2.length) (hp : ix.Perm (doneP rs)) (h : isO rs2 ms (ix.map φ) = true) : isO rs ms ix = true := by
  obtain ⟨h1, h2, h3, h4⟩ := isO_iff.mp h
  have hI : ∀ j ∈ ix, I j := fun j hj => E.inI j (hp.mem_iff.mp hj)
  refine isO_iff.mpr ⟨hp, by rw [← E.ag hI]; exact h2, by rw [← E.time hI]; exact h3, fun j hj => ?_⟩
  obtain ⟨hIj, hm⟩ := ho j hj
  rw [← E.has hI hIj]
  exact h4 _ hm
end
theorem othTo_iff {rs : List Rc} {j : Int} : j ∈ othTo rs rs.length ↔ ∃ k : Nat, j = k ∧ k < rs.length ∧ dnAt rs k = false := by
  unfold othTo
  constructor
  · intro h
    obtain ⟨k, h1, h2⟩ := List.mem_map.mp h
    obtain ⟨h3, h4⟩ := List.mem_filter.mp h1
    exact ⟨k, h2.symm, List.mem_range.mp h3, by simpa using h4⟩
  · rintro ⟨k, rfl, h1, h2⟩
    exact List.mem_map.mpr ⟨k, List.mem_filter.mpr ⟨List.mem_range.mpr h1, by simpa using h2⟩, rfl⟩
theorem doneP_iff {rs : List Rc} {j : Int} : j ∈ doneP rs ↔ ∃ k : Nat, j = k ∧ k < rs.length ∧ dnAt rs k = true :=
  ⟨fun h => doneP_mem h, fun ⟨k, e, h1, h2⟩ => by rw [e]; exact doneP_of h1 h2⟩
theorem find_same {rs rs2 : List Rc} {ms : List Int} (hd : doneP rs2 = doneP rs) (h : ∀ ix : List Int, ix.Perm (doneP rs) → isO rs2 ms ix = isO rs ms ix) : findP rs2 ms = findP rs ms := by
  rw [findP_eq, findP_eq, hd]
  exact find_congr fun ix hx => h ix (allL_perm hx)
/-! one more, that reads nothing -/
section
variable {rs : List Rc} {e : Rc} {ms ix : List Int}
theorem rc_app {j : Int} (h0 : 0 ≤ j) (h1 : j < rs.length) : rcAt (rs ++ [e]) j = rcAt rs j := by
  have hk : j.toNat < rs.length := by omega
  rw [rcAt_of (rs := rs) (List.getElem?_eq_getElem hk)]
  refine rcAt_of ?_
  rw [List.getElem?_append_left hk, List.getElem?_eq_getElem hk]
theorem rc_new : rcAt (rs ++ [e]) (rs.length : Int) = e := by
  refine rcAt_of ?_
  rw [Int.toNat_natCast, List.getElem?_append_right (Nat.le_refl _), Nat.sub_self]
  rfl
theorem dn_app {k : Nat} (h : k < rs.length) : dnAt (rs ++ [e]) k = dnAt rs k := by
  unfold dnAt
  rw [List.getElem?_append_left h]
theorem dn_new : dnAt (rs ++ [e]) rs.length = e.dn := by
  unfold dnAt
  rw [List.getElem?_append_right (Nat.le_refl _), Nat.sub_self]
  rfl
theorem doneTo_app {r : Rc} : ∀ {i : Nat}, i ≤ rs.length → doneTo (rs ++ [r]) i = doneTo rs i
  | 0, _ => rfl
  | i + 1, h => by
    rw [doneTo_succ, doneTo_succ, doneTo_app (by omega), dn_app (by omega)]
theorem doneP_app (hd : e.dn = false) : doneP (rs ++ [e]) = doneP rs := by
  unfold doneP
  rw [List.length_append]
  show doneTo (rs ++ [e]) (rs.length + 1) = _
  rw [doneTo_succ, doneTo_app (Nat.le_refl _), dn_new, hd]
  simp
theorem cutAt {rs : List Rc} {B E : Int} (hBE : B ≤ E) : ∀ {l : List Int}, (l.Pairwise fun a b => (rcAt rs a).bg ≤ (rcAt rs b).en) → (∀ j ∈ l, (rcAt rs j).bg ≤ (rcAt rs j).en) → ∃ k, k ≤ l.length ∧ (∀ j ∈ l.drop k, ¬ (rcAt rs j).en < B) ∧ ∀ j ∈ l.take k, ¬ E < (rcAt rs j).bg
  | [], _, _ => ⟨0, Nat.le_refl _, fun j hj => (nomatch hj), fun j hj => nomatch hj⟩
  | a :: r, hp, hb => by
    obtain ⟨hp1, hp2⟩ := List.pairwise_cons.mp hp
    obtain ⟨k, h1, h2, h3⟩ := cutAt hBE hp2 fun j hj => hb j (List.mem_cons_of_mem _ hj)
    have hba := hb a List.mem_cons_self
    by_cases q : ∃ j ∈ r, (rcAt rs j).en < B
    · obtain ⟨j, hj, hjB⟩ := q
      refine ⟨k + 1, by rw [List.length_cons]; omega, h2, fun x hx => ?_⟩
      rcases List.mem_cons.mp hx with rfl | hx
      · have := hp1 j hj
        omega
      · exact h3 x hx
    · by_cases z : (rcAt rs a).en < B
      · refine ⟨1, by rw [List.length_cons]; omega, fun x hx hB => q ⟨x, hx, hB⟩, fun x hx => ?_⟩
        have hx : x = a := List.mem_singleton.mp hx
        rw [hx]
        omega
      · refine ⟨0, Nat.zero_le _, fun x hx => ?_, fun x hx => nomatch hx⟩
        rcases List.mem_cons.mp hx with rfl | hx
        · exact z
        · exact fun hB => q ⟨x, hx, hB⟩
theorem emb_app (hd : e.dn = false) : Emb rs (rs ++ [e]) id fun j => 0 ≤ j ∧ j < rs.length where
  dn := by rw [doneP_app hd, List.map_id]
  inI := fun j hj => by
    obtain ⟨k, rfl, hk, _⟩ := doneP_mem hj
    omega
  wr := fun j ⟨h0, h1⟩ => by
    have hk : j.toNat < rs.length := by omega
    show wrAt (rs ++ [e]) j = wrAt rs j
    unfold wrAt
    rw [List.getElem?_append_left hk]
  rd := fun j ⟨h0, h1⟩ => by
    show (rcAt (rs ++ [e]) j).rd = _
    rw [rc_app h0 h1]
  lt := fun a b ⟨h0, h1⟩ ⟨h2, h3⟩ => by
    show (rcAt (rs ++ [e]) a).en < (rcAt (rs ++ [e]) b).bg ↔ _
    rw [rc_app h0 h1, rc_app h2 h3]
  inj := fun a b _ _ h => h
theorem find_app (hd : e.dn = false) (hr : e.rd = []) (hbe : e.bg ≤ e.en) (hb : ∀ r ∈ rs, r.bg ≤ r.en) : findP (rs ++ [e]) ms = findP rs ms := by
  refine find_same (doneP_app hd) fun ix hp => ?_
  have E := emb_app (rs := rs) hd
  have hI : ∀ j ∈ ix, 0 ≤ j ∧ j < rs.length := fun j hj => E.inI j (hp.mem_iff.mp hj)
  have rcm : ∀ j ∈ ix, rcAt rs j ∈ rs := fun j hj => by
    obtain ⟨h0, h1⟩ := hI j hj
    have hk : j.toNat < rs.length := by omega
    rw [rcAt_of (List.getElem?_eq_getElem hk)]
    exact List.getElem_mem _
  rw [Bool.eq_iff_iff]
  constructor
  · intro h
    refine E.from (ix := ix) (fun j hj => ?_) hp (by rw [List.map_id]; exact h)
    obtain ⟨k, rfl, hk, hk2⟩ := othTo_iff.mp hj
    exact ⟨by omega, othTo_iff.mpr ⟨k, rfl, by rw [List.length_append]; omega, by rw [dn_app hk]; exact hk2⟩⟩
  · intro h
    have := E.to (ix := ix) (ms := ms) (fun j2 hj2 => ?_) h
    · rw [List.map_id] at this
      exact this
    · obtain ⟨k, rfl, hk, hk2⟩ := othTo_iff.mp hj2
      rw [List.length_append] at hk
      have hk : k < rs.length + 1 := hk
      by_cases z : k < rs.length
      · rw [dn_app z] at hk2
        exact .inl ⟨k, othTo_iff.mpr ⟨k, rfl, z, hk2⟩, by omega, rfl⟩
      · have ek : k = rs.length := by omega
        subst ek
        refine .inr fun ht _ => ?_
        rw [List.map_id, hasP_eq, List.any_eq_true, rc_new]
        have tp : ix.Pairwise fun a b => (rcAt rs a).bg ≤ (rcAt rs b).en := of_decide_eq_true ht
        obtain ⟨k, k1, k2, k3⟩ := cutAt hbe tp fun j hj => hb _ (rcm j hj)
        refine ⟨k, List.mem_range.mpr (by omega), ?_⟩
        unfold okK
        rw [Bool.and_eq_true, Bool.and_eq_true]
        refine ⟨⟨?_, ?_⟩, by rw [hr]; rfl⟩
        · unfold noEarly
          rw [doneP_app hd, List.all_eq_true]
          intro j hj
          have hj2 := hp.mem_iff.mpr hj
          obtain ⟨h0, h1⟩ := hI j hj2
          rw [rc_app h0 h1]
          by_cases q : j ∈ ix.take k
          · simp [q]
          · rw [← List.take_append_drop k ix] at hj2
            have := k2 j ((List.mem_append.mp hj2).resolve_left q)
            simp [this]
        · unfold noLate
          rw [List.all_eq_true]
          intro j hj
          obtain ⟨h0, h1⟩ := hI j (List.mem_of_mem_take hj)
          rw [rc_app h0 h1]
          have := k3 j hj
          simp [this]
end
/-! all moments moved -/
def mvR (s t : Int) (r : Rc) : Rc := { r with bg := r.bg * s + t, en := r.en * s + t }
section
variable {rs : List Rc} {ms : List Int} {s t : Int}
theorem dn_mv {k : Nat} : dnAt (rs.map (mvR s t)) k = dnAt rs k := by
  unfold dnAt
  rw [List.getElem?_map]
  cases rs[k]? <;> rfl
theorem doneP_mv : doneP (rs.map (mvR s t)) = doneP rs := by
  unfold doneP doneTo
  rw [List.length_map]
  refine congrArg (fun f => ((List.range rs.length).filter f).map fun k : Nat => (k : Int)) (funext fun k => dn_mv)
theorem rc_mv {j : Int} (h0 : 0 ≤ j) (h1 : j < rs.length) : rcAt (rs.map (mvR s t)) j = mvR s t (rcAt rs j) := by
  have hk : j.toNat < rs.length := by omega
  rw [rcAt_of (rs := rs) (List.getElem?_eq_getElem hk)]
  refine rcAt_of ?_
  rw [List.getElem?_map, List.getElem?_eq_getElem hk]
  rfl
theorem mv_lt (hs : 0 < s) {a b : Int} : a * s + t < b * s + t ↔ a < b := by
  constructor
  · intro h
    have h : a * s < b * s := by omega
    exact Int.lt_of_mul_lt_mul_right h (Int.le_of_lt hs)
  · intro h
    have := Int.mul_lt_mul_of_pos_right h hs
    omega
theorem emb_mv (hs : 0 < s) : Emb rs (rs.map (mvR s t)) id fun j => 0 ≤ j ∧ j < rs.length where
  dn := by rw [doneP_mv, List.map_id]
  inI := fun j hj => by
    obtain ⟨k, rfl, hk, _⟩ := doneP_mem hj
    omega
  wr := fun j ⟨h0, h1⟩ => by
    show wrAt (rs.map (mvR s t)) j = wrAt rs j
    unfold wrAt
    rw [List.getElem?_map]
    cases rs[j.toNat]? <;> rfl
  rd := fun j ⟨h0, h1⟩ => by
    show (rcAt (rs.map (mvR s t)) j).rd = _
    rw [rc_mv h0 h1]
    rfl
  lt := fun a b ⟨h0, h1⟩ ⟨h2, h3⟩ => by
    show (rcAt (rs.map (mvR s t)) a).en < (rcAt (rs.map (mvR s t)) b).bg ↔ _
    rw [rc_mv h0 h1, rc_mv h2 h3]
    exact mv_lt hs
  inj := fun a b _ _ h => h
theorem find_mv (hs : 0 < s) : findP (rs.map (mvR s t)) ms = findP rs ms := by
  refine find_same doneP_mv fun ix hp => ?_
  have E := emb_mv (rs := rs) (t := t) hs
  have oth : ∀ j : Int, j ∈ othTo (rs.map (mvR s t)) (rs.map (mvR s t)).length ↔ j ∈ othTo rs rs.length := fun j => by
    rw [othTo_iff, othTo_iff, List.length_map]
    exact exists_congr fun k => by rw [dn_mv]
  have rng : ∀ j ∈ othTo rs rs.length, 0 ≤ j ∧ j < (rs.length : Int) := fun j hj => by
    obtain ⟨k, rfl, hk, _⟩ := othTo_iff.mp hj
    omega
  rw [Bool.eq_iff_iff]
  constructor
  · intro h
    exact E.from (ix := ix) (fun j hj => ⟨rng j hj, (oth j).mpr hj⟩) hp (by rw [List.map_id]; exact h)
  · intro h
    have := E.to (ix := ix) (ms := ms) (fun j2 hj2 => .inl ⟨j2, (oth j2).mp hj2, rng j2 ((oth j2).mp hj2), rfl⟩) h
    rw [List.map_id] at this
    exact this
end
/-! one that is not done left out -/
def lessR (rs : List Rc) (o : Nat) : List Rc := rs.take o ++ rs.drop (o + 1)
def shI (o : Nat) (k : Int) : Int := k - (if k > (o : Int) then 1 else 0)
section
variable {rs : List Rc} {ms : List Int} {o : Nat}
theorem less_len (h : o < rs.length) : (lessR rs o).length + 1 = rs.length := by
  unfold lessR
  rw [List.length_append, List.length_take, List.length_drop]
  omega
theorem less_at (h : o < rs.length) {k : Nat} : (lessR rs o)[k]? = rs[if k < o then k else k + 1]? := by
  unfold lessR
  by_cases z : k < o
  · rw [if_pos z, List.getElem?_append_left (by rw [List.length_take]; omega), List.getElem?_take_of_lt z]
  · rw [if_neg z, List.getElem?_append_right (by rw [List.length_take]; omega), List.getElem?_drop, List.length_take]
    congr 1
    omega
theorem sh_at (h : o < rs.length) {j : Int} (h0 : 0 ≤ j) (h1 : j < rs.length) (hn : j ≠ o) : (lessR rs o)[(shI o j).toNat]? = rs[j.toNat]? := by
  rw [less_at h]
  congr 1
  unfold shI
  by_cases z : j > (o : Int)
  · rw [if_pos z, if_neg (by omega)]
    omega
  · rw [if_neg z, if_pos (by omega)]
    omega
theorem emb_less (h : o < rs.length) (hd : dnAt rs o = false) : Emb rs (lessR rs o) (shI o) fun j => 0 ≤ j ∧ j < rs.length ∧ j ≠ o := by
  have rc : ∀ j : Int, 0 ≤ j → j < rs.length → j ≠ o → rcAt (lessR rs o) (shI o j) = rcAt rs j := fun j h0 h1 hn => by
    have hk : j.toNat < rs.length := by omega
    have e := sh_at h h0 h1 hn
    rw [List.getElem?_eq_getElem hk] at e
    rw [rcAt_of e, rcAt_of (List.getElem?_eq_getElem hk)]
  have ll := less_len h
  have inI : ∀ j ∈ doneP rs, 0 ≤ j ∧ j < rs.length ∧ j ≠ (o : Int) := fun j hj => by
    obtain ⟨k, rfl, hk, hk2⟩ := doneP_mem hj
    refine ⟨by omega, by omega, fun z => ?_⟩
    have : k = o := by omega
    rw [this, hd] at hk2
    cases hk2
  have inj : ∀ a b : Int, shI o a = shI o b → a ≠ o → b ≠ o → a = b := fun a b e ha hb => by
    unfold shI at e
    by_cases q1 : a > (o : Int) <;> by_cases q2 : b > (o : Int)
    · rw [if_pos q1, if_pos q2] at e
      omega
    · rw [if_pos q1, if_neg q2] at e
      omega
    · rw [if_neg q1, if_pos q2] at e
      omega
    · rw [if_neg q1, if_neg q2] at e
      omega
  refine ⟨?_, inI, fun j ⟨h0, h1, hn⟩ => ?_, fun j ⟨h0, h1, hn⟩ => by rw [rc j h0 h1 hn], fun a b ⟨h0, h1, hn⟩ ⟨g0, g1, gn⟩ => by rw [rc a h0 h1 hn, rc b g0 g1 gn], fun a b ⟨_, _, ha⟩ ⟨_, _, hb⟩ e => inj a b e ha hb⟩
  · refine (List.perm_ext_iff_of_nodup doneP_nodup ?_).mpr fun x => ?_
    · exact List.pairwise_map.mpr (List.Pairwise.imp_of_mem (fun {a b} ha hb n e => n (inj a b e (inI a ha).2.2 (inI b hb).2.2)) doneP_nodup)
    · rw [doneP_iff, List.mem_map]
      constructor
      · rintro ⟨k, rfl, hk, hk2⟩
        refine ⟨((if k < o then k else k + 1 : Nat) : Int), doneP_iff.mpr ⟨_, rfl, ?_, ?_⟩, ?_⟩
        · split <;> omega
        · unfold dnAt at hk2 ⊢
          rw [less_at h] at hk2
          exact hk2
        · unfold shI
          by_cases z : k < o
          · rw [if_pos z, if_neg (by omega)]
            omega
          · rw [if_neg z, if_pos (by omega)]
            omega
      · rintro ⟨j, hj, rfl⟩
        obtain ⟨h0, h1, hn⟩ := inI j hj
        obtain ⟨k, ek, hk, hk2⟩ := doneP_mem hj
        refine ⟨(shI o j).toNat, ?_, ?_, ?_⟩
        · unfold shI
          split <;> omega
        · unfold shI
          split <;> omega
        · unfold dnAt at hk2 ⊢
          rw [sh_at h h0 h1 hn, ek]
          exact hk2
  · unfold wrAt
    rw [sh_at h h0 h1 hn]
theorem less_order (h : o < rs.length) (hd : dnAt rs o = false) {ix : List Int} (hi : isO rs ms ix = true) : isO (lessR rs o) ms (ix.map (shI o)) = true := by
  have ll := less_len h
  refine (emb_less h hd).to (fun j2 hj2 => ?_) hi
  obtain ⟨k, rfl, hk, hk2⟩ := othTo_iff.mp hj2
  refine .inl ⟨((if k < o then k else k + 1 : Nat) : Int), othTo_iff.mpr ⟨_, rfl, ?_, ?_⟩, ?_, ?_⟩
  · split <;> omega
  · unfold dnAt at hk2 ⊢
    rw [less_at h] at hk2
    exact hk2
  · split <;> omega
  · unfold shI
    by_cases z : k < o
    · rw [if_pos z, if_neg (by omega)]
      omega
    · rw [if_neg z, if_pos (by omega)]
      omega
end
end O43

namespace O43
open PySem L2 YF
theorem paired_takeL {α β : Type} {F : α → β → Prop} : ∀ {l : List α} {vs : List β} (n : Nat), Paired F l vs → Paired F (l.take n) (vs.take n)
  | _, _, 0, _ => by
    rw [List.take_zero, List.take_zero]
    exact .nil
  | _, _, n + 1, .nil => .nil
  | _, _, n + 1, .cons a r => .cons a (paired_takeL n r)
theorem paired_dropL {α β : Type} {F : α → β → Prop} : ∀ {l : List α} {vs : List β} (n : Nat), Paired F l vs → Paired F (l.drop n) (vs.drop n)
  | _, _, 0, h => h
  | _, _, n + 1, .nil => .nil
  | _, _, n + 1, .cons a r => paired_dropL n r
theorem paired_appL {α β : Type} {F : α → β → Prop} {m : List α} {ws : List β} : ∀ {l : List α} {vs : List β}, Paired F l vs → Paired F m ws → Paired F (l ++ m) (vs ++ ws)
  | _, _, .nil, h => h
  | _, _, .cons a r, h => .cons a (paired_appL r h)
section
variable {P : Program} {w : World} {K : PySem.W.Frag} {mg : Str → Option Value} {base : Heap} {A : Adr}
theorem RowAt.rd {σ : L2.St} {H : Hp} {te : TE} {v : V} {r : Rc} (h : RowAt H v r) (t : Te te σ H v) : ∃ a rd wr, v = .ref a ∧ H a = some (.lst (r.xs rd wr)) ∧ H rd = some (.dK (kvI r.rd)) ∧ H wr = some (.dK (kvI r.wr)) ∧ (∀ (j : Int) (u : V), atI (r.xs rd wr) j = some u → Te (tOp (rIxL K) te (tC (.int j))) σ H u) := by
  obtain ⟨a, rd, wr, rfl, h1, h2, h3⟩ := h
  exact ⟨a, rd, wr, rfl, h1, h2, h3, fun j u e => te_ixL t te_c (SqL.of h1) e⟩
def spMoved : Sp := fun vs H Q _ => ∃ (a : Addr) (s t : Int) (rs : List Rc), vs = [.ref a, .int s, .int t] ∧ RowsIn H a rs ∧ -(2 ^ 64) < s ∧ s < 2 ^ 64 ∧ ∀ v H', Same H H' → H v = none → RowsIn H' v (rs.map (mvR s t)) → Q (.ref v) H'
theorem ok_law_moved (T : Txt K mg A) : FnOk P w K mg base CX0 1 A.a__law_moved A.d__law_moved ["rows", "scale", "shift"] spMoved := by
  refine T.F__law_moved.ok sc_law_moved (fun vs H Q E ⟨_, _, _, _, e, _⟩ => by rw [e]; rfl) (fun cdv A' outer s0 H vs Q E hr h => ?_)
  obtain ⟨a, s, t, rs, rfl, ⟨us, h1, h2, h3⟩, hs1, hs2, k⟩ := h
  refine ⟨_, pss_one (ps_ret (pe_lc (own := [("row", 3)]) (g := gName 3) (tt := tYes) rfl sc_law_moved.nd (pi_list (pv 0)) (blkOk_by (N := ["rows", "scale", "shift", "row"]) (sc := defScope s_law_moved) (by decide +kernel)) (fun _ _ _ _ _ => pg_name (i := 3) sc_law_moved.nd rfl (Or.inl rfl)) (fun _ _ _ _ _ => pts_nil) (fun _ _ _ _ _ => pe_lst (pa_cons (pe_ix (show IxR _ (rIxL K) from ix_list) (pv 3) (pe_int) (fun _ _ => rfl)) (pa_cons (pe_ix (show IxR _ (rIxL K) from ix_list) (pv 3) (pe_int) (fun _ _ => rfl)) (pa_cons (pe_ix (show IxR _ (rIxL K) from ix_list) (pv 3) (pe_int) (fun _ _ => rfl)) (pa_cons (pe_op op_add (pe_op op_mul (pe_ix (show IxR _ (rIxL K) from ix_list) (pv 3) (pe_int) (fun _ _ => rfl)) (pv 1)) (pv 2)) (pa_cons (pe_op op_add (pe_op op_mul (pe_ix (show IxR _ (rIxL K) from ix_list) (pv 3) (pe_int) (fun _ _ => rfl)) (pv 1)) (pv 2)) pa_nil)))))))), ?_⟩
  have lu : us.length = rs.length := (paired_len h2).symm
  refine lc_go (ti_list (te_var rfl) (SqL.of h1)) walk_list (fun D i H' => Same H H' ∧ ∃ vs, H' D = some (.lst vs) ∧ Paired (RowAt (kp [D] H')) vs ((rs.take i).map (mvR s t))) (fun D hD => ⟨Same.upd hD, [], upd_same, .nil⟩) (fun D i H' _ h => SqL.of (h.1 _ _ h1)) ?_ fun D H' hD ⟨s1, vs, e1, e2⟩ => ?_
  · rintro D i y H1 H' hD hi ⟨s1, vs, e1, e2⟩ ⟨rfl, hy⟩
    obtain ⟨r, er, hr⟩ := paired_at h2 hy
    refine name_go (σ' := [some (.ref a), some (.int s), some (.int t), some y]) rfl ⟨rfl, yes_go ?_⟩
    obtain ⟨b, rd, wr, eb, g1, g2, g3, ix⟩ := (hr.mono s1).rd (K := K) (σ := [some (.ref a), some (.int s), some (.int t), some y]) (te := tVar 3) (te_var rfl)
    have mul : ∀ {j : Int} {x : Int}, atI (r.xs rd wr) j = some (.int x) → Te (tOp (rI0 fun i j => .int (i + j)) (tOp (rI CMul fun i j => .int (i * j)) (tOp (rIxL K) (tVar 3) (tC (.int j))) (tVar 1)) (tVar 2)) [some (.ref a), some (.int s), some (.int t), some y] H' (.int (x * s + t)) := fun {j x} e =>
      te_i0 (g := fun i j => .int (i + j)) (fun Q q => (ix j (.int x) e).go ((te_var (v := .int s) rfl).go ⟨x, s, rfl, rfl, .inr ⟨hs1, hs2⟩, q⟩)) (te_var (v := .int t) rfl)
    refine lstd_un ((ta_cons (ix 0 (.str r.kd) rfl) (ta_cons (ix 1 (.ref rd) rfl) (ta_cons (ix 2 (.ref wr) rfl) (ta_cons (mul (j := 3) (x := r.bg) rfl) (ta_cons (mul (j := 4) (x := r.en) rfl) ta_nil))))) _ ⟨by show 5 ≤ sizeLine; decide, fun q hq => ?_⟩)
    have nq : q ≠ D := (ne_of_none e1 hq).symm
    have z := Same.upd (o := .lst [.str r.kd, .ref rd, .ref wr, .int (r.bg * s + t), .int (r.en * s + t)]) hq
    refine ⟨vs, by rw [upd_ne nq.symm]; exact e1, ?_, Same.wr (s1.trans z) hD, _, upd_same, ?_⟩
    · have := paired_len e2
      rw [List.length_map, List.length_take] at this
      rw [sizeLine_eq]
      omega
    · have f1 : Fr [D] H' (upd (upd H' q (.lst [.str r.kd, .ref rd, .ref wr, .int (r.bg * s + t), .int (r.en * s + t)])) D (.lst (vs ++ [.ref q]))) := (Fr.of z : Fr [D] H' _).wr (by simp)
      have nD : ∀ {c : Addr} {u : HO}, H' c = some u → (∀ xs, u ≠ .lst xs) → c ≠ D := fun e n z => by
        rw [z, e1] at e
        exact n _ (Option.some.inj e).symm
      have m2 := nD g2 fun xs z => by cases z
      have m3 := nD g3 fun xs z => by cases z
      rw [List.take_add_one, er, List.map_append]
      refine paired_snoc (L2.Paired.mapP e2 fun u x t => t.mono f1.kp) ⟨q, rd, wr, rfl, kp_at (by rw [upd_ne nq, upd_same]; rfl) (by simpa using nq), kp_at (f1 _ _ (by simpa using m2) g2) (by simpa using m2), kp_at (f1 _ _ (by simpa using m3) g3) (by simpa using m3)⟩
  · have e3 : rs.take us.length = rs := List.take_of_length_le (by omega)
    rw [e3] at e2
    exact k D H' s1 hD ⟨vs, e1, L2.Paired.mapP e2 fun u x t => t.mono kp_sub, by rw [List.length_map]; exact h3⟩
end
end O43

namespace O43
open PySem L2 YF
section
variable {P : Program} {w : World} {K : PySem.W.Frag} {mg : Str → Option Value} {base : Heap} {A : Adr}
def selA (c : Nat) (acc : List Rc) (r : Rc) : List Rc := if r.kd ≠ "done" ∨ (doneP acc).length < c then acc ++ [r] else acc
theorem doneP_snoc {rs : List Rc} {r : Rc} : doneP (rs ++ [r]) = doneP rs ++ (if r.kd = "done" then [(rs.length : Int)] else []) := by
  unfold doneP
  rw [List.length_append]
  show doneTo (rs ++ [r]) (rs.length + 1) = _
  rw [doneTo_succ, doneTo_app (Nat.le_refl _)]
  have e : dnAt (rs ++ [r]) rs.length = r.dn := by
    unfold dnAt
    rw [List.getElem?_append_right (Nat.le_refl _), Nat.sub_self]
    rfl
  rw [e]
  congr 1
  by_cases h : r.kd = "done"
  · rw [if_pos h, if_pos (show r.dn = true from decide_eq_true h)]
  · rw [if_neg h, if_neg (show ¬ r.dn = true from fun z => h (of_decide_eq_true z))]
structure SelOk (c : Nat) (rs acc : List Rc) : Prop where
  dn : (doneP acc).length ≤ c
  mem : ∀ r ∈ acc, r ∈ rs
theorem selA_ok {c : Nat} {rs acc : List Rc} {r : Rc} (h : SelOk c rs acc) (hr : r ∈ rs) : SelOk c rs (selA c acc r) := by
  unfold selA
  by_cases q : r.kd ≠ "done" ∨ (doneP acc).length < c
  · rw [if_pos q]
    refine ⟨?_, fun x hx => ?_⟩
    · rw [doneP_snoc, List.length_append]
      have := h.dn
      by_cases z : r.kd = "done"
      · rw [if_pos z]
        have : (doneP acc).length < c := q.resolve_left fun n => n z
        show _ + 1 ≤ c
        omega
      · rw [if_neg z]
        show _ + 0 ≤ c
        omega
    · rcases List.mem_append.mp hx with m | m
      · exact h.mem x m
      · rw [List.mem_singleton.mp m]
        exact hr
  · rw [if_neg q]
    exact h
theorem selA_len {c : Nat} {acc : List Rc} {r : Rc} : (selA c acc r).length ≤ acc.length + 1 := by
  unfold selA
  by_cases q : r.kd ≠ "done" ∨ (doneP acc).length < c
  · rw [if_pos q, List.length_append]
    exact Nat.le_refl _
  · rw [if_neg q]
    omega
def DueV (H : Hp) (v : V) (o : Option (List Int)) : Prop := match o with
  | none => v = .non
  | some t => IntsAt H v t
theorem DueV.mono {H H' : Hp} {v : V} {o : Option (List Int)} (h : DueV H v o) (s : Same H H') : DueV H' v o := by
  cases o with
  | none => exact h
  | some t => exact IntsAt.mono h s
def spLaw (K : PySem.W.Frag) (A : Adr) : Sp := fun vs H Q _ => ∃ (a : Addr) (ns : List Int), vs = [.ref a] ∧ SqL K H a (ns.map V.int) ∧ ns.length ≤ 63 ∧ ∀ H', Q (.bl true) H'
theorem or_un {σ : L2.St} {H : Hp} {t u : TT} {Q : Bool → Hp → Prop} (h : t σ H fun c H1 => if c = true then Q true H1 else u σ H1 Q) : tOr t u σ H Q := h
theorem test_un {σ : L2.St} {H : Hp} {te : TE} {Q : Bool → Hp → Prop} (h : te σ H fun x H1 => ∃ k, x = .bl k ∧ Q k H1) : tTest te σ H Q := h
theorem RowAt.kp {H : Hp} {q : Addr} {v : V} {r : Rc} (h : RowAt H v r) (n : H q = none) : RowAt (kp [q] H) v r := by
  obtain ⟨a, rd, wr, e, h1, h2, h3⟩ := h
  have ne : ∀ {c : Addr} {u : HO}, H c = some u → c ∉ [q] := fun e z => by
    rw [List.mem_singleton.mp z, n] at e
    cases e
  exact ⟨a, rd, wr, e, kp_at h1 (ne h1), kp_at h2 (ne h2), kp_at h3 (ne h3)⟩
end
end O43

namespace O43
open PySem L2 YF
/-! ### the law -/
section
variable {P : Program} {w : World} {K : PySem.W.Frag} {mg : Str → Option Value} {base : Heap} {A : Adr}
/-- what the law has, behind its draws -/
structure LZ (H : Hp) (p v f rr q : Addr) (ms : List Int) (rs : List Rc) (tv : V) : Prop where
  row : Row H p
  pr : kp [p] H v = some (.lst [.ref f, .ref rr])
  mem : kp [p] H f = some (.lst (ms.map V.int))
  rows : RowsIn (kp [p] H) q rs
  told : DueV (kp [p] H) tv (findP rs ms)
theorem LZ.fr {H H' : Hp} {p v f rr q : Addr} {ms : List Int} {rs : List Rc} {tv : V} (h : LZ H p v f rr q ms rs tv) (s : Fr [p] H H') (r : Row H' p) : LZ H' p v f rr q ms rs tv :=
  ⟨r, s.kp _ _ h.pr, s.kp _ _ h.mem, h.rows.mono s.kp, h.told.mono s.kp⟩
theorem LZ.same {H H' : Hp} {p v f rr q : Addr} {ms : List Int} {rs : List Rc} {tv : V} (h : LZ H p v f rr q ms rs tv) (s : Same H H') : LZ H' p v f rr q ms rs tv := h.fr (Fr.of s) (h.row.same s)
/-- what is new behind H -/
def nwH (H H' : Hp) : Hp := fun b => match H b with
  | none => H' b
  | some _ => none
theorem nwH_at {H H' : Hp} {b : Addr} {o : HO} (h : H b = none) (e : H' b = some o) : nwH H H' b = some o := by
  unfold nwH
  rw [h]
  exact e
theorem nwH_kp {H H' : Hp} {p : Addr} (r : Row H p) : Same (nwH H H') (kp [p] H') := fun b o e => by
  unfold nwH at e
  split at e
  · rename_i h
    refine kp_at e fun z => ?_
    obtain ⟨ns, e2⟩ := r
    rw [List.mem_singleton.mp z, e2] at h
    cases h
  · cases e
theorem find_due {H : Hp} {c1 RR : Addr} {rs : List Rc} {ms : List Int} {Q : VK} {E : XK} (h1 : H c1 = some (.lst (ms.map V.int))) (R : RecsIn A H RR rs) (lrd : ∀ r ∈ rs, r.rd.length ≤ 1000) (lms : ms.length ≤ 1000) (d8 : (doneP rs).length ≤ 8) (k : ∀ H' tv, Same H H' → DueV (nwH H H') tv (findP rs ms) → Q tv H') : spFind0 A [.ref c1, .ref RR] H Q E :=
  ⟨c1, RR, rs, ms, rfl, h1, R, lrd, lms, fun _ H' s t => k H' .non s (by rw [t]; rfl), fun _ H' t w s e hw hn => k H' (.ref w) s (by rw [e]; exact ⟨w, rfl, nwH_at hn hw⟩), d8⟩
theorem same_due {σ : L2.St} {H : Hp} {tu tw : TS} {Dn : Ends} {E : XK} {x y : V} {o : Option (List Int)} (h1 : DueV H x o) (h2 : DueV H y o) (l : ∀ t, o = some t → t.length ≤ 1000) (k : tw Dn σ H) : spSame K 4 [x, y] H (Qs Dn σ tu tw) E := by
  cases o with
  | none =>
    have h1 : x = .non := h1
    have h2 : y = .non := h2
    subst h1
    subst h2
    exact same_ok (d := .non) rfl rfl rfl rfl (by show 0 < 4; decide) k
  | some t =>
    obtain ⟨a, rfl, ha⟩ := h1
    obtain ⟨b, rfl, hb⟩ := h2
    exact same_ints ha hb (l t rfl) k
theorem ok_law (T : Txt K mg A) : FnOk P w K mg base CX0 15 A.a_law A.d_law ["script"] (spLaw K A) := by
  refine T.F_law.ok (k := 14) sc_law (fun vs H Q E ⟨_, _, e, _⟩ => by rw [e]; rfl) (fun cdv A' outer s0 H vs Q E hr h => ?_)
  obtain ⟨a, ns, rfl, hS, hns, k⟩ := h
  refine ⟨_, pss_cons (ps_set (i := 1) sc_law.nd rfl (Or.inl rfl) (pe_call (ok_law_draws T) (hr.mono (by decide)) rfl T.g__law_draws T.F__law_draws.kp T.b__law_draws .nil pass0 (pa_cons (pv 0) pa_nil)))
  (pss_cons (ps_set (i := 2) sc_law.nd rfl (Or.inl rfl) (pe_call (ok_law_world T) (hr.mono (by decide)) rfl T.g__law_world T.F__law_world.kp T.b__law_world .nil pass0 (pa_cons (pv 1) (pa_cons (pe_int) pa_nil))))
  (pss_cons (ps_set (i := 3) sc_law.nd rfl (Or.inr rfl) (pe_lst pa_nil))
  (pss_cons (ps_for PassesOwn.never rfl (pi_list (pe_ix ix_list (pv 2) (pe_int) (fun _ _ => rfl))) (pg_name (i := 4) sc_law.nd rfl (Or.inl rfl))
  (pss_one (ps_if (PW.pt (pw_or (pt_cmpR op_ne (pe_ix ix_list (pv 4) (pe_int) (fun _ _ => rfl)) (pe_str) (nomark _)) (pw_or1 (pt_cmpR op_lt (pe_callB call_len_seq (by rfl) T.n_len (by decide +kernel) (pa_cons (pe_call (ok_law_done T) (hr.mono (by decide)) rfl T.g__law_done T.F__law_done.kp T.b__law_done .nil pass0 (pa_cons (pv 3) pa_nil)) pa_nil)) (pe_int) (nomark _)))))
  (pss_one (ps_expr (pe_bm PySem.F.plainAttrs_list PySem.F.slot_list_append PySem.F.type_list_append mt_append (pv 3) (pa_cons (pv 4) pa_nil))))
  (pss_nil))))
  (pss_cons (ps_set (i := 5) sc_law.nd rfl (Or.inl rfl) (pe_call (ok_find_order0 T) (hr.mono (by decide)) rfl T.g_find_order T.F_find_order.kp T.b_find_order .nil pass0 (pa_cons (pe_callTy call_list_of (by rfl) T.n_list (by decide +kernel) (pa_cons (pe_ix ix_list (pv 2) (pe_int) (fun _ _ => rfl)) pa_nil)) (pa_cons (pe_call (ok_law_made T) (hr.mono (by decide)) rfl T.g__law_made T.F__law_made.kp T.b__law_made .nil pass0 (pa_cons (pv 3) pa_nil)) pa_nil))))
  (pss_cons (ps_set (i := 6) sc_law.nd rfl (Or.inl rfl) (pe_call (ok_law_take T) (hr.mono (by decide)) rfl T.g__law_take T.F__law_take.kp T.b__law_take .nil pass0 (pa_cons (pv 1) (pa_cons (pe_int) pa_nil))))
  (pss_cons (ps_set (i := 7) sc_law.nd rfl (Or.inl rfl) (pe_lst (pa_cons (pe_ix ix_list (pe_lst (pa_cons (pe_str) (pa_cons (pe_str) pa_nil))) (pe_call (ok_law_take T) (hr.mono (by decide)) rfl T.g__law_take T.F__law_take.kp T.b__law_take .nil pass0 (pa_cons (pv 1) (pa_cons (pe_int) pa_nil))) (fun _ _ => rfl)) (pa_cons (pe_dnewK) (pa_cons (pe_dnewK) (pa_cons (pv 6) (pa_cons (pe_op op_add (pv 6) (pe_call (ok_law_take T) (hr.mono (by decide)) rfl T.g__law_take T.F__law_take.kp T.b__law_take .nil pass0 (pa_cons (pv 1) (pa_cons (pe_int) pa_nil)))) pa_nil)))))))
  (pss_cons (ps_if (pt_not (pt_val (pe_call (ok_law_same T 4) (hr.mono (by decide)) rfl T.g__law_same T.F__law_same.kp T.b__law_same .nil pass0 (pa_cons (pe_call (ok_find_order0 T) (hr.mono (by decide)) rfl T.g_find_order T.F_find_order.kp T.b_find_order .nil pass0 (pa_cons (pe_callTy call_list_of (by rfl) T.n_list (by decide +kernel) (pa_cons (pe_ix ix_list (pv 2) (pe_int) (fun _ _ => rfl)) pa_nil)) (pa_cons (pe_call (ok_law_made T) (hr.mono (by decide)) rfl T.g__law_made T.F__law_made.kp T.b__law_made .nil pass0 (pa_cons (pe_op op_cat (pv 3) (pe_lst (pa_cons (pv 7) pa_nil))) pa_nil)) pa_nil))) (pa_cons (pv 5) pa_nil)))))
  (pss_one (ps_ret (pe_bl)))
  (pss_nil))
  (pss_cons (ps_if (pt_cmpR op_isN (pv 5) (pe_non) (nomark _))
  (pss_one (ps_ret (pe_cmpR op_isN (pe_call (ok_find_order0 T) (hr.mono (by decide)) rfl T.g_find_order T.F_find_order.kp T.b_find_order .nil pass0 (pa_cons (pe_callTy call_list_of (by rfl) T.n_list (by decide +kernel) (pa_cons (pe_ix ix_list (pv 2) (pe_int) (fun _ _ => rfl)) pa_nil)) (pa_cons (pe_call (ok_law_made T) (hr.mono (by decide)) rfl T.g__law_made T.F__law_made.kp T.b__law_made .nil pass0 (pa_cons (pe_call (ok_law_moved T) (hr.mono (by decide)) rfl T.g__law_moved T.F__law_moved.kp T.b__law_moved .nil pass0 (pa_cons (pv 3) (pa_cons (pe_int) (pa_cons (pe_int) pa_nil)))) pa_nil)) pa_nil))) (pe_non) (nomark _))))
  (pss_nil))
  (pss_cons (ps_set (i := 8) sc_law.nd rfl (Or.inl rfl) (pe_call (ok_law_moved T) (hr.mono (by decide)) rfl T.g__law_moved T.F__law_moved.kp T.b__law_moved .nil pass0 (pa_cons (pv 3) (pa_cons (pe_op op_add (pe_int) (pe_call (ok_law_take T) (hr.mono (by decide)) rfl T.g__law_take T.F__law_take.kp T.b__law_take .nil pass0 (pa_cons (pv 1) (pa_cons (pe_int) pa_nil)))) (pa_cons (pe_call (ok_law_take T) (hr.mono (by decide)) rfl T.g__law_take T.F__law_take.kp T.b__law_take .nil pass0 (pa_cons (pv 1) (pa_cons (pe_int) pa_nil))) pa_nil)))))
  (pss_cons (ps_if (pt_not (pt_val (pe_call (ok_law_same T 4) (hr.mono (by decide)) rfl T.g__law_same T.F__law_same.kp T.b__law_same .nil pass0 (pa_cons (pe_call (ok_find_order0 T) (hr.mono (by decide)) rfl T.g_find_order T.F_find_order.kp T.b_find_order .nil pass0 (pa_cons (pe_callTy call_list_of (by rfl) T.n_list (by decide +kernel) (pa_cons (pe_ix ix_list (pv 2) (pe_int) (fun _ _ => rfl)) pa_nil)) (pa_cons (pe_call (ok_law_made T) (hr.mono (by decide)) rfl T.g__law_made T.F__law_made.kp T.b__law_made .nil pass0 (pa_cons (pv 8) pa_nil)) pa_nil))) (pa_cons (pv 5) pa_nil)))))
  (pss_one (ps_ret (pe_bl)))
  (pss_nil))
  (pss_cons (ps_setLc (i := 9) (own := [("k", 12)]) (g := gName 12) rfl sc_law.nd rfl rfl (sw_true rfl rfl rfl (by decide +kernel)) (pi_range1 (by rfl) T.n_range (pa_cons (pe_callB call_len_seq (by rfl) T.n_len (by decide +kernel) (pa_cons (pv 3) pa_nil)) pa_nil)) (blkOk_by (N := ["script", "draws", "world", "rows", "row", "told", "begun", "empty", "moved", "others", "out", "fewer", "k"]) (sc := defScope s_law) (by decide +kernel)) (fun _ _ _ _ _ => pg_name (i := 12) sc_law.nd rfl (Or.inl rfl)) (fun _ _ _ _ _ => pts_one (pt_cmpR op_ne (pe_ix (show IxR _ (rIxL K) from ix_list) (pe_ix (show IxR _ (rIxL K) from ix_list) (pv 3) (pv 12) (fun _ _ => rfl)) (pe_int) (fun _ _ => rfl)) (pe_str) (nomark _))) (fun _ _ _ _ _ => pv 12))
  (C8.pss_cut (ps_if (pt_cmpR op_gt (pe_callB call_len_seq (by rfl) T.n_len (by decide +kernel) (pa_cons (pv 9) pa_nil)) (pe_int) (nomark _))
  (pss_cons (ps_set (i := 10) sc_law.nd rfl (Or.inr rfl) (pe_ix ix_list (pv 9) (pe_call (ok_law_take T) (hr.mono (by decide)) rfl T.g__law_take T.F__law_take.kp T.b__law_take .nil pass0 (pa_cons (pv 1) (pa_cons (pe_callB call_len_seq (by rfl) T.n_len (by decide +kernel) (pa_cons (pv 9) pa_nil)) pa_nil))) (fun _ _ => rfl)))
  (pss_cons (ps_set (i := 11) sc_law.nd rfl (Or.inl rfl) (pe_op op_cat (pe_slice sl_list (pv 3) (po_none) (po_some (pv 10))) (pe_slice sl_list (pv 3) (po_some (pe_op op_add (pv 10) (pe_int))) (po_none))))
  (pss_one (ps_if (pt_not (pt_val (pe_call (ok_law_same T 4) (hr.mono (by decide)) rfl T.g__law_same T.F__law_same.kp T.b__law_same .nil pass0 (pa_cons (pe_call (ok_is_order T) (hr.mono (by decide)) rfl T.g_is_order T.F_is_order.kp T.b_is_order .nil pass0 (pa_cons (pe_callTy call_list_of (by rfl) T.n_list (by decide +kernel) (pa_cons (pe_ix ix_list (pv 2) (pe_int) (fun _ _ => rfl)) pa_nil)) (pa_cons (pe_call (ok_law_made T) (hr.mono (by decide)) rfl T.g__law_made T.F__law_made.kp T.b__law_made .nil pass0 (pa_cons (pv 11) pa_nil)) (pa_cons (pe_lc (own := [("k", 12)]) (g := gName 12) (tt := tYes) rfl sc_law.nd (pi_list (pv 5)) (blkOk_by (N := ["script", "draws", "world", "rows", "row", "told", "begun", "empty", "moved", "others", "out", "fewer", "k"]) (sc := defScope s_law) (by decide +kernel)) (fun _ _ _ _ _ => pg_name (i := 12) sc_law.nd rfl (Or.inl rfl)) (fun _ _ _ _ _ => pts_nil) (fun _ _ _ _ _ => pe_op op_sub (pv 12) (pe_callTy call_int1 (by rfl) T.n_int (by decide +kernel) (pa_cons (pe_cmpR op_gt (pv 12) (pv 10) (nomark _)) pa_nil)))) pa_nil)))) (pa_cons (pe_bl) pa_nil)))))
  (pss_one (ps_ret (pe_bl)))
  (pss_nil)))))
  (pss_nil))
  (pss_one (ps_ret (pe_bl))))))))))))))), ?_⟩
  refine asg_un (call_un (cons_un ((te_var rfl).go (nil_un ⟨a, ns, rfl, hS, hns, fun p ds H1 s1 hp e1 => ?_⟩))))
  try dsimp only
  refine ts_sl (σ' := [some (.ref a), some (.ref p), none, none, none, none, none, none, none, none, none, none, none]) rfl ?_
  refine asg_un (call_un (cons_un ((te_var rfl).go (cons_un (te_c.go (nil_un ⟨p, 6, rfl, ⟨ds, e1⟩, by decide, fun v f rr n ms rs H2 s2 r2 W lrs => ?_⟩))))))
  try dsimp only
  refine ts_sl (σ' := [some (.ref a), some (.ref p), some (.ref v), none, none, none, none, none, none, none, none, none, none]) rfl ?_
  -- rows
  have hv := W.pr
  have hf := W.mem
  have hR := W.row
  have nv := W.nv
  have nf := W.nf
  have okW := W.okW
  have okR := W.ok
  have lms : ms.length ≤ 1000 := by have := W.lm; have := W.n3; omega
  clear W s2 e1 s1
  refine asg_new (tn_lst (vs := []) ta_nil (Nat.zero_le _)) fun q hq => ?_
  refine ts_sl (σ' := [some (.ref a), some (.ref p), some (.ref v), some (.ref q), none, none, none, none, none, none, none, none, none]) rfl ?_
  have s3 : Same H2 (upd H2 q (.lst [])) := Same.upd hq
  have e3 : (upd H2 q (.lst [])) q = some (.lst ([] : List V)) := upd_same
  generalize upd H2 q (HO.lst []) = H3 at s3 e3 ⊢
  obtain ⟨vs, hvs0, pvs, _⟩ := id hR
  have hvs := (kp_some hvs0).2
  have nqp : q ≠ p := r2.ne hq
  refine sq_go (for_un ((te_ixL (te_var rfl) te_c (SqL.of (s3 _ _ hv)) rfl : Te _ _ _ (.ref rr)).go ?_))
  refine for_go (ti_list te_c (SqL.of (s3 _ _ hvs))) walk_list (fun j σ G => (∃ v4 : Option V, σ = [some (.ref a), some (.ref p), some (.ref v), some (.ref q), v4, none, none, none, none, none, none, none, none]) ∧ Same H2 G ∧ ∃ us acc, G q = some (.lst us) ∧ Paired (RowAt (kp [p, q] G)) us acc ∧ SelOk 4 rs acc ∧ acc.length ≤ j) ⟨⟨_, rfl⟩, s3, [], [], e3, .nil, ⟨Nat.zero_le _, fun r hr => nomatch hr⟩, Nat.le_refl _⟩ (fun j σ G _ h => SqL.of (h.2.1 _ _ hvs)) ?_ ?_
  · rintro j y σ G0 G hj ⟨⟨v4, rfl⟩, sG, us, acc, eG, pG, so, la⟩ ⟨rfl, hy⟩
    obtain ⟨r, er, hr⟩ := paired_at pvs hy
    have hrm : r ∈ rs := List.mem_of_getElem? er
    refine name_go (σ' := [some (.ref a), some (.ref p), some (.ref v), some (.ref q), some y, none, none, none, none, none, none, none, none]) rfl ?_
    have lus : us.length = acc.length := (paired_len pG).symm
    have la1000 : acc.length ≤ 1000 := by
      have : j < vs.length := hj
      have h2 := paired_len pvs
      omega
    have hrG : RowAt (kp [p, q] G) y r := hr.mono fun c u e => kp_at (sG _ _ (kp_some e).2) (by
      have n1 := (kp_some e).1
      have n2 : c ≠ q := ne_of_none (kp_some e).2 hq
      simp at n1
      simp [n1, n2])
    have app : ∀ {G1 : Hp} {D : Ends}, Same G G1 → (∀ G2, Same H2 G2 → (∃ us acc', G2 q = some (.lst us) ∧ Paired (RowAt (kp [p, q] G2)) us acc' ∧ SelOk 4 rs acc' ∧ acc'.length ≤ j + 1) → D.nx [some (.ref a), some (.ref p), some (.ref v), some (.ref q), some y, none, none, none, none, none, none, none, none] G2) → (r.kd ≠ "done" ∨ (doneP acc).length < 4) → tDrop (tBM K "list" rAppend (tVar 3) (tCons (tVar 4) tNil)) D [some (.ref a), some (.ref p), some (.ref v), some (.ref q), some y, none, none, none, none, none, none, none, none] G1 := fun {G1 D} sg kk hc => by
      have e1 := sg _ _ eG
      refine drop_un (app_un (te_var rfl) (SqL.of e1) ((te_var rfl).go ⟨q, us, y, rfl, rfl, e1, by rw [sizeLine_eq]; omega, kk _ ?_ ⟨_, acc ++ [r], upd_same, ?_, ?_, ?_⟩⟩))
      · exact Same.wr (sG.trans sg) hq
      · exact paired_snoc (L2.Paired.mapP pG fun u x t => t.mono (((Fr.of sg : Fr [p, q] G G1).wr (by simp)).kp)) (hrG.mono (((Fr.of sg : Fr [p, q] G G1).wr (by simp)).kp))
      · have := selA_ok so hrm
        unfold selA at this
        rw [if_pos hc] at this
        exact this
      · rw [List.length_append]
        show acc.length + 1 ≤ j + 1
        omega
    refine iff_un (or_un ((tt_test (te_ne ((hrG.mono kp_sub).ix0 (te_var rfl)) te_c rfl)).go ?_))
    by_cases hk : r.kd = "done"
    · rw [decide_eq_true (by rw [hk]), Bool.not_true, if_neg (by decide)]
      refine test_un (op_un (cb_un (cons_un (call_un (cons_un ((te_var rfl).go (nil_un ⟨q, acc, rfl, ⟨us, eG, L2.Paired.mapP pG fun u x t => t.mono kp_sub, la1000⟩, fun dn G2 sd hdn ed => nil_un ⟨dn, _, rfl, .inl (SqL.of ed), te_c.go ⟨_, _, rfl, rfl, _, rfl, ?_⟩⟩⟩)))))))
      rw [List.length_map]
      by_cases h5 : (doneP acc).length < 4
      · rw [decide_eq_true (by omega), if_pos rfl]
        exact app sd (fun G2 s ⟨us', acc', x1, x2, x3, x4⟩ => ⟨⟨_, rfl⟩, s, us', acc', x1, x2, x3, x4⟩) (.inr h5)
      · rw [decide_eq_false (by omega), if_neg (by decide)]
        exact ⟨⟨_, rfl⟩, sG.trans sd, us, acc, sd _ _ eG, L2.Paired.mapP pG fun u x t => t.mono ((Fr.of sd : Fr [p, q] G G2).kp), so, by omega⟩
    · rw [decide_eq_false (fun z => hk (V.str.inj z)), Bool.not_false, if_pos rfl, if_pos rfl]
      exact app (Same.refl G) (fun G2 s ⟨us', acc', x1, x2, x3, x4⟩ => ⟨⟨_, rfl⟩, s, us', acc', x1, x2, x3, x4⟩) (.inl hk)
  rintro σ H4 ⟨⟨v4, rfl⟩, s4, us, rs', e4, p4, so, ll⟩
  have lr6 : rs'.length ≤ 6 := by
    have := paired_len pvs
    omega
  have row4 := r2.same s4
  have lrd : ∀ r ∈ rs', r.rd.length ≤ 1000 := fun r hr => Nat.le_trans (okR r (so.mem r hr)).rd.len (by decide)
  have hbe : ∀ r ∈ rs', r.bg ≤ r.en := fun r hr => (okR r (so.mem r hr)).be
  have d4 := so.dn
  have kpr : kp [p] H4 v = some (.lst [.ref f, .ref rr]) := kp_at (s4 _ _ hv) (by simpa using nv)
  have kme : kp [p] H4 f = some (.lst (ms.map V.int)) := kp_at (s4 _ _ hf) (by simpa using nf)
  have kro : RowsIn (kp [p] H4) q rs' := ⟨us, kp_at e4 (by simpa using nqp), L2.Paired.mapP p4 fun u x t => t.mono fun c o e => kp_at (kp_some e).2 (fun z => (kp_some e).1 (by simp at z; simp [z])), by omega⟩
  have t5 : ∀ t, findP rs' ms = some t → t.length ≤ 1000 := fun t e => by
    rw [findP_eq] at e
    have := (allL_perm (List.mem_of_find?_eq_some e)).length_eq
    omega
  clear so ll p4 e4 hvs hvs0 pvs hR okR okW s3 e3 s4 hq hv hf r2 lrs
  dsimp only
  -- told
  refine asg_un (call_un (cons_un ((tn_list (te_ixL (te_var rfl) te_c (SqL.of (kp_some kpr).2) rfl : Te _ _ _ (.ref f)) (.inl (SqL.of (kp_some kme).2))).go fun c1 hc1 => cons_un ?_)))
  have z1 : Same H4 (upd H4 c1 (.lst (ms.map V.int))) := Same.upd hc1
  have w1 : (upd H4 c1 (.lst (ms.map V.int))) c1 = some (.lst (ms.map V.int)) := upd_same
  generalize upd H4 c1 (HO.lst (ms.map V.int)) = G1 at z1 w1 ⊢
  refine call_un (cons_un ((te_var rfl).go (nil_un ⟨q, rs', rfl, (kro.mono kp_sub).mono z1, fun RR G2 s2 hRR R2 => nil_un (find_due (s2 _ _ w1) R2 lrd lms (by omega) fun G3 tv s3 td => ?_)⟩)))
  have z13 := (z1.trans s2).trans s3
  have tdk : DueV (kp [p] G3) tv (findP rs' ms) := td.mono (nwH_kp ((row4.same z1).same s2))
  have Z3 : LZ G3 p v f rr q ms rs' tv := ⟨row4.same z13, ((Fr.of z13 : Fr [p] H4 G3).kp) _ _ kpr, ((Fr.of z13 : Fr [p] H4 G3).kp) _ _ kme, kro.mono ((Fr.of z13 : Fr [p] H4 G3).kp), tdk⟩
  clear tdk td z13 s3 R2 hRR s2 w1 z1 hc1 kpr kme kro row4
  try dsimp only
  refine ts_sl (σ' := [some (.ref a), some (.ref p), some (.ref v), some (.ref q), v4, some tv, none, none, none, none, none, none, none]) rfl ?_
  -- the empty one
  refine asg_un (go_take (m := 12) (ta_cons (te_var rfl) (ta_cons te_c ta_nil)) Z3.row (by decide) fun bg G4 b0 b1 s4 r4 => ?_)
  have Z4 := Z3.fr s4 r4
  clear Z3 s4 r4
  try dsimp only
  refine ts_sl (σ' := [some (.ref a), some (.ref p), some (.ref v), some (.ref q), v4, some tv, some (.int bg), none, none, none, none, none, none]) rfl ?_
  refine asg_un (lstd_un (cons_un (op_un (lstd_un ((ta_cons te_c (ta_cons te_c ta_nil)) _ ⟨by show 2 ≤ sizeLine; decide, fun kl hkl => ?_⟩)))))
  have z5 : Same G4 (upd G4 kl (.lst [.str "lost", .str "undo"])) := Same.upd hkl
  have w5 : (upd G4 kl (.lst [.str "lost", .str "undo"])) kl = some (.lst [.str "lost", .str "undo"]) := upd_same
  have nkl := Z4.row.ne hkl
  have Z5 := Z4.same z5
  generalize upd G4 kl (HO.lst [V.str "lost", .str "undo"]) = G5 at z5 w5 Z5 ⊢
  refine go_take (m := 2) (ta_cons (te_var rfl) (ta_cons te_c ta_nil)) Z5.row (by decide) fun z G6 z0 z1 s6 r6 => ?_
  have Z6 := Z5.fr s6 r6
  have w6 := s6 _ _ (by simpa using nkl) w5
  have hkd : ∃ kd : Str, atI [V.str "lost", .str "undo"] z = some (.str kd) ∧ kd ≠ "done" := by
    rcases (show z = 0 ∨ z = 1 by omega) with rfl | rfl
    · exact ⟨"lost", rfl, by decide +kernel⟩
    · exact ⟨"undo", rfl, by decide +kernel⟩
  obtain ⟨kd, ekd, nkd⟩ := hkd
  refine ⟨kl, _, z, .str kd, rfl, rfl, SqL.of w6, ekd, ?_⟩
  refine cons_un fun d1 hd1 => cons_un fun d2 hd2 => cons_un ((te_var rfl).go (cons_un (op_un ((te_var rfl).go ?_))))
  have nd1 := Z6.row.ne hd1
  have z7 : Same G6 (upd G6 d1 (.dK [])) := Same.upd hd1
  have w7 : (upd G6 d1 (.dK [])) d1 = some (.dK (kvI [])) := upd_same
  generalize upd G6 d1 (HO.dK []) = G7 at z7 w7 hd2 ⊢
  have Z7 := Z6.same z7
  have nd2 := Z7.row.ne hd2
  have z8 : Same G7 (upd G7 d2 (.dK [])) := Same.upd hd2
  have w8 : (upd G7 d2 (.dK [])) d2 = some (.dK (kvI [])) := upd_same
  generalize upd G7 d2 (HO.dK []) = G8 at z8 w8 ⊢
  have Z8 := Z7.same z8
  have w7 := z8 _ _ w7
  refine go_take (m := 6) (ta_cons (te_var rfl) (ta_cons te_c ta_nil)) Z8.row (by decide) fun y G9 y0 y1 s9 r9 => ⟨_, _, rfl, rfl, nil_un ⟨by show 5 ≤ sizeLine; decide, fun ea hea => ?_⟩⟩
  have Z9 := Z8.fr s9 r9
  have w7 := s9 _ _ (by simpa using nd1) w7
  have w8 := s9 _ _ (by simpa using nd2) w8
  have nea := Z9.row.ne hea
  have z10 : Same G9 (upd G9 ea (.lst [.str kd, .ref d1, .ref d2, .int bg, .int (bg + y)])) := Same.upd hea
  have w10 : (upd G9 ea (.lst [.str kd, .ref d1, .ref d2, .int bg, .int (bg + y)])) ea = some (.lst [.str kd, .ref d1, .ref d2, .int bg, .int (bg + y)]) := upd_same
  generalize upd G9 ea (HO.lst [V.str kd, .ref d1, .ref d2, .int bg, .int (bg + y)]) = G10 at z10 w10 ⊢
  have Z10 := Z9.same z10
  have rowE : RowAt (kp [p] G10) (.ref ea) ⟨kd, [], [], bg, bg + y⟩ := ⟨ea, d1, d2, rfl, kp_at w10 (by simpa using nea), kp_at (z10 _ _ w7) (by simpa using nd1), kp_at (z10 _ _ w8) (by simpa using nd2)⟩
  clear Z4 Z5 Z6 Z7 Z8 Z9 z5 w5 hkl nkl s6 r6 w6 hd1 hd2 nd1 nd2 z7 w7 z8 w8 s9 r9 hea nea z10 w10 ekd z0 z1
  try dsimp only
  refine ts_sl (σ' := [some (.ref a), some (.ref p), some (.ref v), some (.ref q), v4, some tv, some (.int bg), some (.ref ea), none, none, none, none, none]) rfl ?_
  -- one more, that reads nothing
  have lrdE : ∀ r ∈ rs' ++ [⟨kd, [], [], bg, bg + y⟩], r.rd.length ≤ 1000 := fun r hr => by
    rcases List.mem_append.mp hr with h | h
    · exact lrd r h
    · rw [List.mem_singleton.mp h]
      exact Nat.zero_le _
  have dE : (⟨kd, [], [], bg, bg + y⟩ : Rc).dn = false := decide_eq_false nkd
  obtain ⟨us, kus, pus, _⟩ := id Z10.rows
  have lus : us.length ≤ 6 := by
    rw [← paired_len pus]
    exact lr6
  refine sq_go (if_same (cons_un (call_un (cons_un ((tn_list (te_ixL (te_var rfl) te_c (SqL.of (kp_some Z10.pr).2) rfl : Te _ _ _ (.ref f)) (.inl (SqL.of (kp_some Z10.mem).2))).go fun c1 hc1 => cons_un ?_)))))
  have z11 : Same G10 (upd G10 c1 (.lst (ms.map V.int))) := Same.upd hc1
  have w11 : (upd G10 c1 (.lst (ms.map V.int))) c1 = some (.lst (ms.map V.int)) := upd_same
  have Z11 := Z10.same z11
  have kus11 := z11 _ _ (kp_some kus).2
  have rowE11 := rowE.mono ((Fr.of z11 : Fr [p] G10 _).kp)
  have pus11 : Paired (RowAt (kp [p] (upd G10 c1 (.lst (ms.map V.int))))) us rs' := L2.Paired.mapP pus fun u x t => t.mono ((Fr.of z11 : Fr [p] G10 _).kp)
  generalize upd G10 c1 (HO.lst (ms.map V.int)) = G11 at z11 w11 Z11 kus11 rowE11 pus11 ⊢
  clear Z10 hc1 kus rowE pus z11
  refine call_un (cons_un (op_un ((te_var rfl).go (lstd_un (cons_un ((te_var rfl).go (nil_un ⟨by show 1 ≤ sizeLine; decide, fun e1 he1 => ⟨q, e1, us, [.ref ea], rfl, rfl, Same.upd he1 _ _ kus11, upd_same, ?_, fun rq hrq => nil_un ⟨rq, rs' ++ [⟨kd, [], [], bg, bg + y⟩], rfl, ?_, fun RR G13 s13 hRR R13 => nil_un (find_due (s13 _ _ (Same.upd hrq _ _ (Same.upd he1 _ _ w11))) R13 lrdE lms (by rw [doneP_app dE]; omega) fun G14 tv2 s14 td2 => ?_)⟩⟩⟩)))))))
  · rw [sizeLine_eq]
    show us.length + 1 ≤ _
    omega
  · refine ⟨us ++ [.ref ea], upd_same, paired_appL (L2.Paired.mapP pus11 fun u x t => ?_) (.cons ?_ .nil), by rw [List.length_append]; show rs'.length + 1 ≤ 1000; omega⟩
    · exact (t.mono kp_sub).mono ((Same.upd he1).trans (Same.upd hrq))
    · exact (rowE11.mono kp_sub).mono ((Same.upd he1).trans (Same.upd hrq))
  rw [find_app dE rfl (show bg ≤ bg + y by omega) hbe] at td2
  have z14 : Same G11 G14 := (((Same.upd he1).trans (Same.upd hrq)).trans s13).trans s14
  have td2' : DueV G14 tv2 (findP rs' ms) := td2.mono fun b o e => by
    unfold nwH at e
    split at e
    · exact e
    · cases e
  have Z14 := Z11.same z14
  refine cons_un ((te_var rfl).go (nil_un (same_due td2' (Z14.told.mono kp_sub) t5 ?_)))
  clear td2 td2' z14 s14 R13 s13 hrq he1 rowE11 pus11 kus11 w11 Z11 hRR lrdE
  dsimp only [tNext]
  have no11 : ∀ {t : Tr3}, t ∈ ([] : List Tr3) → False := fun h => nomatch h
  cases ot : findP rs' ms with
  | none =>
    have htv : tv = .non := by
      have := Z14.told
      rw [ot] at this
      exact this
    subst htv
    refine if_seq (tt_test (te_isN (te_var (v := .non) rfl))) (fun _ => ?_) fun h => (by simp at h)
    refine ret_un (op_un (call_un (cons_un ((tn_list (te_ixL (te_var rfl) te_c (SqL.of (kp_some Z14.pr).2) rfl : Te _ _ _ (.ref f)) (.inl (SqL.of (kp_some Z14.mem).2))).go fun c2 hc2 => cons_un ?_))))
    refine call_un (cons_un (call_un (cons_un ((te_var rfl).go (cons_un (te_c.go (cons_un (te_c.go (nil_un ⟨q, 2, 5, rs', rfl, (Z14.rows.mono kp_sub).mono (Same.upd hc2), by decide, by decide, fun mv G15 s15 hmv R15 => nil_un ⟨mv, _, rfl, R15, fun RR G16 s16 hRR R16 => nil_un (find_due (s16 _ _ (s15 _ _ upd_same)) R16 (fun r hr => ?_) lms (by rw [doneP_mv]; omega) fun G17 tv3 s17 td3 => te_c.go ⟨rfl, ?_⟩)⟩⟩)))))))))
    · obtain ⟨x, hx, rfl⟩ := List.mem_map.mp hr
      exact lrd x hx
    · rw [find_mv (by decide), ot] at td3
      have td3 : tv3 = .non := td3
      rw [td3]
      exact k _
  | some t =>
    have htd := Z14.told
    rw [ot] at htd
    obtain ⟨b, rfl, hb⟩ := htd
    refine if_seq (tt_test (te_isN (te_var (v := .ref b) rfl))) (fun h => (by simp at h)) fun _ => ?_
    -- moved
    refine asg_un (call_un (cons_un ((te_var rfl).go (cons_un (op_un (te_c.go (go_take (m := 3) (ta_cons (te_var rfl) (ta_cons te_c ta_nil)) Z14.row (by decide) fun sc G15 sc0 sc1 s15 r15 => ⟨_, _, rfl, rfl, cons_un ?_⟩)))))))
    have Z15 := Z14.fr s15 r15
    refine go_take (m := 9) (ta_cons (te_var rfl) (ta_cons te_c ta_nil)) Z15.row (by decide) fun sh G16 sh0 sh1 s16 r16 => nil_un ?_
    have Z16 := Z15.fr s16 r16
    refine ⟨q, 1 + sc, sh, rs', rfl, Z16.rows.mono kp_sub, by omega, by omega, fun mv G17 s17 hmv R17 => ?_⟩
    have Z17 := Z16.same s17
    clear Z14 Z15 Z16 s15 r15 s16 r16 s17 hmv
    try dsimp only
    refine ts_sl (σ' := [some (.ref a), some (.ref p), some (.ref v), some (.ref q), v4, some (.ref b), some (.int bg), some (.ref ea), some (.ref mv), none, none, none, none]) rfl ?_
    refine sq_go (if_same (cons_un (call_un (cons_un ((tn_list (te_ixL (te_var rfl) te_c (SqL.of (kp_some Z17.pr).2) rfl : Te _ _ _ (.ref f)) (.inl (SqL.of (kp_some Z17.mem).2))).go fun c1 hc1 => cons_un ?_)))))
    refine call_un (cons_un ((te_var rfl).go (nil_un ⟨mv, _, rfl, R17.mono (Same.upd hc1), fun RR G19 s19 hRR R19 => nil_un (find_due (s19 _ _ upd_same) R19 (fun r hr => ?_) lms (by rw [doneP_mv]; omega) fun G20 tv3 s20 td3 => ?_)⟩)))
    · obtain ⟨x, hx, rfl⟩ := List.mem_map.mp hr
      exact lrd x hx
    rw [find_mv (by omega), ot] at td3
    have z20 := ((Same.upd (o := .lst (ms.map V.int)) hc1).trans s19).trans s20
    have td3' : DueV G20 tv3 (some t) := td3.mono fun b o e => by
      unfold nwH at e
      split at e
      · exact e
      · cases e
    have Z20 := Z17.same z20
    have hb20 : DueV G20 (.ref b) (some t) := by
      have := Z20.told.mono kp_sub
      rw [ot] at this
      exact this
    refine cons_un ((te_var rfl).go (nil_un (same_due td3' hb20 (fun u e => t5 u (by rw [ot]; exact e)) ?_)))
    clear Z17 td3 td3' z20 s20 s19 R19 hRR hc1 R17
    dsimp only [tNext]
    -- the others
    have hO : isO rs' ms t = true := by
      rw [findP_eq] at ot
      exact List.find?_some ot
    have R20 := Z20.rows.mono kp_sub
    refine asg_un (lc_go (ti_rngN (n := rs'.length) (R20.len (te_var rfl)) (by omega)) walk_range (fun D i H' => Same G20 H' ∧ H' D = some (.lst ((othTo rs' i).map V.int))) (fun D hD => ⟨Same.upd hD, upd_same⟩) (fun _ _ _ _ _ => trivial) ?_ fun ol G21 hol hP => ?_)
    · rintro D i x G0 G' hD hi ⟨sG, eG⟩ ⟨rfl, rfl⟩
      refine name_go (σ' := [some (.ref a), some (.ref p), some (.ref v), some (.ref q), v4, some (.ref b), some (.int bg), some (.ref ea), some (.ref mv), none, none, none, some (.int (i : Int))]) (by simp; rfl) ⟨rfl, ?_⟩
      obtain ⟨u, tu, hu⟩ := (R20.mono sG).ix (K := K) (σ := [some (.ref a), some (.ref p), some (.ref v), some (.ref q), v4, some (.ref b), some (.int bg), some (.ref ea), some (.ref mv), none, none, none, some (.int (i : Int))]) (ta := tVar 3) (tb := tVar 12) (k := i) (te_var rfl) (te_var rfl) (List.getElem?_eq_getElem hi)
      refine (tt_test (te_ne (hu.ix0 tu) te_c rfl)).go ?_
      have ed : dnAt rs' i = (rs'[i]).dn := by
        unfold dnAt
        rw [List.getElem?_eq_getElem hi]
      have es : othTo rs' (i + 1) = othTo rs' i ++ (if (rs'[i]).dn = false then [(i : Int)] else []) := by rw [othTo_succ, ed]
      by_cases hd : (rs'[i]).kd = "done"
      · have h2 : (rs'[i]).dn = true := decide_eq_true hd
        rw [h2, if_neg (by simp), List.append_nil] at es
        rw [decide_eq_true (by rw [hd]), Bool.not_true, if_neg (by simp)]
        exact ⟨sG, by rw [es]; exact eG⟩
      · have h2 : (rs'[i]).dn = false := decide_eq_false hd
        rw [h2, if_pos rfl] at es
        rw [decide_eq_false (fun z => hd (V.str.inj z)), Bool.not_false, if_pos rfl]
        refine (te_var (v := .int (i : Int)) rfl).go ⟨_, eG, ?_, Same.wr sG hD, by rw [upd_same, es, List.map_append]; rfl⟩
        have := othTo_len (rs := rs') (i := i)
        rw [List.length_map, sizeLine_eq]
        omega
    obtain ⟨s21, e21⟩ := hP
    have Z21 := Z20.same s21
    have nol := Z20.row.ne hol
    clear Z20 R20 hb20 s21
    try dsimp only
    refine ts_sl (σ' := [some (.ref a), some (.ref p), some (.ref v), some (.ref q), v4, some (.ref b), some (.int bg), some (.ref ea), some (.ref mv), some (.ref ol), none, none, none]) rfl ?_
    have tl : ∀ {G : Hp}, Same G21 G → Te (tCB (rLenS K) (tCons (tVar 9) tNil)) [some (.ref a), some (.ref p), some (.ref v), some (.ref q), v4, some (.ref b), some (.int bg), some (.ref ea), some (.ref mv), some (.ref ol), none, none, none] G (.int ((othTo rs' rs'.length).length : Int)) := fun {G} s => by
      have t := te_len (K := K) (te := tVar 9) (σ := [some (.ref a), some (.ref p), some (.ref v), some (.ref q), v4, some (.ref b), some (.int bg), some (.ref ea), some (.ref mv), some (.ref ol), none, none, none]) (te_var rfl) (.inl (SqL.of (s _ _ e21)))
      rw [List.length_map] at t
      exact t
    refine ⟨fun _ _ => True, if_go (tt_test (te_i0 (g := fun i j => .bl (decide (j < i))) (tl (Same.refl _)) te_c)) (fun h => ?_) fun _ => trivial, fun _ G' _ => ret_te te_c (k _)⟩
    have hl : 0 < (othTo rs' rs'.length).length := by
      have := of_decide_eq_true h
      omega
    refine asg_un (op_un ((te_var rfl).go (go_take (p := p) (m := ((othTo rs' rs'.length).length : Int)) (ta_cons (te_var rfl) (ta_cons (tl (Same.refl _)) ta_nil)) Z21.row (by omega) fun z G22 z0 z1 s22 r22 => ?_)))
    have Z22 := Z21.fr s22 r22
    have e22 := s22 _ _ (by simpa using nol) e21
    have hz : z.toNat < (othTo rs' rs'.length).length := by omega
    obtain ⟨o, eo, ho1, ho2⟩ := othTo_iff.mp (List.getElem_mem hz)
    refine ⟨ol, _, z, .int (o : Int), rfl, rfl, SqL.of e22, atI_int z0 (by rw [List.getElem?_map, List.getElem?_eq_getElem hz, eo]; rfl), ?_⟩
    clear tl h hl Z21 s22 r22 nol e21 e22 eo hz
    try dsimp only
    refine ts_sl (σ' := [some (.ref a), some (.ref p), some (.ref v), some (.ref q), v4, some (.ref b), some (.int bg), some (.ref ea), some (.ref mv), some (.ref ol), some (.int (o : Int)), none, none]) rfl ?_
    -- one left out
    obtain ⟨us, kus, pus, _⟩ := id Z22.rows
    have kus := (kp_some kus).2
    have lus : us.length ≤ 6 := by
      rw [← paired_len pus]
      exact lr6
    refine asg_un (op_un ((tn_take (n := o) (te_var rfl) (te_var rfl) (SqL.of kus)).go fun t1 ht1 => ?_))
    have y1 : Same G22 (upd G22 t1 (.lst (us.take o))) := Same.upd ht1
    have x1 : (upd G22 t1 (.lst (us.take o))) t1 = some (.lst (us.take o)) := upd_same
    generalize upd G22 t1 (HO.lst (us.take o)) = G23 at y1 x1 ⊢
    refine (tn_drop (n := o + 1) (te_var rfl) (te_i0 (g := fun i j => .int (i + j)) (te_var (v := .int (o : Int)) rfl) (te_c (v := .int 1))) (SqL.of (y1 _ _ kus))).go fun t2 ht2 => ?_
    have y2 : Same G23 (upd G23 t2 (.lst (us.drop (o + 1)))) := Same.upd ht2
    have x2 : (upd G23 t2 (.lst (us.drop (o + 1)))) t2 = some (.lst (us.drop (o + 1))) := upd_same
    generalize upd G23 t2 (HO.lst (us.drop (o + 1))) = G24 at y2 x2 ⊢
    refine ⟨t1, t2, _, _, rfl, rfl, y2 _ _ x1, x2, by rw [List.length_take, List.length_drop, sizeLine_eq]; omega, fun fw hfw => ?_⟩
    have y3 : Same G24 (upd G24 fw (.lst (us.take o ++ us.drop (o + 1)))) := Same.upd hfw
    have x3 : (upd G24 fw (.lst (us.take o ++ us.drop (o + 1)))) fw = some (.lst (us.take o ++ us.drop (o + 1))) := upd_same
    generalize upd G24 fw (HO.lst (us.take o ++ us.drop (o + 1))) = G25 at y3 x3 ⊢
    have y := (y1.trans y2).trans y3
    have Z25 := Z22.same y
    have R25 : RowsIn G25 fw (lessR rs' o) := ⟨_, x3, L2.Paired.mapP (paired_appL (paired_takeL o pus) (paired_dropL (o + 1) pus)) fun u x t => (t.mono kp_sub).mono y, by
      have := less_len ho1
      omega⟩
    clear Z22 kus pus lus y1 y2 y3 y x1 x2 x3 ht1 ht2 hfw
    try dsimp only
    refine ts_sl (σ' := [some (.ref a), some (.ref p), some (.ref v), some (.ref q), v4, some (.ref b), some (.int bg), some (.ref ea), some (.ref mv), some (.ref ol), some (.int (o : Int)), some (.ref fw), none]) rfl ?_
    refine if_same (cons_un (call_un (cons_un ((tn_list (te_ixL (te_var rfl) te_c (SqL.of (kp_some Z25.pr).2) rfl : Te _ _ _ (.ref f)) (.inl (SqL.of (kp_some Z25.mem).2))).go fun c3 hc3 => cons_un ?_))))
    refine call_un (cons_un ((te_var rfl).go (nil_un ⟨fw, _, rfl, R25.mono (Same.upd hc3), fun RR G27 s27 hRR R27 => cons_un ?_⟩)))
    have y4 := (Same.upd (o := .lst (ms.map V.int)) hc3).trans s27
    have Z27 := Z25.same y4
    have hb27 : DueV G27 (.ref b) (some t) := by
      have := Z27.told.mono kp_sub
      rw [ot] at this
      exact this
    obtain ⟨b', eb, hb'⟩ := hb27
    cases eb
    have hc27 := s27 _ _ (upd_same (H := G25) (a := c3) (o := .lst (ms.map V.int)))
    have lt5 := t5 t ot
    have lt6 : t.length ≤ 6 := by
      have := (isO_iff.mp hO).1.length_eq
      omega
    refine lc_go (ti_list (te_var rfl) (SqL.of hb')) walk_list (fun L i G => Same G27 G ∧ G L = some (.lst (((t.take i).map (shI o)).map V.int))) (fun L hL => ⟨Same.upd hL, upd_same⟩) (fun L i G _ h => SqL.of (h.1 _ _ hb')) ?_ fun L G28 hL hP => nil_un ?_
    · rintro L i y G0 G hL hi ⟨sG, eG⟩ ⟨rfl, hy⟩
      obtain ⟨x, ex, rfl⟩ := map_at hy
      refine name_go (σ' := [some (.ref a), some (.ref p), some (.ref v), some (.ref q), v4, some (.ref b), some (.int bg), some (.ref ea), some (.ref mv), some (.ref ol), some (.int (o : Int)), some (.ref fw), some (.int x)]) rfl ⟨rfl, yes_go ?_⟩
      refine (te_i0 (g := fun i j => .int (i - j)) (te_var (v := .int x) rfl) (te_int1b (te_i0 (g := fun i j => .bl (decide (j < i))) (te_var (v := .int x) rfl) (te_var (v := .int (o : Int)) rfl)))).go ⟨_, eG, ?_, Same.wr sG hL, ?_⟩
      · rw [List.length_map, List.length_map, List.length_take, sizeLine_eq]
        omega
      · rw [upd_same, List.take_add_one, ex, List.map_append, List.map_append]
        have e9 : x - (if decide ((o : Int) < x) = true then 1 else 0) = shI o x := by
          unfold shI
          by_cases z : x > (o : Int)
          · rw [if_pos z, if_pos (decide_eq_true z)]
          · rw [if_neg z, if_neg (fun w => z (of_decide_eq_true w))]
        rw [e9]
        rfl
    obtain ⟨s28, e28⟩ := hP
    rw [List.length_map, List.take_length] at e28
    refine ⟨c3, RR, L, lessR rs' o, ms, t.map (shI o), rfl, s28 _ _ hc27, R27.mono s28, e28, by rw [List.length_map]; omega, lms, fun r hr => ?_, fun G29 s29 => cons_un (te_c.go (nil_un ?_))⟩
    · rcases List.mem_append.mp (show r ∈ rs'.take o ++ rs'.drop (o + 1) from hr) with h | h
      · exact lrd r (List.mem_of_mem_take h)
      · exact lrd r (List.mem_of_mem_drop h)
    · rw [less_order ho1 ho2 hO]
      exact same_bl trivial
end
end O43

namespace O43
open PySem L2 YF
theorem law_at {K : PySem.W.Frag} {A : Adr} {H : Hp} {a : Addr} {ns : List Int} (hl : ns.length ≤ 63) (ht : ∀ p ∈ ([] : List (Addr × Addr)), H p.2 = some (.tbl #[])) (hS : SqL K H a (ns.map V.int)) : spLaw K A [.ref a] H (fun v _ => v = .bl true) fun _ _ _ => False :=
  ⟨a, ns, rfl, hS, hl, fun _ => rfl⟩
theorem law_ok {P : Program} {w : World} {K : PySem.W.Frag} {mg : Str → Option Value} {base : Heap} {A : Adr} (TB : ∀ p ∈ ([] : List (Addr × Addr)), LamX.TabB base mg p.1 p.2) (T : Txt K mg A) : FnOk P w K mg base CX0 15 A.a_law A.d_law ["script"] (spLaw K A) := ok_law T
def dd__written : He.DefD := ⟨("_written", none), "_written", "_written", defArgs s_written, defBody s_written, defScope s_written, [], []⟩
def dd_agrees : He.DefD := ⟨("agrees", none), "agrees", "agrees", defArgs s_agrees, defBody s_agrees, defScope s_agrees, [], []⟩
def dd_is_order : He.DefD := ⟨("is_order", none), "is_order", "is_order", defArgs s_is_order, defBody s_is_order, defScope s_is_order, [], []⟩
def dd__done : He.DefD := ⟨("_done", none), "_done", "_done", defArgs s_done, defBody s_done, defScope s_done, [], []⟩
def dd_Account___init__ : He.DefD := ⟨("Account", some "__init__"), "__init__", "Account.__init__", defArgs s_Account___init__, defBody s_Account___init__, defScope s_Account___init__, [], []⟩
def dd_Account_agrees_in_order : He.DefD := ⟨("Account", some "agrees_in_order"), "agrees_in_order", "Account.agrees_in_order", defArgs s_Account_agrees_in_order, defBody s_Account_agrees_in_order, defScope s_Account_agrees_in_order, [], []⟩
def dd_Account_keeps_time : He.DefD := ⟨("Account", some "keeps_time"), "keeps_time", "Account.keeps_time", defArgs s_Account_keeps_time, defBody s_Account_keeps_time, defScope s_Account_keeps_time, [], []⟩
def dd_Account_all_have_pasts : He.DefD := ⟨("Account", some "all_have_pasts"), "all_have_pasts", "Account.all_have_pasts", defArgs s_Account_all_have_pasts, defBody s_Account_all_have_pasts, defScope s_Account_all_have_pasts, [], []⟩
def dd_Account_pasts_of : He.DefD := ⟨("Account", some "pasts_of"), "pasts_of", "Account.pasts_of", defArgs s_Account_pasts_of, defBody s_Account_pasts_of, defScope s_Account_pasts_of, [], []⟩
def dd_Account__most : He.DefD := ⟨("Account", some "_most"), "_most", "Account._most", defArgs s_Account__most, defBody s_Account__most, defScope s_Account__most, [], []⟩
def dd_find_order : He.DefD := ⟨("find_order", none), "find_order", "find_order", defArgs s_find_order, defBody s_find_order, defScope s_find_order, [], []⟩
def dd_Finder___init__ : He.DefD := ⟨("Finder", some "__init__"), "__init__", "Finder.__init__", defArgs s_Finder___init__, defBody s_Finder___init__, defScope s_Finder___init__, [], []⟩
def dd_Finder_least : He.DefD := ⟨("Finder", some "least"), "least", "Finder.least", defArgs s_Finder_least, defBody s_Finder_least, defScope s_Finder_least, [], []⟩
def dd_Finder__is_past : He.DefD := ⟨("Finder", some "_is_past"), "_is_past", "Finder._is_past", defArgs s_Finder__is_past, defBody s_Finder__is_past, defScope s_Finder__is_past, [], []⟩
def dd_Finder__may_follow : He.DefD := ⟨("Finder", some "_may_follow"), "_may_follow", "Finder._may_follow", defArgs s_Finder__may_follow, defBody s_Finder__may_follow, defScope s_Finder__may_follow, [], []⟩
def dd_Record___init__ : He.DefD := ⟨("Record", some "__init__"), "__init__", "Record.__init__", defArgs s_Record___init__, defBody s_Record___init__, defScope s_Record___init__, [], []⟩
def dd_TooLarge___init__ : He.DefD := ⟨("TooLarge", some "__init__"), "__init__", "TooLarge.__init__", defArgs s_TooLarge___init__, defBody s_TooLarge___init__, defScope s_TooLarge___init__, [], []⟩
def dd__law_draws : He.DefD := ⟨("_law_draws", none), "_law_draws", "_law_draws", defArgs s_law_draws, defBody s_law_draws, defScope s_law_draws, [], []⟩
def dd__law_take : He.DefD := ⟨("_law_take", none), "_law_take", "_law_take", defArgs s_law_take, defBody s_law_take, defScope s_law_take, [], []⟩
def dd__law_same : He.DefD := ⟨("_law_same", none), "_law_same", "_law_same", defArgs s_law_same, defBody s_law_same, defScope s_law_same, [], []⟩
def dd__law_records : He.DefD := ⟨("_law_records", none), "_law_records", "_law_records", defArgs s_law_records, defBody s_law_records, defScope s_law_records, [], []⟩
def dd__law_bent : He.DefD := ⟨("_law_bent", none), "_law_bent", "_law_bent", defArgs s_law_bent, defBody s_law_bent, defScope s_law_bent, [], []⟩
def dd__law_mixed : He.DefD := ⟨("_law_mixed", none), "_law_mixed", "_law_mixed", defArgs s_law_mixed, defBody s_law_mixed, defScope s_law_mixed, [], []⟩
def dd__law_made : He.DefD := ⟨("_law_made", none), "_law_made", "_law_made", defArgs s_law_made, defBody s_law_made, defScope s_law_made, [], []⟩
def dd__law_world : He.DefD := ⟨("_law_world", none), "_law_world", "_law_world", defArgs s_law_world, defBody s_law_world, defScope s_law_world, [], []⟩
def dd__law_done : He.DefD := ⟨("_law_done", none), "_law_done", "_law_done", defArgs s_law_done, defBody s_law_done, defScope s_law_done, [], []⟩
def dd__law_moved : He.DefD := ⟨("_law_moved", none), "_law_moved", "_law_moved", defArgs s_law_moved, defBody s_law_moved, defScope s_law_moved, [], []⟩
def dd_law : He.DefD := ⟨("law", none), "law", "law", defArgs s_law, defBody s_law, defScope s_law, [], []⟩
def fn : List He.DefD := [dd__written, dd_agrees, dd_is_order, dd__done, dd_Account___init__, dd_Account_agrees_in_order, dd_Account_keeps_time, dd_Account_all_have_pasts, dd_Account_pasts_of, dd_Account__most, dd_find_order, dd_Finder___init__, dd_Finder_least, dd_Finder__is_past, dd_Finder__may_follow, dd_Record___init__, dd_TooLarge___init__, dd__law_draws, dd__law_take, dd__law_same, dd__law_records, dd__law_bent, dd__law_mixed, dd__law_made, dd__law_world, dd__law_done, dd__law_moved, dd_law]
def fa : List He.Fa := [.glo "_written", .glo "agrees", .glo "is_order", .glo "_done", .mkr "Account", .meth "Account" "agrees_in_order", .meth "Account" "keeps_time", .meth "Account" "all_have_pasts", .meth "Account" "pasts_of", .meth "Account" "_most", .glo "find_order", .mkr "Finder", .meth "Finder" "least", .meth "Finder" "_is_past", .meth "Finder" "_may_follow", .mkr "Record", .glo "_law_draws", .glo "_law_take", .glo "_law_same", .glo "_law_records", .glo "_law_bent", .glo "_law_mixed", .glo "_law_made", .glo "_law_world", .glo "_law_done", .glo "_law_moved", .glo "law", .glo "Record", .cls "Record", .noat "Record" "thread", .noat "Record" "begun", .noat "Record" "ended", .noat "Record" "kind", .noat "Record" "reads", .noat "Record" "writes", .noat "Record" "stamp", .glo "Account", .cls "Account", .noat "Account" "_records", .noat "Account" "_in_order", .noat "Account" "_memories", .noat "Account" "_needs", .glo "Finder", .cls "Finder", .noat "Finder" "_records", .noat "Finder" "_hopeless", .free "len", .free "abs", .free "int", .free "list", .free "reversed", .free "range", .free "isinstance", .free "tuple", .free "str", .free "bool", .free "dict", .free "max", .free "all", .free "enumerate", .free "sorted", .free "any", .int "MOST_DONE" 8, .glo "TooLarge", .exm "TooLarge" "TooLarge" true]
def exF (K : PySem.W.Frag) : Bool := oexB K (He.ga K "TooLarge") && (xfB K (He.ga K "TooLarge") && (fnB K (He.ga K "TooLarge") "__init__" (He.fAd K ("TooLarge", some "__init__")) && (noB K (He.ga K "TooLarge") "limit" && (true))))
def tf : List He.Defn := []
abbrev R : PySem.W.OpenRow := PySem.W.OpenLaw.row PySem.Challenge.rw_handshaker_k43_orders_of_fewer_records
abbrev hk : PySem.W.Hook := He.hookX 5 fa fn [] tf exF
def ob (s : PySem.W.SharedT) : He.AlX := He.obsX 5 fa fn [] tf exF (HandSHeadRun.getT s)
theorem ob_eq (s : PySem.W.SharedT) : ob s = hk.obs s.abs := He.obsX_eq (HandSHeadRun.getT_eq s)
def loose : List PySem.Str := (["_written", "agrees", "is_order", "_done", "find_order", "_law_draws", "_law_take", "_law_same", "_law_records", "_law_bent", "_law_mixed", "_law_made", "_law_world", "_law_done", "_law_moved", "HandshakerError", "TooLarge", "Account", "Finder", "Record", "MOST_DONE"] : List PySem.Str)
theorem run (w : World) : HandSHeadRun.RunEq R (PySem.W.view R.prog [25]) hk ob 3000 loose w := by
  intro os
  kernel_rfl
theorem facts {w : World} {mg : Str → Option Value} {fa' : Addr} {h : Heap} (G : h.Ns mainGlobals mg) (hfa : mg "law" = some (.ref fa')) {K : PySem.W.Frag} (X : K.In h) (c : He.SaysX fa fn [] tf exF w h K) : LamX.LawAtS PySem.Challenge.rw_handshaker_k43_orders_of_fewer_records w K CX0 15 63 "script" mg fa' h := by
  have d := c.t.d
  obtain ⟨d0, D0⟩ : ∃ fd, FunD K "_written" "_written" (defArgs s_written) (defBody s_written) (defScope s_written) [] [] (He.fAd K ("_written", none)) fd := d.def_ 0
  have B0 : Binds K d0 ["memory", "writes"] [] := D0.bindsN (fun _ _ _ _ _ _ us hl => by
    match us, hl with
    | [_, _], _ => rfl)
  obtain ⟨d1, D1⟩ : ∃ fd, FunD K "agrees" "agrees" (defArgs s_agrees) (defBody s_agrees) (defScope s_agrees) [] [] (He.fAd K ("agrees", none)) fd := d.def_ 1
  have B1 : Binds K d1 ["reads", "memory"] [] := D1.bindsN (fun _ _ _ _ _ _ us hl => by
    match us, hl with
    | [_, _], _ => rfl)
  obtain ⟨d2, D2⟩ : ∃ fd, FunD K "is_order" "is_order" (defArgs s_is_order) (defBody s_is_order) (defScope s_is_order) [] [] (He.fAd K ("is_order", none)) fd := d.def_ 2
  have B2 : Binds K d2 ["memory", "records", "order"] [] := D2.bindsN (fun _ _ _ _ _ _ us hl => by
    match us, hl with
    | [_, _, _], _ => rfl)
  obtain ⟨d3, D3⟩ : ∃ fd, FunD K "_done" "_done" (defArgs s_done) (defBody s_done) (defScope s_done) [] [] (He.fAd K ("_done", none)) fd := d.def_ 3
  have B3 : Binds K d3 ["records"] [] := D3.bindsN (fun _ _ _ _ _ _ us hl => by
    match us, hl with
    | [_], _ => rfl)
  obtain ⟨d4, D4⟩ : ∃ fd, FunD K "__init__" "Account.__init__" (defArgs s_Account___init__) (defBody s_Account___init__) (defScope s_Account___init__) [] [] (He.fAd K ("Account", some "__init__")) fd := d.def_ 4
  have B4 : Binds K d4 ["self", "memory", "records", "order"] [] := D4.bindsN (fun _ _ _ _ _ _ us hl => by
    match us, hl with
    | [_, _, _, _], _ => rfl)
  obtain ⟨d5, D5⟩ : ∃ fd, FunD K "agrees_in_order" "Account.agrees_in_order" (defArgs s_Account_agrees_in_order) (defBody s_Account_agrees_in_order) (defScope s_Account_agrees_in_order) [] [] (He.fAd K ("Account", some "agrees_in_order")) fd := d.def_ 5
  have B5 : Binds K d5 ["self"] [] := D5.bindsN (fun _ _ _ _ _ _ us hl => by
    match us, hl with
    | [_], _ => rfl)
  obtain ⟨d6, D6⟩ : ∃ fd, FunD K "keeps_time" "Account.keeps_time" (defArgs s_Account_keeps_time) (defBody s_Account_keeps_time) (defScope s_Account_keeps_time) [] [] (He.fAd K ("Account", some "keeps_time")) fd := d.def_ 6
  have B6 : Binds K d6 ["self"] [] := D6.bindsN (fun _ _ _ _ _ _ us hl => by
    match us, hl with
    | [_], _ => rfl)
  obtain ⟨d7, D7⟩ : ∃ fd, FunD K "all_have_pasts" "Account.all_have_pasts" (defArgs s_Account_all_have_pasts) (defBody s_Account_all_have_pasts) (defScope s_Account_all_have_pasts) [] [] (He.fAd K ("Account", some "all_have_pasts")) fd := d.def_ 7
  have B7 : Binds K d7 ["self", "indexes"] [] := D7.bindsN (fun _ _ _ _ _ _ us hl => by
    match us, hl with
    | [_, _], _ => rfl)
  obtain ⟨d8, D8⟩ : ∃ fd, FunD K "pasts_of" "Account.pasts_of" (defArgs s_Account_pasts_of) (defBody s_Account_pasts_of) (defScope s_Account_pasts_of) [] [] (He.fAd K ("Account", some "pasts_of")) fd := d.def_ 8
  have B8 : Binds K d8 ["self", "index"] [] := D8.bindsN (fun _ _ _ _ _ _ us hl => by
    match us, hl with
    | [_, _], _ => rfl)
  obtain ⟨d9, D9⟩ : ∃ fd, FunD K "_most" "Account._most" (defArgs s_Account__most) (defBody s_Account__most) (defScope s_Account__most) [] [] (He.fAd K ("Account", some "_most")) fd := d.def_ 9
  have B9 : Binds K d9 ["self", "record"] [] := D9.bindsN (fun _ _ _ _ _ _ us hl => by
    match us, hl with
    | [_, _], _ => rfl)
  obtain ⟨d10, D10⟩ : ∃ fd, FunD K "find_order" "find_order" (defArgs s_find_order) (defBody s_find_order) (defScope s_find_order) [] [] (He.fAd K ("find_order", none)) fd := d.def_ 10
  have B10 : Binds K d10 ["memory", "records"] [] := D10.bindsN (fun _ _ _ _ _ _ us hl => by
    match us, hl with
    | [_, _], _ => rfl)
  obtain ⟨d11, D11⟩ : ∃ fd, FunD K "__init__" "Finder.__init__" (defArgs s_Finder___init__) (defBody s_Finder___init__) (defScope s_Finder___init__) [] [] (He.fAd K ("Finder", some "__init__")) fd := d.def_ 11
  have B11 : Binds K d11 ["self", "records"] [] := D11.bindsN (fun _ _ _ _ _ _ us hl => by
    match us, hl with
    | [_, _], _ => rfl)
  obtain ⟨d12, D12⟩ : ∃ fd, FunD K "least" "Finder.least" (defArgs s_Finder_least) (defBody s_Finder_least) (defScope s_Finder_least) [] [] (He.fAd K ("Finder", some "least")) fd := d.def_ 12
  have B12 : Binds K d12 ["self", "memory", "order", "left", "others"] [] := D12.bindsN (fun _ _ _ _ _ _ us hl => by
    match us, hl with
    | [_, _, _, _, _], _ => rfl)
  obtain ⟨d13, D13⟩ : ∃ fd, FunD K "_is_past" "Finder._is_past" (defArgs s_Finder__is_past) (defBody s_Finder__is_past) (defScope s_Finder__is_past) [] [] (He.fAd K ("Finder", some "_is_past")) fd := d.def_ 13
  have B13 : Binds K d13 ["self", "memory", "order", "left", "index"] [] := D13.bindsN (fun _ _ _ _ _ _ us hl => by
    match us, hl with
    | [_, _, _, _, _], _ => rfl)
  obtain ⟨d14, D14⟩ : ∃ fd, FunD K "_may_follow" "Finder._may_follow" (defArgs s_Finder__may_follow) (defBody s_Finder__may_follow) (defScope s_Finder__may_follow) [] [] (He.fAd K ("Finder", some "_may_follow")) fd := d.def_ 14
  have B14 : Binds K d14 ["self", "memory", "left", "index"] [] := D14.bindsN (fun _ _ _ _ _ _ us hl => by
    match us, hl with
    | [_, _, _, _], _ => rfl)
  obtain ⟨d15, D15⟩ : ∃ fd, FunD K "__init__" "Record.__init__" (defArgs s_Record___init__) (defBody s_Record___init__) (defScope s_Record___init__) [] [] (He.fAd K ("Record", some "__init__")) fd := d.def_ 15
  have B15 : Binds K d15 ["self", "thread", "begun", "ended", "kind", "reads", "writes", "stamp"] [] := D15.bindsN (fun _ _ _ _ _ _ us hl => by
    match us, hl with
    | [_, _, _, _, _, _, _, _], _ => rfl)
  obtain ⟨d16, D16⟩ : ∃ fd, FunD K "__init__" "TooLarge.__init__" (defArgs s_TooLarge___init__) (defBody s_TooLarge___init__) (defScope s_TooLarge___init__) [] [] (He.fAd K ("TooLarge", some "__init__")) fd := d.def_ 16
  have B16 : Binds K d16 ["self", "limit"] [] := D16.bindsN (fun _ _ _ _ _ _ us hl => by
    match us, hl with
    | [_, _], _ => rfl)
  obtain ⟨d17, D17⟩ : ∃ fd, FunD K "_law_draws" "_law_draws" (defArgs s_law_draws) (defBody s_law_draws) (defScope s_law_draws) [] [] (He.fAd K ("_law_draws", none)) fd := d.def_ 17
  have B17 : Binds K d17 ["script"] [] := D17.bindsN (fun _ _ _ _ _ _ us hl => by
    match us, hl with
    | [_], _ => rfl)
  obtain ⟨d18, D18⟩ : ∃ fd, FunD K "_law_take" "_law_take" (defArgs s_law_take) (defBody s_law_take) (defScope s_law_take) [] [] (He.fAd K ("_law_take", none)) fd := d.def_ 18
  have B18 : Binds K d18 ["draws", "bound"] [] := D18.bindsN (fun _ _ _ _ _ _ us hl => by
    match us, hl with
    | [_, _], _ => rfl)
  obtain ⟨d19, D19⟩ : ∃ fd, FunD K "_law_same" "_law_same" (defArgs s_law_same) (defBody s_law_same) (defScope s_law_same) [] [] (He.fAd K ("_law_same", none)) fd := d.def_ 19
  have B19 : Binds K d19 ["actual", "due"] [] := D19.bindsN (fun _ _ _ _ _ _ us hl => by
    match us, hl with
    | [_, _], _ => rfl)
  obtain ⟨d20, D20⟩ : ∃ fd, FunD K "_law_records" "_law_records" (defArgs s_law_records) (defBody s_law_records) (defScope s_law_records) [] [] (He.fAd K ("_law_records", none)) fd := d.def_ 20
  have B20 : Binds K d20 ["draws", "cells", "many"] [] := D20.bindsN (fun _ _ _ _ _ _ us hl => by
    match us, hl with
    | [_, _, _], _ => rfl)
  obtain ⟨d21, D21⟩ : ∃ fd, FunD K "_law_bent" "_law_bent" (defArgs s_law_bent) (defBody s_law_bent) (defScope s_law_bent) [] [] (He.fAd K ("_law_bent", none)) fd := d.def_ 21
  have B21 : Binds K d21 ["draws", "rows", "cells"] [] := D21.bindsN (fun _ _ _ _ _ _ us hl => by
    match us, hl with
    | [_, _, _], _ => rfl)
  obtain ⟨d22, D22⟩ : ∃ fd, FunD K "_law_mixed" "_law_mixed" (defArgs s_law_mixed) (defBody s_law_mixed) (defScope s_law_mixed) [] [] (He.fAd K ("_law_mixed", none)) fd := d.def_ 22
  have B22 : Binds K d22 ["draws", "rows"] [] := D22.bindsN (fun _ _ _ _ _ _ us hl => by
    match us, hl with
    | [_, _], _ => rfl)
  obtain ⟨d23, D23⟩ : ∃ fd, FunD K "_law_made" "_law_made" (defArgs s_law_made) (defBody s_law_made) (defScope s_law_made) [] [] (He.fAd K ("_law_made", none)) fd := d.def_ 23
  have B23 : Binds K d23 ["rows"] [] := D23.bindsN (fun _ _ _ _ _ _ us hl => by
    match us, hl with
    | [_], _ => rfl)
  obtain ⟨d24, D24⟩ : ∃ fd, FunD K "_law_world" "_law_world" (defArgs s_law_world) (defBody s_law_world) (defScope s_law_world) [] [] (He.fAd K ("_law_world", none)) fd := d.def_ 24
  have B24 : Binds K d24 ["draws", "most"] [] := D24.bindsN (fun _ _ _ _ _ _ us hl => by
    match us, hl with
    | [_, _], _ => rfl)
  obtain ⟨d25, D25⟩ : ∃ fd, FunD K "_law_done" "_law_done" (defArgs s_law_done) (defBody s_law_done) (defScope s_law_done) [] [] (He.fAd K ("_law_done", none)) fd := d.def_ 25
  have B25 : Binds K d25 ["rows"] [] := D25.bindsN (fun _ _ _ _ _ _ us hl => by
    match us, hl with
    | [_], _ => rfl)
  obtain ⟨d26, D26⟩ : ∃ fd, FunD K "_law_moved" "_law_moved" (defArgs s_law_moved) (defBody s_law_moved) (defScope s_law_moved) [] [] (He.fAd K ("_law_moved", none)) fd := d.def_ 26
  have B26 : Binds K d26 ["rows", "scale", "shift"] [] := D26.bindsN (fun _ _ _ _ _ _ us hl => by
    match us, hl with
    | [_, _, _], _ => rfl)
  obtain ⟨d27, D27⟩ : ∃ fd, FunD K "law" "law" (defArgs s_law) (defBody s_law) (defScope s_law) [] [] (He.fAd K ("law", none)) fd := d.def_ 27
  have B27 : Binds K d27 ["script"] [] := D27.bindsN (fun _ _ _ _ _ _ us hl => by
    match us, hl with
    | [_], _ => rfl)
  obtain ⟨t_MOST_DONE, g_MOST_DONE⟩ := He.int_ok X G (d.fact 62 (f := .int "MOST_DONE" 8))
  have m0 := c.more
  obtain ⟨M0, m1⟩ := Bool.and_eq_true_iff.mp m0
  obtain ⟨M1, m2⟩ := Bool.and_eq_true_iff.mp m1
  obtain ⟨M2, m3⟩ := Bool.and_eq_true_iff.mp m2
  obtain ⟨M3, m4⟩ := Bool.and_eq_true_iff.mp m3
  obtain ⟨A, eA⟩ : ∃ A : Adr, A = { a__written := He.fAd K ("_written", none), d__written := d0, a_agrees := He.fAd K ("agrees", none), d_agrees := d1, a_is_order := He.fAd K ("is_order", none), d_is_order := d2, a__done := He.fAd K ("_done", none), d__done := d3, a_Account___init__ := He.fAd K ("Account", some "__init__"), d_Account___init__ := d4, a_Account_agrees_in_order := He.fAd K ("Account", some "agrees_in_order"), d_Account_agrees_in_order := d5, a_Account_keeps_time := He.fAd K ("Account", some "keeps_time"), d_Account_keeps_time := d6, a_Account_all_have_pasts := He.fAd K ("Account", some "all_have_pasts"), d_Account_all_have_pasts := d7, a_Account_pasts_of := He.fAd K ("Account", some "pasts_of"), d_Account_pasts_of := d8, a_Account__most := He.fAd K ("Account", some "_most"), d_Account__most := d9, a_find_order := He.fAd K ("find_order", none), d_find_order := d10, a_Finder___init__ := He.fAd K ("Finder", some "__init__"), d_Finder___init__ := d11, a_Finder_least := He.fAd K ("Finder", some "least"), d_Finder_least := d12, a_Finder__is_past := He.fAd K ("Finder", some "_is_past"), d_Finder__is_past := d13, a_Finder__may_follow := He.fAd K ("Finder", some "_may_follow"), d_Finder__may_follow := d14, a_Record___init__ := He.fAd K ("Record", some "__init__"), d_Record___init__ := d15, a_TooLarge___init__ := He.fAd K ("TooLarge", some "__init__"), d_TooLarge___init__ := d16, a__law_draws := He.fAd K ("_law_draws", none), d__law_draws := d17, a__law_take := He.fAd K ("_law_take", none), d__law_take := d18, a__law_same := He.fAd K ("_law_same", none), d__law_same := d19, a__law_records := He.fAd K ("_law_records", none), d__law_records := d20, a__law_bent := He.fAd K ("_law_bent", none), d__law_bent := d21, a__law_mixed := He.fAd K ("_law_mixed", none), d__law_mixed := d22, a__law_made := He.fAd K ("_law_made", none), d__law_made := d23, a__law_world := He.fAd K ("_law_world", none), d__law_world := d24, a__law_done := He.fAd K ("_law_done", none), d__law_done := d25, a__law_moved := He.fAd K ("_law_moved", none), d__law_moved := d26, a_law := He.fAd K ("law", none), d_law := d27, t_MOST_DONE := t_MOST_DONE, a_TooLarge := He.ga K "TooLarge", a_Record := He.ga K "Record", a_Account := He.ga K "Account", a_Finder := He.ga K "Finder" } := ⟨_, rfl⟩
  have T : Txt K mg A := by
    subst eA
    exact { b__written := (B0), F__written := (fun_of D0), g__written := (He.glo_ok X G (d.fact 0 (f := .glo "_written"))), b_agrees := (B1), F_agrees := (fun_of D1), g_agrees := (He.glo_ok X G (d.fact 1 (f := .glo "agrees"))), b_is_order := (B2), F_is_order := (fun_of D2), g_is_order := (He.glo_ok X G (d.fact 2 (f := .glo "is_order"))), b__done := (B3), F__done := (fun_of D3), g__done := (He.glo_ok X G (d.fact 3 (f := .glo "_done"))), b_Account___init__ := (B4), F_Account___init__ := (fun_of D4), b_Account_agrees_in_order := (B5), F_Account_agrees_in_order := (fun_of D5), b_Account_keeps_time := (B6), F_Account_keeps_time := (fun_of D6), b_Account_all_have_pasts := (B7), F_Account_all_have_pasts := (fun_of D7), b_Account_pasts_of := (B8), F_Account_pasts_of := (fun_of D8), b_Account__most := (B9), F_Account__most := (fun_of D9), b_find_order := (B10), F_find_order := (fun_of D10), g_find_order := (He.glo_ok X G (d.fact 10 (f := .glo "find_order"))), b_Finder___init__ := (B11), F_Finder___init__ := (fun_of D11), b_Finder_least := (B12), F_Finder_least := (fun_of D12), b_Finder__is_past := (B13), F_Finder__is_past := (fun_of D13), b_Finder__may_follow := (B14), F_Finder__may_follow := (fun_of D14), b_Record___init__ := (B15), F_Record___init__ := (fun_of D15), b_TooLarge___init__ := (B16), F_TooLarge___init__ := (fun_of D16), b__law_draws := (B17), F__law_draws := (fun_of D17), g__law_draws := (He.glo_ok X G (d.fact 16 (f := .glo "_law_draws"))), b__law_take := (B18), F__law_take := (fun_of D18), g__law_take := (He.glo_ok X G (d.fact 17 (f := .glo "_law_take"))), b__law_same := (B19), F__law_same := (fun_of D19), g__law_same := (He.glo_ok X G (d.fact 18 (f := .glo "_law_same"))), b__law_records := (B20), F__law_records := (fun_of D20), g__law_records := (He.glo_ok X G (d.fact 19 (f := .glo "_law_records"))), b__law_bent := (B21), F__law_bent := (fun_of D21), g__law_bent := (He.glo_ok X G (d.fact 20 (f := .glo "_law_bent"))), b__law_mixed := (B22), F__law_mixed := (fun_of D22), g__law_mixed := (He.glo_ok X G (d.fact 21 (f := .glo "_law_mixed"))), b__law_made := (B23), F__law_made := (fun_of D23), g__law_made := (He.glo_ok X G (d.fact 22 (f := .glo "_law_made"))), b__law_world := (B24), F__law_world := (fun_of D24), g__law_world := (He.glo_ok X G (d.fact 23 (f := .glo "_law_world"))), b__law_done := (B25), F__law_done := (fun_of D25), g__law_done := (He.glo_ok X G (d.fact 24 (f := .glo "_law_done"))), b__law_moved := (B26), F__law_moved := (fun_of D26), g__law_moved := (He.glo_ok X G (d.fact 25 (f := .glo "_law_moved"))), b_law := (B27), F_law := (fun_of D27), g_law := (He.glo_ok X G (d.fact 26 (f := .glo "law"))), n_len := (He.free_ok X G (d.fact 46 (f := .free "len"))), n_abs := (He.free_ok X G (d.fact 47 (f := .free "abs"))), n_int := (He.free_ok X G (d.fact 48 (f := .free "int"))), n_list := (He.free_ok X G (d.fact 49 (f := .free "list"))), n_reversed := (He.free_ok X G (d.fact 50 (f := .free "reversed"))), n_range := (He.free_ok X G (d.fact 51 (f := .free "range"))), n_isinstance := (He.free_ok X G (d.fact 52 (f := .free "isinstance"))), n_tuple := (He.free_ok X G (d.fact 53 (f := .free "tuple"))), n_str := (He.free_ok X G (d.fact 54 (f := .free "str"))), n_bool := (He.free_ok X G (d.fact 55 (f := .free "bool"))), n_dict := (He.free_ok X G (d.fact 56 (f := .free "dict"))), n_max := (He.free_ok X G (d.fact 57 (f := .free "max"))), n_all := (He.free_ok X G (d.fact 58 (f := .free "all"))), n_enumerate := (He.free_ok X G (d.fact 59 (f := .free "enumerate"))), n_sorted := (He.free_ok X G (d.fact 60 (f := .free "sorted"))), n_any := (He.free_ok X G (d.fact 61 (f := .free "any"))), g_MOST_DONE := (g_MOST_DONE), TooLarge_o := (oexB_ok M0), TooLarge_x := (xfB_ok M1), TooLarge_i := (of_decide_eq_true (Bool.and_eq_true_iff.mp M2).1), TooLarge_t := (of_decide_eq_true (Bool.and_eq_true_iff.mp M2).2), no_TooLarge_limit := (of_decide_eq_true M3), g_TooLarge := (He.glo_ok X G (d.fact 63 (f := .glo "TooLarge"))), g_Record := (He.glo_ok X G (d.fact 27 (f := .glo "Record"))), cl_Record := (He.cls_ok (d.fact 28 (f := .cls "Record"))), no_Record_thread := (He.noat_ok (d.fact 29 (f := .noat "Record" "thread"))), no_Record_begun := (He.noat_ok (d.fact 30 (f := .noat "Record" "begun"))), no_Record_ended := (He.noat_ok (d.fact 31 (f := .noat "Record" "ended"))), no_Record_kind := (He.noat_ok (d.fact 32 (f := .noat "Record" "kind"))), no_Record_reads := (He.noat_ok (d.fact 33 (f := .noat "Record" "reads"))), no_Record_writes := (He.noat_ok (d.fact 34 (f := .noat "Record" "writes"))), no_Record_stamp := (He.noat_ok (d.fact 35 (f := .noat "Record" "stamp"))), mk_Record := (He.mkr_ok (d.fact 15 (f := .mkr "Record"))), g_Account := (He.glo_ok X G (d.fact 36 (f := .glo "Account"))), cl_Account := (He.cls_ok (d.fact 37 (f := .cls "Account"))), no_Account__records := (He.noat_ok (d.fact 38 (f := .noat "Account" "_records"))), no_Account__in_order := (He.noat_ok (d.fact 39 (f := .noat "Account" "_in_order"))), no_Account__memories := (He.noat_ok (d.fact 40 (f := .noat "Account" "_memories"))), no_Account__needs := (He.noat_ok (d.fact 41 (f := .noat "Account" "_needs"))), mk_Account := (He.mkr_ok (d.fact 4 (f := .mkr "Account"))), m_Account_agrees_in_order := (He.meth_ok (d.fact 5 (f := .meth "Account" "agrees_in_order"))), m_Account_keeps_time := (He.meth_ok (d.fact 6 (f := .meth "Account" "keeps_time"))), m_Account_all_have_pasts := (He.meth_ok (d.fact 7 (f := .meth "Account" "all_have_pasts"))), m_Account_pasts_of := (He.meth_ok (d.fact 8 (f := .meth "Account" "pasts_of"))), m_Account__most := (He.meth_ok (d.fact 9 (f := .meth "Account" "_most"))), g_Finder := (He.glo_ok X G (d.fact 42 (f := .glo "Finder"))), cl_Finder := (He.cls_ok (d.fact 43 (f := .cls "Finder"))), no_Finder__records := (He.noat_ok (d.fact 44 (f := .noat "Finder" "_records"))), no_Finder__hopeless := (He.noat_ok (d.fact 45 (f := .noat "Finder" "_hopeless"))), mk_Finder := (He.mkr_ok (d.fact 11 (f := .mkr "Finder"))), m_Finder_least := (He.meth_ok (d.fact 12 (f := .meth "Finder" "least"))), m_Finder__is_past := (He.meth_ok (d.fact 13 (f := .meth "Finder" "_is_past"))), m_Finder__may_follow := (He.meth_ok (d.fact 14 (f := .meth "Finder" "_may_follow"))), e_TooLarge_TooLarge := (He.exm_ok (d.fact 64 (f := .exm "TooLarge" "TooLarge" true))) }
  have ea : fa' = A.a_law := by
    have h1 := T.g_law
    rw [hfa] at h1
    cases h1
    rfl
  have el : A.d_law = d27 := by rw [eA]
  subst ea
  refine ⟨d27, tf.map (He.cT K), spLaw K A, fun p hp => ?_, fun p hp => ?_, fun p hp => ?_, fun s u => D27.bindsA (ps := ["script"]) (fun _ _ _ _ _ _ us hl => by
    match us, hl with
    | [_], _ => rfl) s [u] rfl, fun H a ns hl _ ht hS => ?_, fun base KB GB TB => ?_⟩
  · obtain ⟨q, hq, rfl⟩ := List.mem_map.mp hp
    exact c.empty q hq
  · obtain ⟨q, hq, rfl⟩ := List.mem_map.mp hp
    exact c.out q hq
  · obtain ⟨q, hq, rfl⟩ := List.mem_map.mp hp
    exact PySem.W.codeHd_of_K X (c.hd q hq)
  · exact law_at hl (by first | exact ht | (rw [eA]; exact ht)) hS
  · rw [← el]
    exact law_ok (by first | exact TB | (rw [eA]; exact TB)) T
end O43
open PySem PySem.W PySem.Calls PyProof.Rows in
set_option maxRecDepth 100000 in
set_option maxHeartbeats 0 in
theorem PySem.Challenge.cw_handshaker_k43_orders_of_fewer_records_holds : PySem.Challenge.rw_handshaker_k43_orders_of_fewer_records.Holds := by
  w_on; o_law
  refine HandSHeadRun.head_any (r := OpenLaw.row PySem.Challenge.rw_handshaker_k43_orders_of_fewer_records) (q := view (OpenLaw.row PySem.Challenge.rw_handshaker_k43_orders_of_fewer_records).prog [25]) (H := O43.hk) (ob := O43.ob) (M := 3000) (loose := O43.loose) (d := HandSHeadRun.topDef (OpenLaw.row PySem.Challenge.rw_handshaker_k43_orders_of_fewer_records).prog 25) (kwd := []) O43.ob_eq
    (by kernel_rfl) (fun s => by kernel_rfl) O43.run (by kernel_rfl) (by kernel_rfl) (by kernel_rfl) (by rfl) (by first | assumption | decide +kernel) (by decide +kernel) ⟨rfl, rfl, rfl, rfl, rfl, by decide +kernel⟩ ?hw ?hc
  case hw => w_witness2
  case hc =>
    refine LamX.walk_ofTsE (l := PySem.Challenge.rw_handshaker_k43_orders_of_fewer_records) (n := 63) (k := 15) (x := "script") (CX := fun _ => L2.CX0) rfl (by decide) (by kernel_rfl) ⟨rfl, by decide, by decide⟩ ?F (fun _ _ _ _ _ z => z)
    intro w mg fa h Y G hmg0
    obtain ⟨K, KX, c⟩ := Y
    have hmg : mg ("law" : PySem.Str) = some (.ref fa) := by
      have e : (HandSHeadRun.topDef (OpenLaw.row PySem.Challenge.rw_handshaker_k43_orders_of_fewer_records).prog 25).name = ("law" : PySem.Str) := by kernel_rfl
      rw [← e]
      exact hmg0
    exact ⟨K, KX, O43.facts G hmg KX c⟩

