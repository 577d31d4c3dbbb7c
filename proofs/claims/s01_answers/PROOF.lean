import PyProof.Rows.All
import Wide.All
import OpenK.AllK
import Wide.FinOn
import HandS.Base
import HandS.Call
import HandS.List
import HandS.Comp
import HandS.Ends
import HandS.Dict
import HandS.Iter
import HandS.Words
import HandS.WordsList
import HandS.WordsDict
import HandS.Evl
import HandS.Wide
import HandS.Strs
import HandS.SetFor
import HandS.Set
import HandS.WideBits
import HandS.Text
import HandS.ListItems
import HandS.SetKeys
import KE.KDictCopyH
import PyProof.DictMoreH
import HandS.Lambda
import HandS.EndTab
import HandS.SortKw
import KE.SortKeyHeap
import KE.SortUse
import Open.SpecLaws
import KE.OsHead
import HandS.Spec
import HandS.Head4
import HandS.HeadHook4
import Lean
import KE.KStateDown
import PySem.Challenge.RW_eventshelf_s01_answers
set_option Elab.async false
set_option linter.all false
set_option maxRecDepth 100000
section
set_option maxHeartbeats 4000000
/-! Rules of this proof's own, the defs by name, the layout of a store. -/
namespace Shelf
open PySem PySem.Spec PyProof.Rows L2 Evl
/-! ### rules -/
section
variable {X : Cx}
/-- a whole-number constant of the module -/
theorem gI {x : Str} {n : Int} {pos : Pos} (h : ∃ t, X.mg x = some (.int n t)) (hg : Gl X x := by rfl) (hd : (x == ("__debug__" : Str)) = false := by decide) : PE X (.Name x pos) (tC (.int n)) := by
  obtain ⟨t, e⟩ := h
  exact pe_glob hg e ⟨t, rfl⟩ hd
/-- xs[j] of a list that is tracked, j within it -/
def rGetN : V → V → Hp → VK → Prop := fun o i H Q => ∃ (p : Addr) (xs : List V) (j : Nat) (v : V), o = .ref p ∧ i = .int (j : Int) ∧ H p = some (.lst xs) ∧ xs[j]? = some v ∧ Q v H
theorem get_list : PGet X rGetN := by
  intro pins s σ H o i ov iv Q I ro ri h
  obtain ⟨p, xs, j, v, rfl, rfl, hq, he, q⟩ := h
  cases ro
  obtain ⟨t, rfl⟩ := ri
  obtain ⟨its, r, pl, hz⟩ := I.list (SqL.of hq)
  obtain ⟨w, ew, rw'⟩ := r.get he
  have hn := line63
  have hj : j < xs.length := (List.getElem?_eq_some_iff.mp he).1
  exact wpAny_getItem_list pl.isList (Int.natCast_nonneg j) (by omega) (by simpa using ew) ⟨v, H, I, rw', q⟩
/-- rules whose readings bear the written part by its letter -/
theorem fK {K : PySem.W.Frag} {e : Expr} {f : Str} {te : TE} {pos : Pos} (he : PE X e te) (hb : attributeBase e f X.env (eval e X.env) = eval e X.env := by rfl) (hK : X.K = K := by rfl) : PE X (.Attribute e f pos) (tFld K te f) := by
  subst hK
  exact pe_fld he hb
theorem ixK {K : PySem.W.Frag} {a b : Expr} {ta tb : TE} {pos : Pos} (ha : PE X a ta) (hb : PE X b tb) (hs : PlainIx b := by exact fun _ _ => rfl) (hK : X.K = K := by rfl) : PE X (.Subscript a b pos) (tOp (rIxL K) ta tb) := by
  subst hK
  exact pe_ix ix_list ha hb hs
theorem inK {K : PySem.W.Frag} {a b : Expr} {ta tb : TE} {pos : Pos} (ha : PE X a ta) (hb : PE X b tb) (hm : behindInMarks .In b = false := by rfl) (hK : X.K = K := by rfl) : PT X (.Compare a [.In] [b] pos) (tTest (tOp (rIn K false) ta tb)) := by
  subst hK
  exact pt_cmpR op_in_seq ha hb hm
theorem ninK {K : PySem.W.Frag} {a b : Expr} {ta tb : TE} {pos : Pos} (ha : PE X a ta) (hb : PE X b tb) (hm : behindInMarks .NotIn b = false := by rfl) (hK : X.K = K := by rfl) : PT X (.Compare a [.NotIn] [b] pos) (tTest (tOp (rIn K true) ta tb)) := by
  subst hK
  exact pt_cmpR op_notIn_seq ha hb hm
theorem inVK {K : PySem.W.Frag} {a b : Expr} {ta tb : TE} {pos : Pos} (ha : PE X a ta) (hb : PE X b tb) (hm : behindInMarks .In b = false := by rfl) (hK : X.K = K := by rfl) : PE X (.Compare a [.In] [b] pos) (tOp (rIn K false) ta tb) := by
  subst hK
  exact pe_cmpR op_in_seq ha hb hm
theorem piK {K : PySem.W.Frag} {tg e : Expr} {te : TE} (he : PE X e te) (hK : X.K = K := by rfl) : PI X tg e (iList K te) := by
  subst hK
  exact pi_list he
/-- a def that the module's name x holds, and the promise that it keeps with k calls one in another -/
structure DefAt (P : Program) (w : World) (K : PySem.W.Frag) (mg : Str → Option Value) (base : Heap) (k : Nat) (x : Str) (ps : List Str) (sp : Sp) : Prop where
  ex : ∃ (f : Addr) (fd : FuncData), FnOk P w K mg base CX0 k f fd ps sp ∧ mg x = some (.ref f) ∧ PySem.W.keepIn K (.ref f) = true ∧ Binds K fd ps []
theorem pcD {k : Nat} {x : Str} {ps : List Str} {sp : Sp} {e : Expr} {es : List Expr} {t : TA} {p pos : Pos} (D : DefAt X.prog X.w X.K X.mg X.base k x ps sp) (hr : Room k X.A) (ha : PA X (e :: es) t) (hg : Gl X x := by rfl) (hdb : (x == ("__debug__" : Str)) = false := by decide)
    (he : starEach (e :: es) X.env = (false, eval e X.env) :: starEach es X.env := by rfl) (hpl : (backTo pos (starEach es X.env)).any (·.1) = false := by rfl) : PE X (.Call (.Name x p) (e :: es) [] pos) (tCall sp [] E0 t) := by
  obtain ⟨f, fd, F, hm, hk, hb⟩ := D.ex
  exact pe_call F hr hg hm hk hb .nil pass0 ha hdb he hpl
theorem pcD0 {k : Nat} {x : Str} {ps : List Str} {sp : Sp} {p pos : Pos} (D : DefAt X.prog X.w X.K X.mg X.base k x ps sp) (hr : Room k X.A) (hg : Gl X x := by rfl) (hdb : (x == ("__debug__" : Str)) = false := by decide) : PE X (.Call (.Name x p) [] [] pos) (tCall sp [] E0 tNil) := by
  obtain ⟨f, fd, F, hm, hk, hb⟩ := D.ex
  exact pe_call0 F hr hg hm hk hb .nil pass0 hdb
end
/-- the def of the text at a name of the module -/
structure Def0 (K : PySem.W.Frag) (mg : Str → Option Value) (x : Str) (st : Stmt) (ps : List Str) : Prop where
  ex : ∃ (f : Addr) (fd : FuncData), Fun K x x st f fd ∧ mg x = some (.ref f) ∧ Binds K fd ps []
section
variable {P : Program} {w : World} {K : PySem.W.Frag} {mg : Str → Option Value} {base : Heap}
theorem DefAt.of {x : Str} {st : Stmt} {N ps : List Str} {k : Nat} {sp : Sp} (D0 : Def0 K mg x st ps) (S : FnScope N ps (defScope st)) (len : ∀ vs H Q E, sp vs H Q E → vs.length = ps.length)
    (hbody : ∀ (f : Addr) (cdv : Value) (A : Around) (outer : List Env) (s : Shared) (H : Hp) (vs : List V) (Q : VK) (E : XK), Room k (A.deeper (envOfC x (defScope st) s.heap.objs.size f cdv)) → sp vs H Q E →
      ∃ t, PSs (cxOf CX0 P w K mg base N x (defScope st) f cdv A outer s H E).nox (defBody st) t ∧ t { nx := fun _ H' => Q .non H', rt := Q } (start N vs) H) : DefAt P w K mg base (k + 1) x ps sp := by
  obtain ⟨f, fd, F, hm, hb⟩ := D0.ex
  exact ⟨f, fd, F.ok S len (fun cdv A outer s H vs Q E hr h => hbody f cdv A outer s H vs Q E hr h), hm, F.kp, hb⟩
end
/-- a promise: a value | a new list, nothing else is changed -/
def rdV (Pre : List V → Hp → V → Prop) : Sp := fun vs H Q _ => ∃ z, Pre vs H z ∧ ∀ H', Ex H H' → Q z H'
def rdL (Pre : List V → Hp → List V → Prop) : Sp := fun vs H Q _ => ∃ xs, Pre vs H xs ∧ ∀ p H', H p = none → Ex H H' → H' p = some (.lst xs) → Q (.ref p) H'
theorem rdV_sp {Pre : List V → Hp → V → Prop} {vs : List V} {H : Hp} {z : V} (h : ∀ H1, Ex H H1 → Pre vs H1 z) : SpV (rdV Pre) vs H z := fun H1 e Q q E => ⟨z, h H1 e, fun H2 e2 => q H2 e2⟩
theorem rdL_sp {Pre : List V → Hp → List V → Prop} {vs : List V} {H : Hp} {xs : List V} (h : ∀ H1, Ex H H1 → Pre vs H1 xs) : SpL (rdL Pre) vs H xs := fun H1 e Q q E => ⟨xs, h H1 e, fun p H2 hp e2 h2 => q p H2 hp e2 h2⟩

/-! ### the layout -/
abbrev nV (n : Nat) : V := .int (n : Int)
abbrev keyN (n : Nat) : Key := Sum.inl (n : Int)
/-- an event at x -/
def evF (e : Kp427.Event) : List (Str × V) := [("time", nV e.time), ("member", nV e.member), ("item", nV e.item), ("kind", nV e.kind), ("value", nV e.value)]
def EvAt (CE : Addr) (H : Hp) (x : Addr) (e : Kp427.Event) : Prop := ∃ dx, H x = some (.ins CE dx (evF e))
/-- a list of events: their addresses and what they are -/
abbrev EvL' := List (Addr × Kp427.Event)
def Evs (CE : Addr) (H : Hp) (es : EvL') : Prop := ∀ e ∈ es, EvAt CE H e.1 e.2
abbrev evV (es : EvL') : List V := es.map fun e => V.ref e.1
end Shelf
end

section
set_option maxHeartbeats 6400000
/-! set(a list of ints) with a table that can be walked; sorted(set(..)); len(set & set). -/
namespace Shelf
open PySem PySem.Spec PyProof.Rows L2
/-- the object of a new set -/
abbrev nuSet (w : World) : Obj := { cls := .type "set", dict := none, data := .set #[] 0 (.fresh 0 0 (!w.params.followText "set-order")) }
section
variable {P : Program} {w : World} {A : Around} {E : Value → Shared → Prop} {s : Shared}
theorem int_at_of {its : Array Value} {ns : List Int} (hi : IntsAre its.toList ns) (i : Nat) (v : Value) (hv : its[i]? = some v) : ∃ k t, ns[i]? = some k ∧ v = .int k t := by
  have hv' : its.toList[i]? = some v := by rw [Array.getElem?_toList]; exact hv
  have hn : i < ns.length := by
    have q := (List.getElem?_eq_some_iff.mp hv').1
    rw [IntsAre.length hi] at q
    exact q
  obtain ⟨t, e⟩ := PyProof.Rows.IntsAre.int_at hi i v hv'
  refine ⟨ns[i], t, List.getElem?_eq_getElem hn, ?_⟩
  rw [e, List.getD_eq_getElem?_getD, List.getElem?_eq_getElem hn] <;> rfl
theorem set_of_list {l : Addr} {its : Array Value} (ns : List Int) {Q : Value → Shared → Prop} (hA : A.handled = none) (hl : s.heap.IsList l its) (hi : IntsAre its.toList ns) (hb : ns.length + 1 < scanBound)
    (hQ : ∀ (h' : Heap) (tk n : Nat), SetR w h' s.heap.objs.size (fun j => decide (j ∈ ns)) n → n ≤ ns.length → (∀ b o, s.heap.get? b = some o → h'.get? b = some o) → Q (.ref s.heap.objs.size) { s with heap := h', toks := tk }) :
    wpAny (model P w) A (call (.type "set") [.ref l]) Q E s := by
  have size_eq : its.size = ns.length := (Array.length_toList.symm.trans (IntsAre.length hi))
  obtain ⟨c0, t0, mro⟩ := F.called_set.mro
  have made := F.called_set.made
  have sub := F.called_set.sub
  have notTy := F.called_set.notType
  have canMake := F.called_set.canCreate
  have tyCall := F.typeCall_set_1 (.ref l)
  refine wpAny_call (codeAny_of_tree ?_)
  show wpAny _ _ (callAny (.type "set") _) _ _ _
  refine wpAny_pure ⟨Code.quiet_builtin _ (by decide +kernel), codeAny_builtin F.entry_type_call ?_⟩
  rw [Around.under_plain (weight_type_call_type "set" [.ref l] []) rfl]
  repeat (any_goals (first | assumption | wp_step))
  -- the new set
  refine codeAny_mono (code_set_led1 (.ref l) (E := E) (Q₁ := fun u s1 => u = .ref s.heap.objs.size ∧ s1 = { s with heap := s.heap.push (nuSet w) }) ⟨rfl, rfl⟩) fun r1 s1 q1 => ?_
  rcases r1 with e | (_ | _ | _ | u)
  · exact q1
  · exact q1.elim
  · exact q1.elim
  · exact q1.elim
  obtain ⟨rfl, rfl⟩ := q1
  have atS : (s.heap.push (nuSet w)).get? s.heap.objs.size = some (nuSet w) := Heap.get?_push_size _ rfl
  have tyS : Shared.TypeIs { s with heap := s.heap.push (nuSet w) } (.ref s.heap.objs.size) "set" := ⟨_, atS, rfl⟩
  have initLook := F.called_set.init.lookup
  have initBind := F.called_set.init.bind (.ref s.heap.objs.size)
  repeat (any_goals (first | assumption | wp_step))
  -- its __init__
  refine codeAny_mono (codeAny_call_builtin (R := wants (fun r s2 => r = .none ∧ ∃ h' tk n, s2 = { s with heap := h', toks := tk } ∧ SetR w h' s.heap.objs.size (fun j => decide (j ∈ ns)) n ∧ n ≤ ns.length ∧ (∀ b o, s.heap.get? b = some o → h'.get? b = some o)) E)
    F.called_set.init.plain F.entry_set_init (check_set_init_1 tyS ?_)) fun r2 s2 q2 => ?_
  · obtain ⟨ob, hob, hcls, ep, hdat⟩ := hl
    obtain ⟨ocls, odict, odata, oslots⟩ := ob
    simp only at hcls hdat
    subst hcls
    subst hdat
    have hob1 : (s.heap.push (nuSet w)).get? l = some { cls := .type "list", dict := odict, data := .seq its ep, slots := oslots } := Heap.get?_push_of_some _ hob
    have il : (s.heap.push (nuSet w)).IsList l its := ⟨_, hob1, rfl, ep, rfl⟩
    have no1 := F.sub_list_set
    have no2 := F.sub_list_frozenset
    have no3 : (Value.type "list" == Value.type "dict") = false := by decide
    unfold Builtin.«set.__init__» noKeywords Builtin.Frozenset.updateFrom
    generalize gen : pyIter = it
    wp_walk
    subst gen
    refine wpAny_pyIter_list il ?_
    refine wpAny_bind (wpAny_runValue ?_)
    have below : l < s.heap.objs.size := Heap.lt_size hob
    have hA3 : A.in1.in1.in1.handled = none := by simp [hA]
    have neI : l ≠ (s.heap.push (nuSet w)).objs.size := by
      rw [Heap.size_push]
      exact Nat.ne_of_lt (Nat.lt_succ_of_lt below)
    have notIn : s.heap.objs.size ∉ [(s.heap.push (nuSet w)).objs.size, l] := by
      rw [Heap.size_push]
      simp only [List.mem_cons, List.mem_singleton, List.not_mem_nil, or_false, not_or]
      exact ⟨Nat.ne_of_lt (Nat.lt_succ_self _), Nat.ne_of_gt below⟩
    refine set_update_ints ((Walks.list hA3 _ l neI its).toS) s.heap.objs.size notIn ns size_eq hb (int_at_of hi) (its.size - 0) 0 _ (by omega) (Nat.zero_le _) ⟨⟨_, Heap.get?_push_size _ rfl, rfl, rfl⟩, il.push _⟩ ?first ?last
    case first => exact ⟨0, Nat.le_refl 0, setR_new_at (Heap.get?_push_of_some _ atS)⟩
    case last =>
      rintro ⟨h', g2, d2, tk, os2⟩ n moved hn R
      obtain rfl : g2 = s.gens := moved.gens
      obtain rfl : d2 = s.drawn := moved.drawn
      obtain rfl : os2 = s.os := moved.os
      show wpAny _ _ _ _ _ _
      refine wpAny_pure ?_
      show wpAny _ _ (ret Value.none) _ _ _
      rw [size_eq] at hn
      refine wpAny_pure ⟨rfl, h', tk, n, rfl, R, hn, fun b o e => ?_⟩
      have lt : b < s.heap.objs.size := Heap.lt_size e
      refine moved.heap b o ?_ (Heap.get?_push_of_some _ (Heap.get?_push_of_some _ e))
      rw [Heap.size_push]
      simp only [List.mem_cons, List.mem_singleton, List.not_mem_nil, or_false, not_or]
      exact ⟨Nat.ne_of_lt lt, Nat.ne_of_lt (Nat.lt_succ_of_lt lt)⟩
  · rcases r2 with e | (_ | _ | _ | u)
    · exact q2
    · exact q2.elim
    · exact q2.elim
    · exact q2.elim
    obtain ⟨rfl, h', tk, n, rfl, R, hn, k⟩ := q2
    repeat (any_goals (first | assumption | wp_step))
    exact hQ _ _ _ R hn k
end
/-- set(xs) of a list of ints -/
def rSetOf (K : PySem.W.Frag) (w : World) : List V → Hp → VK → Prop := fun vs H Q => ∃ (a : Addr) (ns : List Int), vs = [.ref a] ∧ SqL K H a (ns.map V.int) ∧ ns.length ≤ 1000 ∧
  ∀ (p : Addr) (n : Nat), (∃ D : List Int, D.Nodup ∧ D.length = n ∧ ∀ k, k ∈ D ↔ k ∈ ns) → H p = none → Q (.ref p) (upd H p (SetO w p (fun j => decide (j ∈ ns)) n))
/-- the members of a set, each once -/
theorem set_keys {w : World} {h : Heap} {a : Addr} {ns : List Int} {n : Nat} (R : SetR w h a (fun j => decide (j ∈ ns)) n) : ∃ D : List Int, D.Nodup ∧ D.length = n ∧ ∀ k, k ∈ D ↔ k ∈ ns := by
  obtain ⟨o, es, ep, t, _, _, _, _, nd, mem, _, _, hn, _⟩ := R
  refine ⟨es.toList.map keyOf, nd, by rw [List.length_map, Array.length_toList]; exact hn, fun k => ?_⟩
  rw [← mem k, decide_eq_true_eq]
theorem nodup_le {α : Type} : ∀ (l D : List α), l.Nodup → (∀ x ∈ l, x ∈ D) → l.length ≤ D.length
  | [], _, _, _ => Nat.zero_le _
  | x :: r, D, nd, sub => by
    have hx : x ∈ D := sub x List.mem_cons_self
    obtain ⟨D1, D2, rfl⟩ := List.append_of_mem hx
    have nd' := List.nodup_cons.mp nd
    have ih := nodup_le r (D1 ++ D2) nd'.2 fun y hy => by
      have hne : y ≠ x := fun e => nd'.1 (e ▸ hy)
      have := sub y (List.mem_cons_of_mem _ hy)
      simp only [List.mem_append, List.mem_cons] at this ⊢
      rcases this with z | z | z
      · exact Or.inl z
      · exact absurd z hne
      · exact Or.inr z
    simp only [List.length_cons, List.length_append] at ih ⊢
    omega
/-- rising lists of the same members are one -/
theorem rising_eq : ∀ (l D : List Int), l.Pairwise (· < ·) → D.Pairwise (· < ·) → (∀ k, k ∈ l ↔ k ∈ D) → l = D
  | [], [], _, _, _ => rfl
  | [], y :: D, _, _, h => by
    have := (h y).mpr List.mem_cons_self
    cases this
  | x :: l, [], _, _, h => by
    have := (h x).mp List.mem_cons_self
    cases this
  | x :: l, y :: D, hl, hD, h => by
    have hl' := List.pairwise_cons.mp hl
    have hD' := List.pairwise_cons.mp hD
    have e : x = y := by
      have h1 := (h x).mp List.mem_cons_self
      have h2 := (h y).mpr List.mem_cons_self
      rcases List.mem_cons.mp h1 with z | z
      · exact z
      · rcases List.mem_cons.mp h2 with z2 | z2
        · exact z2.symm
        · have a := hD'.1 x z
          have b := hl'.1 y z2
          omega
    subst e
    rw [rising_eq l D hl'.2 hD'.2 fun k => ?_]
    constructor
    · intro hk
      rcases List.mem_cons.mp ((h k).mp (List.mem_cons_of_mem _ hk)) with z | z
      · subst z
        exact absurd (hl'.1 k hk) (Int.lt_irrefl k)
      · exact z
    · intro hk
      rcases List.mem_cons.mp ((h k).mpr (List.mem_cons_of_mem _ hk)) with z | z
      · subst z
        exact absurd (hD'.1 k hk) (Int.lt_irrefl k)
      · exact z
section
variable {X : Cx}
theorem cr_setL (hc : X.calm = true) : CallR X (.type "set") (rSetOf X.K X.w) := by
  intro pins s σ H vs us Q I r h
  obtain ⟨a, ns, rfl, hq, hl, q⟩ := h
  cases r with
  | cons r rr =>
    cases rr
    cases r
    obtain ⟨its, rv, pl, hz⟩ := I.list hq
    have hi : IntsAre its.toArray.toList ns := ints_of_vals rv
    refine set_of_list (P := X.prog) ns (I.ok.hd hc) pl.isList hi (by unfold scanBound; omega) fun h' tk n R hn k => ?_
    have fresh : H s.heap.objs.size = none := I.hok.fresh (Nat.le_refl _)
    exact ⟨.ref _, upd H s.heap.objs.size (SetO X.w s.heap.objs.size (fun j => decide (j ∈ ns)) n), I.laid (t' := tk) k (Nat.le_refl _) (setO_new R), rfl, q _ n (set_keys R) fresh⟩
end
end Shelf
end

section
set_option maxHeartbeats 1600000
/-! set & set, of ints. -/
namespace Shelf
open PySem PySem.Spec PyProof.Rows L2
theorem entry_set_and : entryFor table "set.__and__" = some Builtin.«frozenset.__and__» := entryFor_alias (id' := "frozenset.__and__") (by kernel_rfl) rfl (by decide +kernel) (by kernel_rfl)
/-- a set of ints in the heap -/
def SetS (w : World) (h : Heap) (a : Addr) (es : Array (Int × Value)) (ep : Nat) (t : SetTable) : Prop :=
  (∃ o, h.get? a = some o ∧ o.ExactSet ∧ o.data = .set es ep t) ∧ (∀ e ∈ es.toList, GoodE e) ∧ (es.toList.map keyOf).Nodup ∧ es.size < scanBound ∧ t.fits es.size = true ∧ Ris t.place.toList ∧ (w.params.followText "set-order" = true ∨ t.led = true)
section
variable {P : Program} {w : World} {A : Around} {E : Value → Shared → Prop} {s : Shared} {a b r : Addr} {S S' : Int → Bool} {n m : Nat} {es : Array (Int × Value)} {ep : Nat} {t : SetTable}
theorem SetS.of {h : Heap} (R : SetR w h a S n) : ∃ es ep t, SetS w h a es ep t ∧ es.size = n ∧ ∀ k, S k = true ↔ k ∈ es.toList.map keyOf := by
  obtain ⟨o, es, ep, t, ho, hx, hd, g, nd, hm, hb, hf, hn, hr, hl⟩ := R
  exact ⟨es, ep, t, ⟨⟨o, ho, hx, hd⟩, g, nd, hb, hf, hr, hl⟩, hn, hm⟩
theorem SetS.at {h h' : Heap} (R : SetS w h a es ep t) (k : ∀ o, h.get? a = some o → h'.get? a = some o) : SetS w h' a es ep t := by
  obtain ⟨⟨o, ho, x⟩, y⟩ := R
  exact ⟨⟨o, k o ho, x⟩, y⟩
theorem SetS.setR {h : Heap} (R : SetS w h a es ep t) : SetR w h a (fun k => decide (k ∈ es.toList.map keyOf)) es.size := by
  obtain ⟨⟨o, ho, hx, hd⟩, g, nd, hb, hf, hr, hl⟩ := R
  exact ⟨o, es, ep, t, ho, hx, hd, g, nd, fun k => decide_eq_true_iff, hb, hf, rfl, hr, hl⟩
/-- no member is an object -/
theorem quiet_one {Q : Option Bool × Unit → Shared → Prop} (g : ∀ e ∈ es.toList, GoodE e) (h : Q (none, ()) s) :
    wpAny (model P w) A (forIn es ((none, ()) : Option Bool × Unit) fun x __s => match x with
      | (fst, x) => match x with
        | Value.ref a => do
          let z ← specialOf x (Str.ofString "__eq__")
          if (z != some (Value.builtin "object.__eq__")) = true then pure (ForInStep.done (some false, ())) else pure (ForInStep.yield (none, ()))
        | x => pure (ForInStep.yield (none, ()))) Q E s := by
  refine MeetsSeq2.wpAny_forIn_array _ (fun rest b s' => b = (none, ()) ∧ s' = s ∧ ∀ e ∈ rest, GoodE e) _ ?_ ?_ _ _ ⟨rfl, rfl, g⟩
  · rintro ⟨h0, x⟩ rest b s' ⟨rfl, rfl, gg⟩
    obtain ⟨k, tk, h1, h2⟩ := gg _ List.mem_cons_self
    simp only at h1
    subst h1
    exact wpAny_pure ⟨rfl, rfl, fun e he => gg e (List.mem_cons_of_mem _ he)⟩
  · rintro b s' ⟨rfl, rfl, _⟩
    exact h
theorem quiet_at {l : List Addr} {Q : Bool → Shared → Prop} (hl : ∀ a ∈ l, ∃ es ep t, SetS w s.heap a es ep t) (h : Q true s) : wpAny (model P w) A (setsQuiet l) Q E s := by
  unfold setsQuiet
  refine wpAny_bind (wpAny_forIn_list _ (fun rest b s' => b = (none, ()) ∧ s' = s ∧ ∀ a ∈ rest, ∃ es ep t, SetS w s.heap a es ep t) _ ?_ ?_ _ _ ⟨rfl, rfl, hl⟩)
  · rintro x rest b s' ⟨rfl, rfl, gg⟩
    obtain ⟨es, ep, t, ⟨o, ho, hx, hd⟩, g, nd, hb, hf, hr, hl⟩ := gg x List.mem_cons_self
    refine wpAny_bind (wpAny_setEntries_of ho hd hf ?_)
    refine wpAny_bind (quiet_one g ?_)
    exact wpAny_pure ⟨rfl, rfl, fun a ha => gg a (List.mem_cons_of_mem _ ha)⟩
  · rintro b s' ⟨rfl, rfl, _⟩
    exact wpAny_pure h
/-- a walk whose order nothing draws -/
theorem walk_at {Q : Array (Int × Value) → Shared → Prop} (R : SetS w s.heap a es ep t) (hd : w.params.followText "set-order" = true ∨ (!t.plain && decide (es.size > 1)) = false) (h : ∀ xs, xs.toList.Perm es.toList → Q xs s) : wpAny (model P w) A (setWalk a) Q E s := by
  obtain ⟨⟨o, ho, hx, hdt⟩, g, nd, hb, hf, hr, hl⟩ := R
  unfold setWalk
  refine wpAny_bind (wpAny_setState_of ho hdt hf ?_)
  dsimp only
  refine wpAny_bind (wpAny_byText ?_)
  cases hbt : w.params.followText "set-order" with
  | true =>
    refine wp_if_pos rfl ?_
    exact wpAny_bind (wpAny_askSetting (wpAny_pure (h _ (pick_perm _ es))))
  | false =>
    refine wp_if_neg (by simp) ?_
    rw [hbt] at hd hl
    have hd' := hd.resolve_left (by simp)
    have hl' := hl.resolve_left (by simp)
    try refine wpAny_bind (wpAny_pure ?_)
    refine wp_if_neg (by show ¬ ((!t.plain && decide (es.size > 1)) = true); rw [hd']; exact Bool.false_ne_true) ?_
    try refine wpAny_bind (wpAny_pure ?_)
    refine wpAny_bind (wpAny_of_eq (a := ()) ?_ (wpAny_pure (h es (List.Perm.refl _))))
    show (if (!t.led && decide (es.size > 1)) = true then unsupported "set:maker-not-led" else pure ()) = pure ()
    rw [hl'] <;> rfl
/-- the members of the set at a, to fill the new set at r -/
theorem walk_unseen {g : Addr} {eg er : Array (Int × Value)} {epg epr : Nat} {tg tr : SetTable} {Q : Array (Int × Value) → Shared → Prop} (R : SetS w s.heap a es ep t) (G : SetS w s.heap g eg epg tg) (F : SetS w s.heap r er epr tr)
    (h : ∀ h' xs, Heap.SameBut r s.heap h' → (∃ ep' t', SetS w h' r er ep' t') → xs.toList.Perm es.toList → Q xs { s with heap := h' }) : wpAny (model P w) A (setWalkUnseen a [g, r] (some r)) Q E s := by
  have R0 := R
  have F0 := F
  obtain ⟨⟨o, ho, hx, hdt⟩, ge, nd, hb, hf, hr, hl⟩ := R
  obtain ⟨⟨or', hor, hxr, hdr⟩, gr, ndr, hbr, hfr, hrr, hlr⟩ := F
  have same : Q = Q := rfl
  unfold setWalkUnseen
  refine wpAny_bind (wpAny_setState_of ho hdt hf ?_)
  dsimp only
  refine wpAny_bind (wpAny_byText ?_)
  have asis : ∀ xs : Array (Int × Value), xs.toList.Perm es.toList → Q xs s := fun xs hp => h s.heap xs (Heap.SameBut.refl r s.heap) ⟨_, _, F0⟩ hp
  by_cases hc : (w.params.followText "set-order" || t.led && t.plain || decide (es.size ≤ 1)) = true
  · refine wp_if_pos hc ?_
    refine walk_at R0 ?_ asis
    rw [Bool.or_eq_true, Bool.or_eq_true, Bool.and_eq_true, decide_eq_true_iff] at hc
    rcases hc with (z | ⟨z1, z2⟩) | z
    · exact .inl z
    · exact .inr (by rw [z2]; rfl)
    · refine .inr ?_
      have : decide (es.size > 1) = false := decide_eq_false (by omega)
      rw [this, Bool.and_false]
  · refine wp_if_neg hc ?_
    refine wpAny_bind (quiet_at (fun x hx => ?_) ?_)
    · rcases List.mem_cons.mp hx with rfl | hx
      · exact ⟨_, _, _, R0⟩
      rcases List.mem_cons.mp hx with rfl | hx
      · exact ⟨_, _, _, G⟩
      · rw [List.mem_singleton.mp hx]
        exact ⟨_, _, _, F0⟩
    refine wp_if_neg (by simp) ?_
    refine wpAny_bind (wpAny_rule ?_)
    try dsimp only
    refine wpAny_bind (wpAny_setState_of hor hdr hfr ?_)
    try dsimp only
    have hnb : w.params.followText "set-order" = false := by
      cases z : w.params.followText "set-order" with
      | false => rfl
      | true => rw [z] at hc; simp at hc
    rw [hnb] at hl hlr
    have tl : t.led = true := hl.resolve_left (by simp)
    have trl : tr.led = true := hlr.resolve_left (by simp)
    by_cases hq : (tr.led && !t.led || tr.plain && !t.plain) = true
    · refine wp_if_pos hq ?_
      refine wpAny_bind (wpAny_storeSet_of hor hdr ?_ (fits_of_scanBound hbr))
      refine wpAny_pure (h _ es (Heap.SameBut.update ..) ⟨epr + 1, _, ⟨_, store_at hor hdr, hxr, rfl⟩, gr, ndr, hbr, ?_, hrr, .inr ?_⟩ (List.Perm.refl _))
      · exact hfr
      · show (tr.led && t.led) = true
        rw [tl, trl]
        rfl
    · refine wp_if_neg hq ?_
      exact wpAny_pure (asis es (List.Perm.refl _))
theorem dec_snoc (l : List Int) (q j : Int) : decide (j ∈ l ++ [q]) = (decide (j ∈ l) || decide (j = q)) := by
  rw [Bool.eq_iff_iff, Bool.or_eq_true, decide_eq_true_iff, decide_eq_true_iff, decide_eq_true_iff, List.mem_append, List.mem_singleton]
/-- those of a walk that are asked for, too, are laid -/
theorem inter_loop {asked walked : Addr} {Sk : Int → Bool} {k : Nat} {id : String} {xs : Array (Int × Value)} {Q : PUnit → Shared → Prop} (Rk : SetR w s.heap asked Sk k) (Rw : SetS w s.heap walked es ep t) (Rr : SetR w s.heap r (fun _ => false) 0) (h1 : r ≠ asked) (h2 : r ≠ walked)
    (hp : xs.toList.Perm es.toList) (hz : es.size ≤ 1000) (h : ∀ h' c, Heap.SameBut r s.heap h' → SetR w h' r (fun j => decide (j ∈ es.toList.map keyOf) && Sk j) c → Q PUnit.unit { s with heap := h' }) :
    wpAny (model P w) A (forIn xs PUnit.unit fun x __s => match x with
      | (h, x) => do
        holding [x] do
          let z ← setFind asked x h
          if z.isSome = true then do
            let _ ← setAddHashed r x h
            pure ()
          else pure ()
        Builtin.Frozenset.unchanged id walked ep
        pure (ForInStep.yield PUnit.unit)) Q E s := by
  have zx : xs.toList.length ≤ 1000 := by
    rw [hp.length_eq, Array.length_toList]
    exact hz
  have gx : ∀ e ∈ xs.toList, GoodE e := fun e he => Rw.2.1 e (hp.mem_iff.mp he)
  refine MeetsSeq2.wpAny_forIn_array _ (fun rest b s' => ∃ done c h', s' = { s with heap := h' } ∧ Heap.SameBut r s.heap h' ∧ done ++ rest = xs.toList ∧ c ≤ done.length ∧ SetR w h' r (fun j => decide (j ∈ done.map keyOf) && Sk j) c) _ ?_ ?_ _ _
    ⟨[], 0, s.heap, rfl, Heap.SameBut.refl r s.heap, rfl, Nat.le_refl _, Rr.congr fun j => by simp⟩
  · rintro ⟨hh, x⟩ rest b s' ⟨done, c, h', rfl, sb, ed, hc, Rc⟩
    have hl : done.length + (rest.length + 1) ≤ 1000 := by
      have := congrArg List.length ed
      rw [List.length_append, List.length_cons] at this
      omega
    obtain ⟨q, tk, e1, e2⟩ := gx (hh, x) (by rw [← ed]; simp)
    simp only at e1 e2
    subst e1 e2
    have keep : ∀ {y : Addr}, r ≠ y → ∀ o, s.heap.get? y = some o → h'.get? y = some o := fun {y} hy o e => (sb.2 y (Ne.symm hy)).trans e
    have Rk' := Rk.at (keep h1)
    refine wpAny_bind (wpAny_holding (wpAny_bind ?_))
    show wpAny _ _ (setFind asked (.int q tk) ((intKind P w).hash q)) _ _ _
    refine wpAny_setFind_of (intKind_is P w q tk) rfl Rk'.setOf fun z hz => ?_
    have tail : ∀ (h2' : Heap) (c2 : Nat) (QQ : ForInStep PUnit → Shared → Prop), Heap.SameBut r s.heap h2' → c2 ≤ done.length + 1 → SetR w h2' r (fun j => decide (j ∈ (done ++ [(hashInt q, Value.int q tk)]).map keyOf) && Sk j) c2 →
        ((∃ done c h', ({ s with heap := h2' } : Shared) = { s with heap := h' } ∧ Heap.SameBut r s.heap h' ∧ done ++ rest = xs.toList ∧ c ≤ done.length ∧ SetR w h' r (fun j => decide (j ∈ done.map keyOf) && Sk j) c) → QQ (.yield PUnit.unit) { s with heap := h2' }) →
        wpAny (model P w) A (do
          Builtin.Frozenset.unchanged id walked ep
          pure (ForInStep.yield PUnit.unit)) QQ E { s with heap := h2' } := fun h2' c2 QQ sb2 hc2 R2 hQ => by
      obtain ⟨⟨ow, how, hxw, hdw⟩, _, _, _, hfw, _, _⟩ := Rw.at (h' := h2') fun o e => (sb2.2 walked (Ne.symm h2)).trans e
      unfold Builtin.Frozenset.unchanged
      refine wpAny_bind (wpAny_bind (wpAny_setEpoch_of how hdw hfw ?_))
      refine wp_if_neg (by simp) ?_
      refine wpAny_pure (wpAny_pure (hQ ⟨done ++ [(hashInt q, Value.int q tk)], c2, h2', rfl, sb2, ?_, ?_, R2⟩))
      · rw [List.append_assoc]
        exact ed
      · rw [List.length_append, List.length_singleton]
        exact hc2
    have kk : keyOf (hashInt q, Value.int q tk) = q := rfl
    cases hs : Sk q with
    | true =>
      rw [hs] at hz
      refine wp_if_pos hz ?_
      refine wpAny_bind ?_
      show wpAny _ _ (setAddHashed r (.int q tk) ((intKind P w).hash q)) _ _ _
      refine setR_add_hashed (s := { s with heap := h' }) Rc (by unfold scanBound; omega) fun h2' sb2 R2 => wpAny_pure ?_
      refine tail h2' _ _ (sb.trans sb2) ?_ (R2.congr fun j => ?_) fun z => z
      · split <;> omega
      · show (decide (j ∈ (done ++ [(hashInt q, Value.int q tk)]).map keyOf) && Sk j) = (decide (j ∈ done.map keyOf) && Sk j || decide (j = q))
        rw [List.map_append, List.map_cons, List.map_nil, kk, dec_snoc]
        by_cases hj : j = q
        · subst hj
          rw [hs, decide_eq_true rfl, Bool.or_true, Bool.or_true, Bool.and_true]
        · rw [decide_eq_false hj, Bool.or_false, Bool.or_false]
    | false =>
      rw [hs] at hz
      refine wp_if_neg (by rw [hz]; exact Bool.false_ne_true) ?_
      refine wpAny_pure (tail h' c _ sb (by omega) (Rc.congr fun j => ?_) fun z => z)
      show (decide (j ∈ (done ++ [(hashInt q, Value.int q tk)]).map keyOf) && Sk j) = (decide (j ∈ done.map keyOf) && Sk j)
      rw [List.map_append, List.map_cons, List.map_nil, kk, dec_snoc]
      by_cases hj : j = q
      · subst hj
        rw [hs, Bool.and_false, Bool.and_false]
      · rw [decide_eq_false hj, Bool.or_false]
  · rintro b s' ⟨done, c, h', rfl, sb, ed, hc, Rc⟩
    rw [List.append_nil] at ed
    subst ed
    refine h h' c sb (Rc.congr fun j => ?_)
    have : (j ∈ es.toList.map keyOf) ↔ (j ∈ xs.toList.map keyOf) := ((hp.map keyOf).mem_iff).symm
    simp only [this]
theorem isAny_at {v : Value} {Q : Bool → Shared → Prop} (hT : s.TypeIs v "set") (h : Q true s) : wpAny (model P w) A (Builtin.Frozenset.isAnySet v) Q E s := by
  unfold Builtin.Frozenset.isAnySet
  refine wpAny_bind (wpAny_isInstance (b := true) hT sub_set_self ?_)
  exact wpAny_pure h
theorem size_at {Q : Nat → Shared → Prop} (R : SetS w s.heap a es ep t) (h : Q es.size s) : wpAny (model P w) A (Builtin.Frozenset.sizeOf a) Q E s := by
  obtain ⟨⟨o, ho, hx, hd⟩, g, nd, hb, hf, hr, hl⟩ := R
  unfold Builtin.Frozenset.sizeOf
  exact wpAny_bind (wpAny_setEntries_of ho hd hf (wpAny_pure h))
theorem inter_at {id : String} {Q : Value → Shared → Prop} (R : SetR w s.heap a S n) (R' : SetR w s.heap b S' m) (hab : a ≠ b) (hn : n ≤ 1000) (hm : m ≤ 1000)
    (h : ∀ h' k, SetR w h' s.heap.objs.size (fun j => S j && S' j) k → (∀ x o, s.heap.get? x = some o → h'.get? x = some o) → Q (.ref s.heap.objs.size) { s with heap := h' }) :
    wpAny (model P w) A (Builtin.Frozenset.intersection id a (.ref b)) Q E s := by
  obtain ⟨ea, epa, ta, Ra, na, ma⟩ := SetS.of R
  obtain ⟨eb, epb, tb, Rb, nb, mb⟩ := SetS.of R'
  have hTa : s.TypeIs (.ref a) "set" := let ⟨o, ho, hx, _⟩ := Ra.1; ⟨o, ho, hx.1⟩
  have hla : a ≠ s.heap.objs.size := Nat.ne_of_lt R.lt
  have hlb : b ≠ s.heap.objs.size := Nat.ne_of_lt R'.lt
  unfold Builtin.Frozenset.intersection
  refine wp_if_neg (by simp [Ne.symm hab]) ?_
  unfold Builtin.Frozenset.baseOf
  refine wpAny_bind (wpAny_bind (wpAny_isInstance (b := true) hTa sub_set_self (wpAny_pure ?_)))
  refine wpAny_bind ?_
  show wpAny _ _ (newSet (.type "set")) _ _ s
  unfold newSet
  refine wpAny_bind (wpAny_byText ?_)
  refine wpAny_newObj_type ?_
  have RN := setR_fresh (h := s.heap) w
  have up : ∀ x o, s.heap.get? x = some o → (s.heap.push { cls := .type "set", dict := none, data := .set #[] 0 (.fresh 0 0 (!w.params.followText "set-order")) }).get? x = some o := fun x o e => Heap.get?_push_of_some _ e
  generalize s.heap.push { cls := .type "set", dict := none, data := .set #[] 0 (.fresh 0 0 (!w.params.followText "set-order")) } = hN at RN up ⊢
  have Ra1 := Ra.at (h' := hN) (up a)
  have Rb1 := Rb.at (h' := hN) (up b)
  have R1 := R.at (h' := hN) (up a)
  have R1' := R'.at (h' := hN) (up b)
  have hTb : Shared.TypeIs { s with heap := hN } (.ref b) "set" := let ⟨o, ho, hx, _⟩ := Rb1.1; ⟨o, ho, hx.1⟩
  obtain ⟨er, epr, tr, Rr, nr, mr⟩ := SetS.of RN
  refine wpAny_bind (wpAny_pure ?_)
  refine wpAny_bind (wpAny_holding ?_)
  refine wpAny_bind (isAny_at hTb ?_)
  refine wp_if_pos rfl ?_
  refine wpAny_bind (wpAny_pure ?_)
  refine wpAny_bind (size_at Rb1 ?_)
  refine wpAny_bind (size_at Ra1 ?_)
  have fin : ∀ {asked walked : Addr} {Sk : Int → Bool} {k : Nat} {es : Array (Int × Value)} {ep : Nat} {t : SetTable}, SetR w hN asked Sk k → SetS w hN walked es ep t → (∃ eg epg tg, SetS w hN asked eg epg tg) → s.heap.objs.size ≠ asked → s.heap.objs.size ≠ walked → es.size ≤ 1000 →
      (∀ j, (decide (j ∈ es.toList.map keyOf) && Sk j) = (S j && S' j)) →
      wpAny (model P w) A (do
        let was ← setEpoch walked
        let l ← setWalkUnseen walked [asked, s.heap.objs.size] (some s.heap.objs.size)
        forIn l PUnit.unit fun x __s => match x with
          | (h, x) => do
            holding [x] do
              let z ← setFind asked x h
              if z.isSome = true then do
                let _ ← setAddHashed s.heap.objs.size x h
                pure ()
              else pure ()
            Builtin.Frozenset.unchanged id walked was
            pure (ForInStep.yield PUnit.unit)
        pure ()) (fun _ s' => wpAny (model P w) A (pure (Value.ref s.heap.objs.size)) Q E s') E { s with heap := hN } := fun {asked walked Sk k es ep t} Rk Rw G n1 n2 hz hj => by
    obtain ⟨eg, epg, tg, G⟩ := G
    have Rw0 := Rw
    obtain ⟨⟨ow, how, hxw, hdw⟩, _, _, _, hfw, _, _⟩ := Rw0
    refine wpAny_bind (wpAny_setEpoch_of how hdw hfw ?_)
    refine wpAny_bind (walk_unseen Rw G Rr fun h' xs sb ⟨ep', t', F'⟩ hp => ?_)
    have kp : ∀ {y : Addr}, s.heap.objs.size ≠ y → ∀ o, hN.get? y = some o → h'.get? y = some o := fun {y} hy o e => (sb.2 y (Ne.symm hy)).trans e
    refine wpAny_bind (inter_loop (s := { s with heap := h' }) (Rk.at (kp n1)) (Rw.at (kp n2)) ?_ n1 n2 hp hz fun h2 c sb2 R2 => ?_)
    · have z := F'.setR
      have e0 : er.size = 0 := nr
      rw [e0] at z
      refine z.congr fun k => ?_
      have := mr k
      simp only [Bool.false_eq_true, false_iff] at this
      simp [this]
    · refine wpAny_pure (wpAny_pure (h h2 c (R2.congr fun j => (hj j).symm) fun x o e => ?_))
      have hx : x ≠ s.heap.objs.size := Nat.ne_of_lt (Heap.lt_size e)
      exact (sb2.2 x hx).trans ((sb.2 x hx).trans (up x o e))
  by_cases hgt : eb.size > ea.size
  · simp only [hgt, if_true]
    exact fin R1' Ra1 ⟨_, _, _, Rb1⟩ hlb.symm hla.symm (by omega) fun j => by
      have e : decide (j ∈ ea.toList.map keyOf) = S j := by
        rw [Bool.eq_iff_iff, decide_eq_true_iff]
        exact (ma j).symm
      rw [e]
  · simp only [hgt, if_false]
    exact fin R1 Rb1 ⟨_, _, _, Ra1⟩ hla.symm hlb.symm (by omega) fun j => by
      have e : decide (j ∈ eb.toList.map keyOf) = S' j := by
        rw [Bool.eq_iff_iff, decide_eq_true_iff]
        exact (mb j).symm
      rw [e, Bool.and_comm]
theorem set_and {Q : Value → Shared → Prop} (R : SetR w s.heap a S n) (R' : SetR w s.heap b S' m) (hab : a ≠ b) (hn : n ≤ 1000) (hm : m ≤ 1000)
    (h : ∀ h' k, SetR w h' s.heap.objs.size (fun j => S j && S' j) k → (∀ x o, s.heap.get? x = some o → h'.get? x = some o) → Q (.ref s.heap.objs.size) { s with heap := h' }) :
    wpAny (model P w) A (binaryOp .BitAnd (.ref a) (.ref b)) Q E s := by
  have hTa : s.TypeIs (.ref a) "set" := let ⟨o, _, _, _, ho, hx, _⟩ := R; ⟨o, ho, hx.1⟩
  have hTb : s.TypeIs (.ref b) "set" := let ⟨o, _, _, _, ho, hx, _⟩ := R'; ⟨o, ho, hx.1⟩
  refine wpAny_binaryOp_same (op := .BitAnd) (T := "set") hTa hTb F.fills_set_and F.slot_set_and (wpAny_call_entry F.slot_set_and hTa entry_set_and ?_ (F.args_set_and_2 _ _))
  unfold Builtin.«frozenset.__and__»
  refine wpAny_bind (m := Builtin.Frozenset.slot1 "__and__" ⟨[.ref a, .ref b], []⟩) (wpAny_of_eq (a := (Value.ref a, Value.ref b)) (by rfl) ?_)
  show wpAny _ _ (do
    let z ← Builtin.Frozenset.isAnySet (.ref a) <&&> Builtin.Frozenset.isAnySet (.ref b)
    if (!z) = true then do
        rule "frozenset.__and__.declined"
        ret Value.notImplemented
      else do
        let x ← Builtin.Frozenset.addrOf (.ref a)
        let y ← Builtin.Frozenset.intersection "frozenset.__and__" x (.ref b)
        ret y) _ _ _
  refine wpAny_bind ?_
  refine wpAny_bind (isAny_at hTa (isAny_at hTb ?_))
  refine wp_if_neg (by decide) ?_
  refine wpAny_bind (wpAny_pure ?_)
  refine wpAny_bind (inter_at R R' hab hn hm fun h' k R2 kp => ?_)
  exact wpAny_pure ⟨_, rfl, by simp, h h' k R2 kp⟩
end
section
variable {X : Cx}
/-- set & set -/
def rSetAnd (w : World) : R2 := fun x y H Q => ∃ (a b : Addr) (S S' : Int → Bool) (n m : Nat), x = .ref a ∧ y = .ref b ∧ a ≠ b ∧ H a = some (SetO w a S n) ∧ H b = some (SetO w b S' m) ∧ n ≤ 1000 ∧ m ≤ 1000 ∧
  ∀ (p : Addr) (D : List Int), D.Nodup → (∀ k, k ∈ D ↔ S k = true ∧ S' k = true) → H p = none → Q (.ref p) (upd H p (SetO w p (fun j => decide (j ∈ D)) D.length))
theorem op_setand : OpR X (binaryOp .BitAnd) (rSetAnd X.w) := by
  intro pins s σ H x y v u Q I rx ry h
  obtain ⟨a, b, S, S', n, m, rfl, rfl, hab, ha, hb, hn, hm, q⟩ := h
  cases rx
  cases ry
  refine set_and (P := X.prog) (setO_get I ha) (setO_get I hb) hab hn hm fun h' k R kp => ?_
  obtain ⟨es, ep, t, F, ne, me⟩ := SetS.of R
  have R2 := F.setR
  have fresh : H s.heap.objs.size = none := I.hok.fresh (Nat.le_refl _)
  refine ⟨.ref _, upd H s.heap.objs.size (SetO X.w s.heap.objs.size (fun j => decide (j ∈ es.toList.map keyOf)) (es.toList.map keyOf).length), I.laid (t' := s.toks) kp (Nat.le_refl _) ?_, rfl, q _ (es.toList.map keyOf) F.2.2.1 (fun j => ?_) fresh⟩
  · rw [List.length_map, Array.length_toList]
    exact setO_new R2
  · rw [← me j, Bool.and_eq_true]
/-- len(set) -/
def rLenSet (w : World) : List V → Hp → VK → Prop := fun vs H Q => ∃ (a : Addr) (S : Int → Bool) (n : Nat), vs = [.ref a] ∧ H a = some (SetO w a S n) ∧ Q (.int (n : Int)) H
theorem call_lenSet : CallR X (.builtin "len") (rLenSet X.w) := by
  intro pins s σ H vs us Q I r h
  obtain ⟨a, S, n, rfl, ha, q⟩ := h
  rw [Vals.ref1 r]
  obtain ⟨o, es, ep, t, ho, hx, hd, g, nd, hm, hb, hf, hn, hr, hl⟩ := setO_get I ha
  have hfit : (es.size : Int) < 2 ^ 63 := by
    have h1 : scanBound = 4096 := rfl
    omega
  refine call_len_set ho hx hd hf hfit ?_
  rw [hn]
  exact ⟨.int (n : Int), H, (I.tok _).tok _, ⟨_, rfl⟩, q⟩
end
end Shelf
end

section
set_option maxHeartbeats 4000000
namespace Shelf
open PySem PySem.Spec PyProof.Rows L2 Evl
/-! ### the text by places -/
def top (i : Nat) : Stmt := PySem.Challenge.pw_eventshelf_s01_answers.main.body.getD i (.Pass ⟨0, 0, 0, 0⟩)
/-- the classes' addresses -/
structure Adr where
  I : Addr
  E : Addr
  S : Addr
  D : Addr
/-- what the top has written: classes, constants, what is not bound -/
structure Txt (K : PySem.W.Frag) (mg : Str → Option Value) (c : Adr) : Prop where
  clI : Cls K c.I
  clE : Cls K c.E
  clS : Cls K c.S
  clD : Cls K c.D
  iCreator : NoAttr K c.I "creator"
  iPrice : NoAttr K c.I "price"
  iDay : NoAttr K c.I "day"
  iCategories : NoAttr K c.I "categories"
  iWithdrawn : NoAttr K c.I "withdrawn"
  eTime : NoAttr K c.E "time"
  eMember : NoAttr K c.E "member"
  eItem : NoAttr K c.E "item"
  eKind : NoAttr K c.E "kind"
  eValue : NoAttr K c.E "value"
  sRetention : NoAttr K c.S "retention"
  sGap : NoAttr K c.S "gap"
  sWeights : NoAttr K c.S "weights"
  sShelf : NoAttr K c.S "shelf"
  sMembers : NoAttr K c.S "members"
  sEvents : NoAttr K c.S "events"
  dStore : NoAttr K c.D "store"
  gItem : mg "Item" = some (.ref c.I)
  gEvent : mg "Event" = some (.ref c.E)
  gStore : mg "Store" = some (.ref c.S)
  gDesk : mg "Desk" = some (.ref c.D)
  b_len : mg "len" = none
  b_sum : mg "sum" = none
  b_all : mg "all" = none
  b_max : mg "max" = none
  b_list : mg "list" = none
  b_sorted : mg "sorted" = none
  b_set : mg "set" = none
  b_range : mg "range" = none
  b_reversed : mg "reversed" = none
  kMAX_RETENTION : ∃ t, mg "MAX_RETENTION" = some (.int 10000 t)
  kMAX_GAP : ∃ t, mg "MAX_GAP" = some (.int 10000 t)
  kKIND_COUNT : ∃ t, mg "KIND_COUNT" = some (.int 6 t)
  kMAX_WEIGHT : ∃ t, mg "MAX_WEIGHT" = some (.int 1000 t)
  kMAX_CREATOR : ∃ t, mg "MAX_CREATOR" = some (.int 1000 t)
  kMAX_PRICE : ∃ t, mg "MAX_PRICE" = some (.int 1000000 t)
  kMAX_DAY : ∃ t, mg "MAX_DAY" = some (.int 100000 t)
  kCATEGORY_COUNT : ∃ t, mg "CATEGORY_COUNT" = some (.int 32 t)
  kMAX_CATEGORIES_OF_ITEM : ∃ t, mg "MAX_CATEGORIES_OF_ITEM" = some (.int 4 t)
  kMAX_MEMBER : ∃ t, mg "MAX_MEMBER" = some (.int 1000000 t)
  kMAX_TIME : ∃ t, mg "MAX_TIME" = some (.int 100000000 t)
  kMAX_FLAG : ∃ t, mg "MAX_FLAG" = some (.int 1 t)
  kVIEW : ∃ t, mg "VIEW" = some (.int 0 t)
  kLIKE : ∃ t, mg "LIKE" = some (.int 1 t)
  kDISLIKE : ∃ t, mg "DISLIKE" = some (.int 2 t)
  kRATING : ∃ t, mg "RATING" = some (.int 3 t)
  kPURCHASE : ∃ t, mg "PURCHASE" = some (.int 4 t)
  kMAX_RATING : ∃ t, mg "MAX_RATING" = some (.int 10 t)
  kMAX_ITEMS : ∃ t, mg "MAX_ITEMS" = some (.int 40 t)
  kMAX_MEMBERS : ∃ t, mg "MAX_MEMBERS" = some (.int 40 t)
  kMAX_EVENTS : ∃ t, mg "MAX_EVENTS" = some (.int 200 t)
  kMAX_STEPS : ∃ t, mg "MAX_STEPS" = some (.int 6 t)
  kMINUTES_OF_DAY : ∃ t, mg "MINUTES_OF_DAY" = some (.int 1440 t)
  kMAX_HALVINGS : ∃ t, mg "MAX_HALVINGS" = some (.int 40 t)
  kHASH_START : ∃ t, mg "HASH_START" = some (.int 14695981039346656037 t)
  kHASH_FACTOR : ∃ t, mg "HASH_FACTOR" = some (.int 1099511628211 t)
  kHASH_RANGE : ∃ t, mg "HASH_RANGE" = some (.int 18446744073709551616 t)
  kLIKED : ∃ t, mg "LIKED" = some (.int 10 t)
  kDISLIKED : ∃ t, mg "DISLIKED" = some (.int 1 t)
  kUNDECIDED : ∃ t, mg "UNDECIDED" = some (.int 5 t)
/-! ### a store in the heap -/
/-- an item on the shelf: its address, its categories' list, what it is -/
abbrev ItL := List (Addr × Addr × Kp427.Item)
def flagN (b : Bool) : Nat := if b then 1 else 0
def itF (ca : Addr) (i : Kp427.Item) : List (Str × V) := [("creator", nV i.creator), ("price", nV i.price), ("day", nV i.day), ("categories", .ref ca), ("withdrawn", nV (flagN i.withdrawn))]
structure ItAt (c : Adr) (H : Hp) (t : Addr × Addr × Kp427.Item) : Prop where
  ob : ∃ dx, H t.1 = some (.ins c.I dx (itF t.2.1 t.2.2))
  ca : H t.2.1 = some (.lst (t.2.2.categories.map nV))
/-- where the parts of a store stand -/
structure Lay where
  dx : Addr
  wt : Addr
  sh : Addr
  mb : Addr
  ev : Addr
  its : ItL
  evs : EvL'
def stF (L : Lay) (s : Kp427.Store) : List (Str × V) := [("retention", nV s.retention), ("gap", nV s.gap), ("weights", .ref L.wt), ("shelf", .ref L.sh), ("members", .ref L.mb), ("events", .ref L.ev)]
def mbK (s : Kp427.Store) : List (Key × V) := s.members.map fun m => (keyN m.id, nV m.day)
/-- what holds of the data of every store -/
structure Good (s : Kp427.Store) : Prop where
  wlen : s.weights.length = 6
  wle : ∀ x ∈ s.weights, x ≤ 1000
  gap : s.gap ≤ 10000
  ret : s.retention ≤ 10000
  ilen : s.items.length ≤ 40
  icat : ∀ i ∈ s.items, i.categories.length ≤ 4 ∧ i.categories.Nodup ∧ ∀ x ∈ i.categories, x < 32
  mlen : s.members.length ≤ 40
  mnd : (s.members.map Kp427.Member.id).Nodup
  elen : s.events.length ≤ 200
  emem : ∀ e ∈ s.events, e.member ∈ s.members.map Kp427.Member.id
  eitem : ∀ e ∈ s.events, e.item < s.items.length
  ekind : ∀ e ∈ s.events, e.kind < 6
  eval : ∀ e ∈ s.events, e.value ≤ 10
/-- all of a store but its members' dict -/
structure StE (c : Adr) (H : Hp) (a : Addr) (L : Lay) (s : Kp427.Store) : Prop where
  ob : H a = some (.ins c.S L.dx (stF L s))
  wt : H L.wt = some (.lst (s.weights.map nV))
  sh : H L.sh = some (.lst (L.its.map fun t => V.ref t.1))
  it : ∀ t ∈ L.its, ItAt c H t
  its : s.items = L.its.map (·.2.2)
  ev : H L.ev = some (.lst (evV L.evs))
  evs : Evs c.E H L.evs
  eve : s.events = L.evs.map (·.2)
  good : Good s
structure StL (c : Adr) (H : Hp) (a : Addr) (L : Lay) (s : Kp427.Store) : Prop extends StE c H a L s where
  mb : H L.mb = some (.dK (mbK s))
section
variable {c : Adr} {H H' : Hp} {a : Addr} {L : Lay} {s : Kp427.Store}
theorem EvAt.ex {CE x : Addr} {e : Kp427.Event} (k : Ex H H') (h : EvAt CE H x e) : EvAt CE H' x e := by
  obtain ⟨dx, h⟩ := h
  exact ⟨dx, k _ _ h⟩
theorem Evs.ex {CE : Addr} {es : EvL'} (k : Ex H H') (h : Evs CE H es) : Evs CE H' es := fun e he => (h e he).ex k
theorem ItAt.ex {t : Addr × Addr × Kp427.Item} (k : Ex H H') (h : ItAt c H t) : ItAt c H' t := by
  obtain ⟨⟨dx, h1⟩, h2⟩ := h
  exact ⟨⟨dx, k _ _ h1⟩, k _ _ h2⟩
theorem StE.ex (k : Ex H H') (h : StE c H a L s) : StE c H' a L s :=
  ⟨k _ _ h.ob, k _ _ h.wt, k _ _ h.sh, fun t ht => (h.it t ht).ex k, h.its, k _ _ h.ev, h.evs.ex k, h.eve, h.good⟩
theorem StL.ex (k : Ex H H') (h : StL c H a L s) : StL c H' a L s := ⟨h.toStE.ex k, k _ _ h.mb⟩
end
/-! ### reading attributes -/
section
variable {K : PySem.W.Frag} {mg : Str → Option Value} {c : Adr} {σ : L2.St} {H H' : Hp} {te : TE} {a : Addr} {L : Lay} {s : Kp427.Store} {v : V}
theorem ev_fld {C dx : Addr} {fs : List (Str × V)} {f : Str} (h : Ev te σ H (.ref a)) (ho : H a = some (.ins C dx fs)) (hc : Cls K C) (hn : NoAttr K C f) (hl : fs.lookup f = some v) : Ev (tFld K te f) σ H v := fun H1 e Q q =>
  h H1 e _ fun H2 e2 => ⟨a, C, dx, fs, v, rfl, (e.trans e2) _ _ ho, hc, hn, hl, q H2 e2⟩
theorem ev_time (T : Txt K mg c) {e : Kp427.Event} (x : EvAt c.E H a e) (h : Ev te σ H (.ref a)) : Ev (tFld K te "time") σ H (nV e.time) := by
  obtain ⟨dx, ho⟩ := x
  exact ev_fld h ho T.clE T.eTime rfl
theorem ev_member (T : Txt K mg c) {e : Kp427.Event} (x : EvAt c.E H a e) (h : Ev te σ H (.ref a)) : Ev (tFld K te "member") σ H (nV e.member) := by
  obtain ⟨dx, ho⟩ := x
  exact ev_fld h ho T.clE T.eMember rfl
theorem ev_item (T : Txt K mg c) {e : Kp427.Event} (x : EvAt c.E H a e) (h : Ev te σ H (.ref a)) : Ev (tFld K te "item") σ H (nV e.item) := by
  obtain ⟨dx, ho⟩ := x
  exact ev_fld h ho T.clE T.eItem rfl
theorem ev_kind (T : Txt K mg c) {e : Kp427.Event} (x : EvAt c.E H a e) (h : Ev te σ H (.ref a)) : Ev (tFld K te "kind") σ H (nV e.kind) := by
  obtain ⟨dx, ho⟩ := x
  exact ev_fld h ho T.clE T.eKind rfl
theorem ev_value (T : Txt K mg c) {e : Kp427.Event} (x : EvAt c.E H a e) (h : Ev te σ H (.ref a)) : Ev (tFld K te "value") σ H (nV e.value) := by
  obtain ⟨dx, ho⟩ := x
  exact ev_fld h ho T.clE T.eValue rfl
theorem ev_ret (T : Txt K mg c) (x : StE c H a L s) (h : Ev te σ H (.ref a)) : Ev (tFld K te "retention") σ H (nV s.retention) := ev_fld h x.ob T.clS T.sRetention rfl
theorem ev_gap (T : Txt K mg c) (x : StE c H a L s) (h : Ev te σ H (.ref a)) : Ev (tFld K te "gap") σ H (nV s.gap) := ev_fld h x.ob T.clS T.sGap rfl
theorem ev_weights (T : Txt K mg c) (x : StE c H a L s) (h : Ev te σ H (.ref a)) : Ev (tFld K te "weights") σ H (.ref L.wt) := ev_fld h x.ob T.clS T.sWeights rfl
theorem ev_shelf (T : Txt K mg c) (x : StE c H a L s) (h : Ev te σ H (.ref a)) : Ev (tFld K te "shelf") σ H (.ref L.sh) := ev_fld h x.ob T.clS T.sShelf rfl
theorem ev_members (T : Txt K mg c) (x : StE c H a L s) (h : Ev te σ H (.ref a)) : Ev (tFld K te "members") σ H (.ref L.mb) := ev_fld h x.ob T.clS T.sMembers rfl
theorem ev_events (T : Txt K mg c) (x : StE c H a L s) (h : Ev te σ H (.ref a)) : Ev (tFld K te "events") σ H (.ref L.ev) := ev_fld h x.ob T.clS T.sEvents rfl
/-! ### a comprehension over a list that stands for xs -/
theorem filter_cons_t {α : Type} {p : α → Bool} {x : α} {l : List α} (h : p x = true) : (x :: l).filter p = x :: l.filter p := by rw [List.filter_cons, if_pos h]
theorem take_succ_get {α : Type} {l : List α} {i : Nat} {x : α} (h : l[i]? = some x) : l.take (i + 1) = l.take i ++ [x] := by
  rw [List.take_add_one, h]
  rfl
/-- the comprehension's word: of the first i items those that p takes, by g -/
def Cm {α : Type} (H : Hp) (ys : List α) (p : α → Bool) (g : α → V) (D : Addr) (i : Nat) (H' : Hp) : Prop := H D = none ∧ Ex H H' ∧ H' D = some (.lst (((ys.take i).filter p).map g))
theorem cm_turn {α : Type} {H H' : Hp} {ys : List α} {p : α → Bool} {g : α → V} {D : Addr} {i : Nat} {y : α} {σ2 : L2.St} {t : TT} {te : TE} (w : Cm H ys p g D i H') (hy : ys[i]? = some y) (hi : ys.length ≤ 50000)
    (ht : EvT t σ2 H (p y)) (he : p y = true → Ev te σ2 H (g y)) :
    t σ2 H' fun b H3 => if b = true then te σ2 H3 fun x H4 => ∃ acc, H4 D = some (.lst acc) ∧ acc.length < sizeLine ∧ Cm H ys p g D (i + 1) (upd H4 D (.lst (acc ++ [x]))) else Cm H ys p g D (i + 1) H3 := by
  obtain ⟨w1, w2, w3⟩ := w
  have lt : i < ys.length := (List.getElem?_eq_some_iff.mp hy).1
  refine ht H' w2 _ fun H3 e3 => ?_
  cases hp : p y with
  | true =>
    refine iteT (he hp H3 (w2.trans e3) _ fun H4 e4 => ⟨_, e4 D _ (e3 D _ w3), ?_, w1, Ex.mut ((w2.trans e3).trans e4) w1, ?_⟩)
    · rw [List.length_map]
      have h1 := List.length_filter_le p (ys.take i)
      rw [List.length_take] at h1
      exact sz_lt (by omega)
    · rw [upd_same, take_succ_get hy, List.filter_append, List.map_append, filter_cons_t hp] <;> rfl
  | false =>
    refine iteF ⟨w1, w2.trans e3, ?_⟩
    rw [e3 D _ w3, take_succ_get hy, List.filter_append, List.map_append, List.filter_cons, if_neg (by rw [hp]; exact Bool.false_ne_true)]
    show _ = some (HO.lst (_ ++ []))
    rw [List.append_nil]
theorem map_get {α β : Type} {f : α → β} {l : List α} {i : Nat} {x : β} (h : (l.map f)[i]? = some x) : ∃ y, l[i]? = some y ∧ x = f y := by
  rw [List.getElem?_map] at h
  obtain ⟨y, h1, h2⟩ := Option.map_eq_some_iff.mp h
  exact ⟨y, h1, h2.symm⟩
theorem el_comp {α : Type} {q : Addr} {ys : List α} {r : α → V} (p : α → Bool) (g : α → V) {tl : TE} {t : TT} {j : Nat} {vs : List Nat} (h : Ev tl σ H (.ref q)) (hx : SqL K H q (ys.map r)) (hz : ys.length ≤ 50000) (hw : ∀ x, wipe ((wipe σ vs).set j (some x)) vs = wipe σ vs)
    (ht : ∀ y H1, Ex H H1 → y ∈ ys → EvT t ((wipe σ vs).set j (some (r y))) H1 (p y)) (he : ∀ y H1, Ex H H1 → y ∈ ys → p y = true → Ev te ((wipe σ vs).set j (some (r y))) H1 (g y)) :
    EvL (tLc (iList K tl) (gName j) t te vs) σ H ((ys.filter p).map g) := fun H0 e Q k => h H0 e _ fun H1 e1 => ⟨q, rfl, ⟨_, ex_l (e.trans e1) hx⟩, fun D hD =>
  lc_list (xs := ys.map r) (Cm H1 ys p g D) ⟨hD, Ex.new hD, upd_same⟩ (fun i H' _ w => ex_l ((e.trans e1).trans w.2.1) hx) (fun i x H' hi w => by
    obtain ⟨y, hy, rfl⟩ := map_get hi
    have my : y ∈ ys := List.mem_of_getElem? hy
    exact ⟨hw _, cm_turn w hy hz (ht y H1 (e.trans e1) my) (he y H1 (e.trans e1) my)⟩) (fun H' w => by
    refine k D H' (fresh_back e1 w.1) (e1.trans w.2.1) ?_
    have z := w.2.2
    rw [List.length_map, List.take_length] at z
    exact z)⟩
/-- .. over a new list -/
theorem el_compN {α : Type} {ys : List α} {r : α → V} (p : α → Bool) (g : α → V) {tl : TE} {t : TT} {j : Nat} {vs : List Nat} (h : EvL tl σ H (ys.map r)) (hz : ys.length ≤ 50000) (hw : ∀ x, wipe ((wipe σ vs).set j (some x)) vs = wipe σ vs)
    (ht : ∀ y H1, Ex H H1 → y ∈ ys → EvT t ((wipe σ vs).set j (some (r y))) H1 (p y)) (he : ∀ y H1, Ex H H1 → y ∈ ys → p y = true → Ev te ((wipe σ vs).set j (some (r y))) H1 (g y)) :
    EvL (tLc (iList K tl) (gName j) t te vs) σ H ((ys.filter p).map g) := fun H0 e Q k => h H0 e _ fun q H1 hq e1 hx => ⟨q, rfl, ⟨_, sq_of hx⟩, fun D hD =>
  lc_list (xs := ys.map r) (Cm H1 ys p g D) ⟨hD, Ex.new hD, upd_same⟩ (fun i H' _ w => sq_of (w.2.1 q _ hx)) (fun i x H' hi w => by
    obtain ⟨y, hy, rfl⟩ := map_get hi
    have my : y ∈ ys := List.mem_of_getElem? hy
    exact ⟨hw _, cm_turn w hy hz (ht y H1 (e.trans e1) my) (he y H1 (e.trans e1) my)⟩) (fun H' w => by
    refine k D H' (fresh_back e1 w.1) (e1.trans w.2.1) ?_
    have z := w.2.2
    rw [List.length_map, List.take_length] at z
    exact z)⟩
end
end Shelf
end

section
set_option maxHeartbeats 4000000
namespace Shelf
open PySem PySem.Spec PyProof.Rows L2 Evl
section
variable {K : PySem.W.Frag} {σ : L2.St} {H H' : Hp} {ta tb te tl : TE} {x y z v : V} {a b : Nat} {i j : Int}
/-! ### numbers -/
theorem dec_eqN : decide ((V.int (a : Int)) = V.int (b : Int)) = (a == b) := by
  by_cases h : a = b
  · subst h
    simp
  · have h2 : ¬ (V.int (a : Int)) = V.int (b : Int) := fun z => h (Int.ofNat.inj (V.int.inj z))
    rw [decide_eq_false h2]
    exact (beq_eq_false_iff_ne.mpr h).symm
theorem rv_eqN : RV rEq (nV a) (nV b) H (.bl (a == b)) := by
  rw [← dec_eqN]
  exact rv_eq rfl
theorem rv_neN : RV rNe (nV a) (nV b) H (.bl (!(a == b))) := by
  rw [← dec_eqN]
  exact rv_ne rfl
theorem rv_ltN : RV (rI0 fun i j => .bl (decide (i < j))) (nV a) (nV b) H (.bl (decide (a < b))) := by
  have e : decide ((a : Int) < (b : Int)) = decide (a < b) := decide_eq_decide.mpr (by omega)
  rw [← e]
  exact rv_I0
theorem rv_leN : RV (rI0 fun i j => .bl (decide (i ≤ j))) (nV a) (nV b) H (.bl (decide (a ≤ b))) := by
  have e : decide ((a : Int) ≤ (b : Int)) = decide (a ≤ b) := decide_eq_decide.mpr (by omega)
  rw [← e]
  exact rv_I0
theorem rv_gtN : RV (rI0 fun i j => .bl (decide (j < i))) (nV a) (nV b) H (.bl (decide (b < a))) := by
  have e : decide ((b : Int) < (a : Int)) = decide (b < a) := decide_eq_decide.mpr (by omega)
  rw [← e]
  exact rv_I0
theorem rv_geN : RV (rI0 fun i j => .bl (decide (j ≤ i))) (nV a) (nV b) H (.bl (decide (b ≤ a))) := by
  have e : decide ((b : Int) ≤ (a : Int)) = decide (b ≤ a) := decide_eq_decide.mpr (by omega)
  rw [← e]
  exact rv_I0
theorem rv_gtI : RV (rI0 fun i j => .bl (decide (j < i))) (.int i) (.int j) H (.bl (decide (j < i))) := rv_I0
theorem rv_addN : RV (rI0 fun i j => .int (i + j)) (nV a) (nV b) H (nV (a + b)) := by
  have e : nV (a + b) = V.int ((a : Int) + (b : Int)) := congrArg V.int (Int.natCast_add a b)
  rw [e]
  exact rv_I0
theorem rv_subN (h : b ≤ a) : RV (rI0 fun i j => .int (i - j)) (nV a) (nV b) H (nV (a - b)) := by
  have e : nV (a - b) = V.int ((a : Int) - (b : Int)) := congrArg V.int (Int.natCast_sub h)
  rw [e]
  exact rv_I0
theorem rv_mulN {p q : Nat} (ha : a < 2 ^ p) (hb : b < 2 ^ q) (hp : 0 < p) (hq : 0 < q) (h : p + q ≤ 1000000) : RV (rI CMulW fun i j => .int (i * j)) (nV a) (nV b) H (nV (a * b)) := by
  have e : nV (a * b) = V.int ((a : Int) * (b : Int)) := congrArg V.int (Int.natCast_mul a b)
  rw [e]
  exact rv_I (wide_mul (a := p) (b := q) (by simpa using ha) (by simpa using hb) hp hq h)
theorem rv_divN {q : Nat} (hb : b < 2 ^ q) (h0 : 0 < b) (hq : 0 < q) (h : q ≤ 9000) : RV (rI CDivW fun i j => .int (i / j)) (nV a) (nV b) H (nV (a / b)) := by
  have e : nV (a / b) = V.int ((a : Int) / (b : Int)) := congrArg V.int (Int.natCast_ediv a b)
  rw [e]
  exact rv_I (wide_div (b := q) (by omega) (by simpa using hb) hq h)
theorem rv_modN (h0 : b ≠ 0) : RV (rI (fun _ j => j ≠ 0) fun i j => .int (i.fmod j)) (nV a) (nV b) H (nV (a % b)) := by
  have e : nV (a % b) = V.int ((a : Int).fmod (b : Int)) := congrArg V.int (by
    rw [Int.fmod_eq_emod_of_nonneg _ (Int.natCast_nonneg b)]
    exact Int.natCast_emod a b)
  rw [e]
  exact rv_I (by omega)
theorem ev_n (n : Nat) : Ev (tC (.int (n : Int))) σ H (nV n) := ev_c
/-! ### lists -/
theorem ev_lenM {α : Type} {ys : List α} {r : α → V} {p : Addr} (ha : Ev ta σ H (.ref p)) (h : SqL K H p (ys.map r)) : Ev (tCB (rLenS K) (tCons ta tNil)) σ H (nV ys.length) := by
  have e := ev_len ha h
  rw [List.length_map] at e
  exact e
theorem ev_lenNM {α : Type} {ys : List α} {r : α → V} (ha : EvL ta σ H (ys.map r)) : Ev (tCB (rLenS K) (tCons ta tNil)) σ H (nV ys.length) := by
  have e := ev_lenN (K := K) ha
  rw [List.length_map] at e
  exact e
theorem ev_lenX {xs : List V} {p : Addr} {n : Nat} (ha : Ev ta σ H (.ref p)) (h : SqL K H p xs) (e : xs.length = n) : Ev (tCB (rLenS K) (tCons ta tNil)) σ H (nV n) := by
  subst e
  exact ev_len ha h
/-- len of a dict -/
def rLenD : List V → Hp → VK → Prop := fun xs H Q => ∃ a kvs, xs = [V.ref a] ∧ H a = some (.dK kvs) ∧ Q (.int kvs.length) H
theorem ev_lenD {p : Addr} {kvs : List (Key × V)} {n : Nat} (ha : Ev ta σ H (.ref p)) (h : H p = some (.dK kvs)) (e : kvs.length = n) : Ev (tCB rLenD (tCons ta tNil)) σ H (nV n) := fun H1 e1 Q q =>
  ha H1 e1 _ fun H2 e2 => ⟨p, kvs, rfl, (e1.trans e2) _ _ h, by subst e; exact q H2 e2⟩
theorem ev_all {bs : List Bool} (ha : EvL ta σ H (bs.map V.bl)) : Ev (tCB (rAll K) (tCons ta tNil)) σ H (.bl (bs.all id)) := fun H1 e Q q =>
  ha H1 e _ fun p H2 _ e2 h2 => ⟨p, bs, rfl, sq_of h2, q H2 e2⟩
theorem ev_sum {ns : List Int} {p : Addr} (ha : Ev ta σ H (.ref p)) (h : SqL K H p (ns.map V.int)) : Ev (tCB (rSum K) (tCons ta tNil)) σ H (.int ns.sum) := fun H1 e Q q =>
  ha H1 e _ fun H2 e2 => ⟨p, ns, rfl, ex_l (e.trans e2) h, q H2 e2⟩
theorem ev_sumN {ns : List Int} (ha : EvL ta σ H (ns.map V.int)) : Ev (tCB (rSum K) (tCons ta tNil)) σ H (.int ns.sum) := fun H1 e Q q =>
  ha H1 e _ fun p H2 _ e2 h2 => ⟨p, ns, rfl, sq_of h2, q H2 e2⟩
/-- a new list, then a list that stands -/
theorem el_cat {xs ys : List V} {p : Addr} (ha : EvL ta σ H xs) (hb : Ev tb σ H (.ref p)) (h : H p = some (.lst ys)) (hz : xs.length + ys.length ≤ 100000) : EvL (tOp rCat ta tb) σ H (xs ++ ys) := fun H1 e Q q =>
  ha H1 e _ fun l H2 hl e2 h2 => hb H2 (e.trans e2) _ fun H3 e3 => ⟨l, p, xs, ys, rfl, rfl, e3 _ _ h2, ((e.trans e2).trans e3) _ _ h, sz_of hz, fun n hn =>
    q n _ (fresh_back e2 (fresh_back e3 hn)) ((e2.trans e3).trans (Ex.new hn)) upd_same⟩
/-- two new lists -/
theorem el_cat2 {xs ys : List V} (ha : EvL ta σ H xs) (hb : EvL tb σ H ys) (hz : xs.length + ys.length ≤ 100000) : EvL (tOp rCat ta tb) σ H (xs ++ ys) := fun H1 e Q q =>
  ha H1 e _ fun l H2 hl e2 h2 => hb H2 (e.trans e2) _ fun p H3 _ e3 h3 => ⟨l, p, xs, ys, rfl, rfl, e3 _ _ h2, h3, sz_of hz, fun n hn =>
    q n _ (fresh_back e2 (fresh_back e3 hn)) ((e2.trans e3).trans (Ex.new hn)) upd_same⟩
theorem flatten_rep {α : Type} (x : α) : ∀ n : Nat, (List.replicate n [x]).flatten = List.replicate n x
  | 0 => rfl
  | n + 1 => by
    rw [List.replicate_succ, List.flatten_cons, flatten_rep x n]
    rfl
/-- a value at an item of a list -/
theorem ev_ixL {p : Addr} {xs : List V} {n : Nat} (ha : Ev ta σ H (.ref p)) (hb : Ev tb σ H (nV n)) (h : SqL K H p xs) (hx : xs[n]? = some v) : Ev (tOp (rIxL K) ta tb) σ H v := ev_op ha hb (rv_ixL h (atI_nat hx))
theorem ev_ixM {α : Type} {ys : List α} {r : α → V} {y : α} {p : Addr} {n : Nat} (ha : Ev ta σ H (.ref p)) (hb : Ev tb σ H (nV n)) (h : SqL K H p (ys.map r)) (hx : ys[n]? = some y) : Ev (tOp (rIxL K) ta tb) σ H (r y) :=
  ev_ixL ha hb h (by rw [List.getElem?_map, hx]; rfl)
theorem el_is {xs ys : List V} (h : EvL te σ H xs) (e : xs = ys) : EvL te σ H ys := by
  subst e
  exact h
/-- how a new list is handed on in an argument list -/
def EvA' (ta : TA) (σ : L2.St) (H : Hp) (Pr : List V → Hp → Prop) : Prop := ∀ H1, Ex H H1 → ∀ Q : List V → Hp → Prop, (∀ vs H2, Ex H1 H2 → Pr vs H2 → Q vs H2) → ta σ H1 Q
theorem ea_nil' : EvA' tNil σ H (fun vs _ => vs = []) := fun H1 _ Q q => q [] H1 (Ex.refl H1) rfl
theorem ea_V {tr : TA} {Pr : List V → Hp → Prop} (h : Ev te σ H v) (hr : EvA' tr σ H Pr) : EvA' (tCons te tr) σ H (fun vs H2 => ∃ r, vs = v :: r ∧ Pr r H2) := fun H1 e Q q =>
  h H1 e _ fun H2 e2 => hr H2 (e.trans e2) _ fun vs H3 e3 p => q _ H3 (e2.trans e3) ⟨vs, rfl, p⟩
theorem ea_L {tr : TA} {xs : List V} {Pr : List V → Hp → Prop} (h : EvL te σ H xs) (hr : EvA' tr σ H Pr) : EvA' (tCons te tr) σ H (fun vs H2 => ∃ p r, vs = .ref p :: r ∧ H2 p = some (.lst xs) ∧ Pr r H2) := fun H1 e Q q =>
  h H1 e _ fun p H2 _ e2 hp => hr H2 (e.trans e2) _ fun vs H3 e3 pr => q _ H3 (e2.trans e3) ⟨p, vs, rfl, e3 _ _ hp, pr⟩
/-- a call whose arguments are told so -/
theorem ev_call' {sp : Sp} {E : XK} {ta : TA} {Pr : List V → Hp → Prop} (h : EvA' ta σ H Pr) (hs : ∀ vs H1, Ex H H1 → Pr vs H1 → SpV sp vs H1 z) : Ev (tCall sp [] E ta) σ H z := fun H1 e Q q =>
  h H1 e _ fun vs H2 e2 p => by
    show sp (vs ++ []) H2 Q E
    rw [List.append_nil]
    exact hs vs H2 (e.trans e2) p H2 (Ex.refl H2) Q (fun H3 e3 => q H3 (e2.trans e3)) E
theorem el_call' {sp : Sp} {E : XK} {ta : TA} {xs : List V} {Pr : List V → Hp → Prop} (h : EvA' ta σ H Pr) (hs : ∀ vs H1, Ex H H1 → Pr vs H1 → SpL sp vs H1 xs) : EvL (tCall sp [] E ta) σ H xs := fun H1 e Q q =>
  h H1 e _ fun vs H2 e2 p => by
    show sp (vs ++ []) H2 Q E
    rw [List.append_nil]
    exact hs vs H2 (e.trans e2) p H2 (Ex.refl H2) Q (fun p2 H3 hp e3 h3 => q p2 H3 (fresh_back e2 hp) (e2.trans e3) h3) E
theorem ev_callA {sp : Sp} {E : XK} {ta : TA} {vs : List V} (h : EvA ta σ H vs) (hs : SpV sp vs H z) : Ev (tCall sp [] E ta) σ H z := ev_call h (by rw [List.append_nil]; exact hs)
theorem el_callA {sp : Sp} {E : XK} {ta : TA} {vs xs : List V} (h : EvA ta σ H vs) (hs : SpL sp vs H xs) : EvL (tCall sp [] E ta) σ H xs := el_call h (by rw [List.append_nil]; exact hs)
theorem ev_callD {Pre : List V → Hp → V → Prop} {E : XK} {ta : TA} {vs : List V} (h : EvA ta σ H vs) (hs : ∀ H1, Ex H H1 → Pre vs H1 z) : Ev (tCall (rdV Pre) [] E ta) σ H z := ev_callA h (rdV_sp hs)
theorem el_callD {Pre : List V → Hp → List V → Prop} {E : XK} {ta : TA} {vs xs : List V} (h : EvA ta σ H vs) (hs : ∀ H1, Ex H H1 → Pre vs H1 xs) : EvL (tCall (rdL Pre) [] E ta) σ H xs := el_callA h (rdL_sp hs)

/-! ### statements -/
variable {D : Ends} {tu : TS} {g : TG}
/-- tally[n] += e -/
theorem s_augL {l : Addr} {xs : List V} {n : Nat} {p q : Int} (hl : H l = some (.lst xs)) (ho : Ev ta σ H (.ref l)) (hi : Ev tb σ H (nV n)) (hx : xs[n]? = some (.int p)) (h : Ev te σ H (.int q))
    (k : ∀ H1, Ex H H1 → D.nx σ (upd H1 l (.lst (xs.set n (.int (p + q)))))) : tAugS ta tb te rGetN (ipI fun i j => i + j) rSetL D σ H := by
  have hn : n < xs.length := (List.getElem?_eq_some_iff.mp hx).1
  refine ho H (Ex.refl H) _ fun H1 e1 => hi H1 e1 _ fun H2 e2 => ⟨l, xs, n, .int p, rfl, rfl, (e1.trans e2) _ _ hl, hx, ?_⟩
  refine h H2 (e1.trans e2) _ fun H3 e3 => ⟨p, q, rfl, rfl, l, xs, (n : Int), n, rfl, rfl, ((e1.trans e2).trans e3) _ _ hl, ixN_nat hn, k H3 ((e1.trans e2).trans e3)⟩
/-- xs.extend(a new list) -/
theorem s_extL {l : Addr} {xs ys : List V} (hl : H l = some (.lst xs)) (ha : Ev ta σ H (.ref l)) (h : EvL te σ H ys) (hz : xs.length + ys.length ≤ 100000) (k : ∀ H1, Ex H H1 → D.nx σ (upd H1 l (.lst (xs ++ ys)))) :
    tDrop (tBM K "list" rExtend ta (tCons te tNil)) D σ H := ha H (Ex.refl H) _ fun H1 e1 =>
  ⟨Or.inl ⟨rfl, xs, sq_of (e1 l _ hl)⟩, h H1 e1 _ fun p H2 hp e2 h2 => ⟨l, p, xs, ys, rfl, rfl, e2 l _ (e1 l _ hl), h2, sz_of hz, k H2 (e1.trans e2)⟩⟩
theorem s_extV {l p : Addr} {xs ys : List V} (hl : H l = some (.lst xs)) (hp : H p = some (.lst ys)) (ha : Ev ta σ H (.ref l)) (h : Ev te σ H (.ref p)) (hz : xs.length + ys.length ≤ 100000) (k : ∀ H1, Ex H H1 → D.nx σ (upd H1 l (.lst (xs ++ ys)))) :
    tDrop (tBM K "list" rExtend ta (tCons te tNil)) D σ H := ha H (Ex.refl H) _ fun H1 e1 =>
  ⟨Or.inl ⟨rfl, xs, sq_of (e1 l _ hl)⟩, h H1 e1 _ fun H2 e2 => ⟨l, p, xs, ys, rfl, rfl, e2 l _ (e1 l _ hl), e2 p _ (e1 p _ hp), sz_of hz, k H2 (e1.trans e2)⟩⟩
/-- a walk over a list that stands for ys: W tells of the number of items taken, the slots, the heap -/
theorem s_forM {α : Type} {q : Addr} {ys : List α} {r : α → V} {n : Nat} (h : Ev tl σ H (.ref q)) (hx : SqL K H q (ys.map r)) (W : Nat → L2.St → Hp → Prop) (h0 : ∀ H1, Ex H H1 → W 0 σ H1) (hl : ∀ i σ' H', W i σ' H' → SqL K H' q (ys.map r))
    (hs : ∀ i y σ' H', ys[i]? = some y → W i σ' H' → tu { D with nx := W (i + 1), ct := W (i + 1), bk := D.nx } (σ'.set n (some (r y))) H') (hd : ∀ σ' H', W ys.length σ' H' → D.nx σ' H') : tFor (iList K tl) (gName n) tu D σ H :=
  s_forL h hx W h0 (fun i σ' H' _ w => hl i σ' H' w) (fun i x σ' H' hi w => by
    obtain ⟨y, hy, rfl⟩ := map_get hi
    exact hs i y σ' H' hy w) (fun σ' H' w => hd σ' H' (by rw [List.length_map] at w; exact w))
/-- .. over a new list -/
theorem s_forMN {α : Type} {ys : List α} {r : α → V} {n : Nat} (h : EvL tl σ H (ys.map r)) (W : Addr → Nat → L2.St → Hp → Prop) (h0 : ∀ p H1, H p = none → Ex H H1 → H1 p = some (.lst (ys.map r)) → W p 0 σ H1) (hl : ∀ p i σ' H', W p i σ' H' → SqL K H' p (ys.map r))
    (hs : ∀ p i y σ' H', ys[i]? = some y → W p i σ' H' → tu { D with nx := W p (i + 1), ct := W p (i + 1), bk := D.nx } (σ'.set n (some (r y))) H') (hd : ∀ p σ' H', W p ys.length σ' H' → D.nx σ' H') : tFor (iList K tl) (gName n) tu D σ H :=
  s_forNL h W h0 (fun p i σ' H' _ w => hl p i σ' H' w) (fun p i x σ' H' hi w => by
    obtain ⟨y, hy, rfl⟩ := map_get hi
    exact hs p i y σ' H' hy w) (fun p σ' H' w => hd p σ' H' (by rw [List.length_map] at w; exact w))
/-! the same, something behind -/
variable {tz : TS}
theorem q_augL {l : Addr} {xs : List V} {n : Nat} {p q : Int} (hl : H l = some (.lst xs)) (ho : Ev ta σ H (.ref l)) (hi : Ev tb σ H (nV n)) (hx : xs[n]? = some (.int p)) (h : Ev te σ H (.int q))
    (k : ∀ H1, Ex H H1 → tz D σ (upd H1 l (.lst (xs.set n (.int (p + q)))))) : tSeq (tAugS ta tb te rGetN (ipI fun i j => i + j) rSetL) tz D σ H := s_augL (D := { D with nx := tz D }) hl ho hi hx h k
theorem q_extL {l : Addr} {xs ys : List V} (hl : H l = some (.lst xs)) (ha : Ev ta σ H (.ref l)) (h : EvL te σ H ys) (hz : xs.length + ys.length ≤ 100000) (k : ∀ H1, Ex H H1 → tz D σ (upd H1 l (.lst (xs ++ ys)))) :
    tSeq (tDrop (tBM K "list" rExtend ta (tCons te tNil))) tz D σ H := s_extL (D := { D with nx := tz D }) hl ha h hz k
theorem q_extV {l p : Addr} {xs ys : List V} (hl : H l = some (.lst xs)) (hp : H p = some (.lst ys)) (ha : Ev ta σ H (.ref l)) (h : Ev te σ H (.ref p)) (hz : xs.length + ys.length ≤ 100000) (k : ∀ H1, Ex H H1 → tz D σ (upd H1 l (.lst (xs ++ ys)))) :
    tSeq (tDrop (tBM K "list" rExtend ta (tCons te tNil))) tz D σ H := s_extV (D := { D with nx := tz D }) hl hp ha h hz k
theorem q_forM {α : Type} {q : Addr} {ys : List α} {r : α → V} {n : Nat} (h : Ev tl σ H (.ref q)) (hx : SqL K H q (ys.map r)) (W : Nat → L2.St → Hp → Prop) (h0 : ∀ H1, Ex H H1 → W 0 σ H1) (hl : ∀ i σ' H', W i σ' H' → SqL K H' q (ys.map r))
    (hs : ∀ i y σ' H', ys[i]? = some y → W i σ' H' → tu { D with nx := W (i + 1), ct := W (i + 1), bk := tz D } (σ'.set n (some (r y))) H') (hd : ∀ σ' H', W ys.length σ' H' → tz D σ' H') : tSeq (tFor (iList K tl) (gName n) tu) tz D σ H :=
  s_forM (D := { D with nx := tz D }) h hx W h0 hl hs hd
theorem q_forMN {α : Type} {ys : List α} {r : α → V} {n : Nat} (h : EvL tl σ H (ys.map r)) (W : Addr → Nat → L2.St → Hp → Prop) (h0 : ∀ p H1, H p = none → Ex H H1 → H1 p = some (.lst (ys.map r)) → W p 0 σ H1) (hl : ∀ p i σ' H', W p i σ' H' → SqL K H' p (ys.map r))
    (hs : ∀ p i y σ' H', ys[i]? = some y → W p i σ' H' → tu { D with nx := W p (i + 1), ct := W p (i + 1), bk := tz D } (σ'.set n (some (r y))) H') (hd : ∀ p σ' H', W p ys.length σ' H' → tz D σ' H') : tSeq (tFor (iList K tl) (gName n) tu) tz D σ H :=
  s_forMN (D := { D with nx := tz D }) h W h0 hl hs hd
end
end Shelf
end

section
set_option maxHeartbeats 4000000
namespace Shelf
open PySem PySem.Spec PyProof.Rows L2 Evl
/-! ### small mathematics -/
theorem et_yes {σ : L2.St} {H : Hp} : EvT tYes σ H true := fun H1 _ _ q => q H1 (Ex.refl H1)
theorem filter_true {α : Type} (l : List α) : l.filter (fun _ => true) = l := by simp
section
variable {c : Adr} {H : Hp} {a : Addr} {L : Lay} {s : Kp427.Store}
theorem StE.ilen (S : StE c H a L s) : L.its.length = s.items.length := by rw [S.its, List.length_map]
theorem StE.elen (S : StE c H a L s) : L.evs.length = s.events.length := by rw [S.eve, List.length_map]
theorem StE.elen200 (S : StE c H a L s) : L.evs.length ≤ 200 := by rw [S.elen]; exact S.good.elen
theorem StE.it_at (S : StE c H a L s) {i : Nat} (h : i < s.items.length) : ∃ t, L.its[i]? = some t ∧ t ∈ L.its ∧ t.2.2 = Kp427.itemAt s i := by
  have hl : i < L.its.length := by rw [S.ilen]; exact h
  refine ⟨L.its[i], List.getElem?_eq_getElem hl, List.getElem_mem hl, ?_⟩
  unfold Kp427.itemAt
  simp only [S.its]
  rw [List.getD_eq_getElem?_getD, List.getElem?_map, List.getElem?_eq_getElem hl]
  rfl
end
theorem valV_members : ∀ (l : List Kp427.Member) (m : Nat), valV (l.map fun x => (keyN x.id, nV x.day)) (keyN m) = (l.find? fun x => x.id == m).map fun x => nV x.day
  | [], _ => rfl
  | x :: r, m => by
    rw [List.map_cons, List.find?_cons]
    by_cases h : x.id = m
    · subst h
      rw [valV_pos rfl]
      simp
    · have hk : ¬ (keyN x.id : Key) = keyN m := fun z => h (Int.ofNat.inj (Sum.inl.inj z))
      rw [valV_neg hk, valV_members r m]
      have hb : (x.id == m) = false := beq_eq_false_iff_ne.mpr h
      rw [hb]
theorem valV_mb (s : Kp427.Store) (m : Nat) : valV (mbK s) (keyN m) = (Kp427.memberWith s m).map fun x => nV x.day := valV_members s.members m
section
variable {P : Program} {w : World} {K : PySem.W.Frag} {mg : Str → Option Value} {base : Heap} {c : Adr}
/-! ### refusals -/
def p_code (n : Int) (vs : List V) (_ : Hp) (xs : List V) : Prop := vs = [] ∧ xs = [.int (-n)]
abbrev s_no_store : Stmt := top 29
abbrev n_no_store : List Str := []
theorem sc_no_store : FnScope n_no_store [] (defScope s_no_store) := ⟨rfl, rfl, rfl, by decide +kernel, rfl, by decide +kernel, by decide +kernel⟩
theorem d_no_store (D0 : Def0 K mg "no_store" s_no_store []) : DefAt P w K mg base 1 "no_store" [] (rdL (p_code 11)) := by
  refine DefAt.of D0 sc_no_store (fun vs H Q E h => ?_) (fun f cdv A outer s H vs Q E hr h => ?_)
  · obtain ⟨xs, ⟨rfl, _⟩, _⟩ := h
    rfl
  · obtain ⟨xs, ⟨rfl, rfl⟩, k⟩ := h
    exact ⟨_, (pss_one (ps_ret (pe_lst (pa_cons (pe_un un_neg pe_int) pa_nil)))), s_retL (el_lst (ea_cons (ev_un ev_c ru_neg) ea_nil) (by show 1 ≤ 100000; decide)) k⟩
abbrev s_not_found : Stmt := top 30
abbrev n_not_found : List Str := []
theorem sc_not_found : FnScope n_not_found [] (defScope s_not_found) := ⟨rfl, rfl, rfl, by decide +kernel, rfl, by decide +kernel, by decide +kernel⟩
theorem d_not_found (D0 : Def0 K mg "not_found" s_not_found []) : DefAt P w K mg base 1 "not_found" [] (rdL (p_code 2)) := by
  refine DefAt.of D0 sc_not_found (fun vs H Q E h => ?_) (fun f cdv A outer s H vs Q E hr h => ?_)
  · obtain ⟨xs, ⟨rfl, _⟩, _⟩ := h
    rfl
  · obtain ⟨xs, ⟨rfl, rfl⟩, k⟩ := h
    exact ⟨_, (pss_one (ps_ret (pe_lst (pa_cons (pe_un un_neg pe_int) pa_nil)))), s_retL (el_lst (ea_cons (ev_un ev_c ru_neg) ea_nil) (by show 1 ≤ 100000; decide)) k⟩
abbrev s_outside_limits : Stmt := top 31
abbrev n_outside_limits : List Str := []
theorem sc_outside_limits : FnScope n_outside_limits [] (defScope s_outside_limits) := ⟨rfl, rfl, rfl, by decide +kernel, rfl, by decide +kernel, by decide +kernel⟩
theorem d_outside_limits (D0 : Def0 K mg "outside_limits" s_outside_limits []) : DefAt P w K mg base 1 "outside_limits" [] (rdL (p_code 22)) := by
  refine DefAt.of D0 sc_outside_limits (fun vs H Q E h => ?_) (fun f cdv A outer s H vs Q E hr h => ?_)
  · obtain ⟨xs, ⟨rfl, _⟩, _⟩ := h
    rfl
  · obtain ⟨xs, ⟨rfl, rfl⟩, k⟩ := h
    exact ⟨_, (pss_one (ps_ret (pe_lst (pa_cons (pe_un un_neg pe_int) pa_nil)))), s_retL (el_lst (ea_cons (ev_un ev_c ru_neg) ea_nil) (by show 1 ≤ 100000; decide)) k⟩
abbrev s_number_taken : Stmt := top 32
abbrev n_number_taken : List Str := []
theorem sc_number_taken : FnScope n_number_taken [] (defScope s_number_taken) := ⟨rfl, rfl, rfl, by decide +kernel, rfl, by decide +kernel, by decide +kernel⟩
theorem d_number_taken (D0 : Def0 K mg "number_taken" s_number_taken []) : DefAt P w K mg base 1 "number_taken" [] (rdL (p_code 17)) := by
  refine DefAt.of D0 sc_number_taken (fun vs H Q E h => ?_) (fun f cdv A outer s H vs Q E hr h => ?_)
  · obtain ⟨xs, ⟨rfl, _⟩, _⟩ := h
    rfl
  · obtain ⟨xs, ⟨rfl, rfl⟩, k⟩ := h
    exact ⟨_, (pss_one (ps_ret (pe_lst (pa_cons (pe_un un_neg pe_int) pa_nil)))), s_retL (el_lst (ea_cons (ev_un ev_c ru_neg) ea_nil) (by show 1 ≤ 100000; decide)) k⟩
abbrev s_too_many : Stmt := top 33
abbrev n_too_many : List Str := []
theorem sc_too_many : FnScope n_too_many [] (defScope s_too_many) := ⟨rfl, rfl, rfl, by decide +kernel, rfl, by decide +kernel, by decide +kernel⟩
theorem d_too_many (D0 : Def0 K mg "too_many" s_too_many []) : DefAt P w K mg base 1 "too_many" [] (rdL (p_code 28)) := by
  refine DefAt.of D0 sc_too_many (fun vs H Q E h => ?_) (fun f cdv A outer s H vs Q E hr h => ?_)
  · obtain ⟨xs, ⟨rfl, _⟩, _⟩ := h
    rfl
  · obtain ⟨xs, ⟨rfl, rfl⟩, k⟩ := h
    exact ⟨_, (pss_one (ps_ret (pe_lst (pa_cons (pe_un un_neg pe_int) pa_nil)))), s_retL (el_lst (ea_cons (ev_un ev_c ru_neg) ea_nil) (by show 1 ≤ 100000; decide)) k⟩
abbrev s_not_possible : Stmt := top 34
abbrev n_not_possible : List Str := []
theorem sc_not_possible : FnScope n_not_possible [] (defScope s_not_possible) := ⟨rfl, rfl, rfl, by decide +kernel, rfl, by decide +kernel, by decide +kernel⟩
theorem d_not_possible (D0 : Def0 K mg "not_possible" s_not_possible []) : DefAt P w K mg base 1 "not_possible" [] (rdL (p_code 33)) := by
  refine DefAt.of D0 sc_not_possible (fun vs H Q E h => ?_) (fun f cdv A outer s H vs Q E hr h => ?_)
  · obtain ⟨xs, ⟨rfl, _⟩, _⟩ := h
    rfl
  · obtain ⟨xs, ⟨rfl, rfl⟩, k⟩ := h
    exact ⟨_, (pss_one (ps_ret (pe_lst (pa_cons (pe_un un_neg pe_int) pa_nil)))), s_retL (el_lst (ea_cons (ev_un ev_c ru_neg) ea_nil) (by show 1 ≤ 100000; decide)) k⟩
/-- what a refusal answers -/
theorem el_code {σ : L2.St} {H : Hp} {E : XK} (n : Int) : EvL (tCall (rdL (p_code n)) [] E tNil) σ H [.int (-n)] := el_callD ea_nil fun _ _ => ⟨rfl, rfl⟩
/-! ### the store -/
abbrev s_item_exists : Stmt := top 39
abbrev n_item_exists : List Str := ["store", "item"]
theorem sc_item_exists : FnScope n_item_exists ["store", "item"] (defScope s_item_exists) := ⟨rfl, rfl, rfl, by decide +kernel, rfl, by decide +kernel, by decide +kernel⟩
def p_item_exists (c : Adr) (vs : List V) (H : Hp) (z : V) : Prop := ∃ (a : Addr) (L : Lay) (s : Kp427.Store) (i : Nat), vs = [.ref a, nV i] ∧ StE c H a L s ∧ z = .bl (Kp427.hasItem s i)
theorem d_item_exists (T : Txt K mg c) (D0 : Def0 K mg "item_exists" s_item_exists ["store", "item"]) : DefAt P w K mg base 1 "item_exists" ["store", "item"] (rdV (p_item_exists c)) := by
  refine DefAt.of D0 sc_item_exists (fun vs H Q E h => ?_) (fun f cdv A outer s H vs Q E hr h => ?_)
  · obtain ⟨xs, ⟨a, L, s, m, rfl, _⟩, _⟩ := h
    rfl
  · obtain ⟨xs, ⟨a, L, st, i, rfl, S, rfl⟩, k⟩ := h
    exact ⟨_, (pss_one (ps_ret (pe_cmpR op_lt (pv 1) (pe_callB call_len_seq (by rfl) T.b_len PySem.boot_len (pa_cons (fK (K := K) (pv 0)) pa_nil)) (nomark _)))), s_ret (ev_op (ev_var rfl) (ev_lenX (ev_shelf T S (ev_var rfl)) (sq_of S.sh) (by rw [List.length_map, S.ilen])) rv_ltN) k⟩
theorem ev_hasItem {σ : L2.St} {H : Hp} {E : XK} {ta : TA} {a : Addr} {L : Lay} {s : Kp427.Store} {i : Nat} (S : StE c H a L s) (h : EvA ta σ H [.ref a, nV i]) : Ev (tCall (rdV (p_item_exists c)) [] E ta) σ H (.bl (Kp427.hasItem s i)) :=
  ev_callD h fun H1 e => ⟨a, L, s, i, rfl, S.ex e, rfl⟩
abbrev s_member_exists : Stmt := top 40
abbrev n_member_exists : List Str := ["store", "member"]
theorem sc_member_exists : FnScope n_member_exists ["store", "member"] (defScope s_member_exists) := ⟨rfl, rfl, rfl, by decide +kernel, rfl, by decide +kernel, by decide +kernel⟩
def p_member_exists (c : Adr) (vs : List V) (H : Hp) (z : V) : Prop := ∃ (a : Addr) (L : Lay) (s : Kp427.Store) (m : Nat), vs = [.ref a, nV m] ∧ StL c H a L s ∧ z = .bl (Kp427.hasMember s m)
theorem ev_din {K : PySem.W.Frag} {σ : L2.St} {H : Hp} {ta tb : TE} {p : Addr} {kvs : List (Key × V)} {k : Key} (ha : Ev ta σ H (kV k)) (hb : Ev tb σ H (.ref p)) (h : H p = some (.dK kvs)) : Ev (tDIn ta tb) σ H (.bl (valV kvs k).isSome) := fun H1 e Q q =>
  ha H1 e _ fun H2 e2 => hb H2 (e.trans e2) _ fun H3 e3 => ⟨p, _, rfl, DGet.k (((e.trans e2).trans e3) _ _ h), q H3 (e2.trans e3)⟩
theorem d_member_exists (T : Txt K mg c) (D0 : Def0 K mg "member_exists" s_member_exists ["store", "member"]) : DefAt P w K mg base 1 "member_exists" ["store", "member"] (rdV (p_member_exists c)) := by
  refine DefAt.of D0 sc_member_exists (fun vs H Q E h => ?_) (fun f cdv A outer s H vs Q E hr h => ?_)
  · obtain ⟨xs, ⟨a, L, s, m, rfl, _⟩, _⟩ := h
    rfl
  · obtain ⟨xs, ⟨a, L, st, m, rfl, S, rfl⟩, k⟩ := h
    have hu := hu_of hr
    refine ⟨_, (pss_one (ps_ret (pe_cmp (pc_din hu (pv 1) (fK (K := K) (pv 0)))))), s_ret (v := .bl (Kp427.hasMember st m)) ?_ k⟩
    refine ev_is (ev_din (K := K) (k := keyN m) (ev_var rfl) (ev_members T S.toStE (ev_var rfl)) S.mb) ?_
    rw [valV_mb]
    unfold Kp427.hasMember
    rw [Option.isSome_map]
theorem ev_hasMember {σ : L2.St} {H : Hp} {E : XK} {ta : TA} {a : Addr} {L : Lay} {s : Kp427.Store} {i : Nat} (S : StL c H a L s) (h : EvA ta σ H [.ref a, nV i]) : Ev (tCall (rdV (p_member_exists c)) [] E ta) σ H (.bl (Kp427.hasMember s i)) :=
  ev_callD h fun H1 e => ⟨a, L, s, i, rfl, S.ex e, rfl⟩
/-- an item's attributes -/
theorem ev_itF {σ : L2.St} {H : Hp} {te : TE} {t : Addr × Addr × Kp427.Item} {f : Str} {v : V} (T : Txt K mg c) (x : ItAt c H t) (h : Ev te σ H (.ref t.1)) (hn : NoAttr K c.I f) (hl : (itF t.2.1 t.2.2).lookup f = some v) : Ev (tFld K te f) σ H v := by
  obtain ⟨dx, ho⟩ := x.ob
  exact ev_fld h ho T.clI hn hl
abbrev s_is_available : Stmt := top 41
abbrev n_is_available : List Str := ["store", "item"]
theorem sc_is_available : FnScope n_is_available ["store", "item"] (defScope s_is_available) := ⟨rfl, rfl, rfl, by decide +kernel, rfl, by decide +kernel, by decide +kernel⟩
def p_is_available (c : Adr) (vs : List V) (H : Hp) (z : V) : Prop := ∃ (a : Addr) (L : Lay) (s : Kp427.Store) (i : Nat), vs = [.ref a, nV i] ∧ StE c H a L s ∧ i < s.items.length ∧ z = .bl (!(Kp427.itemAt s i).withdrawn)
theorem d_is_available (T : Txt K mg c) (D0 : Def0 K mg "is_available" s_is_available ["store", "item"]) : DefAt P w K mg base 1 "is_available" ["store", "item"] (rdV (p_is_available c)) := by
  refine DefAt.of D0 sc_is_available (fun vs H Q E h => ?_) (fun f cdv A outer s H vs Q E hr h => ?_)
  · obtain ⟨xs, ⟨a, L, s, m, rfl, _⟩, _⟩ := h
    rfl
  · obtain ⟨xs, ⟨a, L, st, i, rfl, S, hi, rfl⟩, k⟩ := h
    obtain ⟨t, h1, h2, h3⟩ := S.it_at hi
    refine ⟨_, (pss_one (ps_ret (pe_cmpR op_eq (fK (K := K) (ixK (K := K) (fK (K := K) (pv 0)) (pv 1))) pe_int (nomark _)))), s_ret (v := .bl (!(Kp427.itemAt st i).withdrawn)) ?_ k⟩
    refine ev_is (ev_op (ev_itF T (S.it t h2) (ev_ixM (r := fun (t : Addr × Addr × Kp427.Item) => V.ref t.1) (ev_shelf T S (ev_var rfl)) (ev_var rfl) (sq_of S.sh) h1) T.iWithdrawn rfl) (ev_n 0) rv_eqN) ?_
    rw [h3]
    cases (Kp427.itemAt st i).withdrawn <;> rfl
theorem ev_isAvailable {σ : L2.St} {H : Hp} {E : XK} {ta : TA} {a : Addr} {L : Lay} {s : Kp427.Store} {i : Nat} (S : StE c H a L s) (hi : i < s.items.length) (h : EvA ta σ H [.ref a, nV i]) : Ev (tCall (rdV (p_is_available c)) [] E ta) σ H (.bl (!(Kp427.itemAt s i).withdrawn)) :=
  ev_callD h fun H1 e => ⟨a, L, s, i, rfl, S.ex e, hi, rfl⟩
abbrev s_item_data : Stmt := top 42
abbrev n_item_data : List Str := ["store", "item", "shown"]
theorem sc_item_data : FnScope n_item_data ["store", "item"] (defScope s_item_data) := ⟨rfl, rfl, rfl, by decide +kernel, rfl, by decide +kernel, by decide +kernel⟩
def p_item_data (c : Adr) (vs : List V) (H : Hp) (xs : List V) : Prop := ∃ (a : Addr) (L : Lay) (s : Kp427.Store) (i : Nat), vs = [.ref a, nV i] ∧ StE c H a L s ∧ i < s.items.length ∧ xs = (Kp427.itemNumbers (Kp427.itemAt s i)).map nV
theorem d_item_data (T : Txt K mg c) (D0 : Def0 K mg "item_data" s_item_data ["store", "item"]) : DefAt P w K mg base 1 "item_data" ["store", "item"] (rdL (p_item_data c)) := by
  refine DefAt.of D0 sc_item_data (fun vs H Q E h => ?_) (fun f cdv A outer s H vs Q E hr h => ?_)
  · obtain ⟨xs, ⟨a, L, s, m, rfl, _⟩, _⟩ := h
    rfl
  · obtain ⟨xs, ⟨a, L, st, i, rfl, S, hi, rfl⟩, k⟩ := h
    obtain ⟨t, h1, h2, h3⟩ := S.it_at hi
    refine ⟨_, (pss_cons (ps_set (i := 2) sc_item_data.nd rfl (Or.inl rfl) (ixK (K := K) (fK (K := K) (pv 0)) (pv 1))) (pss_one (ps_ret (pe_op op_cat (pe_lst (pa_cons (fK (K := K) (pv 2)) (pa_cons (fK (K := K) (pv 2)) (pa_cons (fK (K := K) (pv 2)) (pa_cons (fK (K := K) (pv 2)) (pa_cons (pe_callB call_len_seq (by rfl) T.b_len PySem.boot_len (pa_cons (fK (K := K) (pv 2)) pa_nil)) pa_nil)))))) (fK (K := K) (pv 2)))))), ?_⟩
    refine q_asg (v := .ref t.1) (ev_ixM (r := fun (t : Addr × Addr × Kp427.Item) => V.ref t.1) (ev_shelf T S (ev_var rfl)) (ev_var rfl) (sq_of S.sh) h1) fun H1 e1 => ?_
    have x := (S.it t h2).ex e1
    have hc : t.2.2.categories.length ≤ 4 := (S.good.icat t.2.2 (by rw [S.its]; exact List.mem_map_of_mem h2)).1
    refine s_retL (xs := (Kp427.itemNumbers (Kp427.itemAt st i)).map nV) ?_ fun p H2 hp e2 h2 => k p H2 (fresh_back e1 hp) (e1.trans e2) h2
    refine el_is (el_cat (el_lst (ea_cons (ev_itF T x (ev_var rfl) T.iCreator rfl) (ea_cons (ev_itF T x (ev_var rfl) T.iPrice rfl) (ea_cons (ev_itF T x (ev_var rfl) T.iDay rfl) (ea_cons (ev_itF T x (ev_var rfl) T.iWithdrawn rfl)
      (ea_cons (ev_lenM (ev_itF T x (ev_var rfl) T.iCategories rfl) (sq_of x.ca)) ea_nil))))) (by show 5 ≤ 100000; decide)) (ev_itF T x (ev_var rfl) T.iCategories rfl) x.ca ?_) ?_
    · rw [List.length_map]
      show 5 + _ ≤ 100000
      omega
    · rw [← h3]
      unfold Kp427.itemNumbers flagN
      rw [List.map_append]
      rfl
abbrev s_events_between : Stmt := top 43
abbrev n_events_between : List Str := ["store", "low", "high", "event"]
theorem sc_events_between : FnScope n_events_between ["store", "low", "high"] (defScope s_events_between) := ⟨rfl, rfl, rfl, by decide +kernel, rfl, by decide +kernel, by decide +kernel⟩
def p_events_between (c : Adr) (vs : List V) (H : Hp) (xs : List V) : Prop := ∃ (a : Addr) (L : Lay) (s : Kp427.Store) (lo hi : Nat), vs = [.ref a, nV lo, nV hi] ∧ StE c H a L s ∧ xs = evV (L.evs.filter fun e => Kp427.isBetween lo hi e.2)
theorem d_events_between (T : Txt K mg c) (D0 : Def0 K mg "events_between" s_events_between ["store", "low", "high"]) : DefAt P w K mg base 1 "events_between" ["store", "low", "high"] (rdL (p_events_between c)) := by
  refine DefAt.of D0 sc_events_between (fun vs H Q E h => ?_) (fun f cdv A outer s H vs Q E hr h => ?_)
  · obtain ⟨xs, ⟨a, L, s, m, m2, rfl, _⟩, _⟩ := h
    rfl
  · obtain ⟨xs, ⟨a, L, st, lo, hi, rfl, S, rfl⟩, k⟩ := h
    refine ⟨_, (pss_one (ps_ret (pe_lc (own := [("event", 3)]) (g := gName 3) rfl sc_events_between.nd (piK (K := K) (fK (K := K) (pv 0))) (blkOk_by (own := [("event", 3)]) (N := n_events_between) (sc := defScope s_events_between) (by decide +kernel)) (fun _ _ _ _ _ => pg_name (i := 3) sc_events_between.nd rfl (Or.inl rfl)) (fun _ _ _ _ _ => (pts_one (PW.pt (pw_and (pt_cmpR op_ge (fK (K := K) (pv 3)) (pv 1) (nomark _)) (pw_and1 (pt_cmpR op_lt (fK (K := K) (pv 3)) (pv 2) (nomark _))))))) (fun _ _ _ _ _ => (pv 3))))), ?_⟩
    refine s_retL (xs := evV (L.evs.filter fun e => Kp427.isBetween lo hi e.2)) ?_ k
    have l200 := S.elen200
    refine el_comp (ys := L.evs) (r := fun e => V.ref e.1) (fun e => Kp427.isBetween lo hi e.2) (fun e => V.ref e.1) (ev_events T S (ev_var rfl)) (sq_of S.ev) (by omega) (fun _ => rfl) ?_ ?_
    · intro y H1 e my
      have x := (S.evs y my).ex e
      exact et_and (et_test (ev_op (ev_time T x (ev_var rfl)) (ev_var rfl) rv_geN)) fun _ => et_test (ev_op (ev_time T x (ev_var rfl)) (ev_var rfl) rv_ltN)
    · intro y H1 e my _
      exact ev_var rfl
abbrev s_events_of : Stmt := top 44
abbrev n_events_of : List Str := ["store", "member", "event"]
theorem sc_events_of : FnScope n_events_of ["store", "member"] (defScope s_events_of) := ⟨rfl, rfl, rfl, by decide +kernel, rfl, by decide +kernel, by decide +kernel⟩
def p_events_of (c : Adr) (vs : List V) (H : Hp) (xs : List V) : Prop := ∃ (a : Addr) (L : Lay) (s : Kp427.Store) (m : Nat), vs = [.ref a, nV m] ∧ StE c H a L s ∧ xs = evV (L.evs.filter fun e => e.2.member == m)
theorem d_events_of (T : Txt K mg c) (D0 : Def0 K mg "events_of" s_events_of ["store", "member"]) : DefAt P w K mg base 1 "events_of" ["store", "member"] (rdL (p_events_of c)) := by
  refine DefAt.of D0 sc_events_of (fun vs H Q E h => ?_) (fun f cdv A outer s H vs Q E hr h => ?_)
  · obtain ⟨xs, ⟨a, L, s, m, rfl, _⟩, _⟩ := h
    rfl
  · obtain ⟨xs, ⟨a, L, st, m, rfl, S, rfl⟩, k⟩ := h
    refine ⟨_, (pss_one (ps_ret (pe_lc (own := [("event", 2)]) (g := gName 2) rfl sc_events_of.nd (piK (K := K) (fK (K := K) (pv 0))) (blkOk_by (own := [("event", 2)]) (N := n_events_of) (sc := defScope s_events_of) (by decide +kernel)) (fun _ _ _ _ _ => pg_name (i := 2) sc_events_of.nd rfl (Or.inl rfl)) (fun _ _ _ _ _ => (pts_one (pt_cmpR op_eq (fK (K := K) (pv 2)) (pv 1) (nomark _)))) (fun _ _ _ _ _ => (pv 2))))), ?_⟩
    refine s_retL (xs := evV (L.evs.filter fun e => e.2.member == m)) ?_ k
    have l200 := S.elen200
    refine el_comp (ys := L.evs) (r := fun e => V.ref e.1) (fun e => e.2.member == m) (fun e => V.ref e.1) (ev_events T S (ev_var rfl)) (sq_of S.ev) (by omega) (fun _ => rfl) ?_ ?_
    · intro y H1 e my
      exact et_test (ev_op (ev_member T ((S.evs y my).ex e) (ev_var rfl)) (ev_var rfl) rv_eqN)
    · intro y H1 e my _
      exact ev_var rfl
theorem getLast_at {α : Type} (l : List α) (h : 0 < l.length) : l[l.length - 1]? = l.getLast? := by rw [List.getLast?_eq_getElem?]
abbrev s_last_time : Stmt := top 45
abbrev n_last_time : List Str := ["store"]
theorem sc_last_time : FnScope n_last_time ["store"] (defScope s_last_time) := ⟨rfl, rfl, rfl, by decide +kernel, rfl, by decide +kernel, by decide +kernel⟩
def p_last_time (c : Adr) (vs : List V) (H : Hp) (z : V) : Prop := ∃ (a : Addr) (L : Lay) (s : Kp427.Store), vs = [.ref a] ∧ StE c H a L s ∧ z = nV (Kp427.lastTime s)
theorem d_last_time (T : Txt K mg c) (D0 : Def0 K mg "last_time" s_last_time ["store"]) : DefAt P w K mg base 1 "last_time" ["store"] (rdV (p_last_time c)) := by
  refine DefAt.of D0 sc_last_time (fun vs H Q E h => ?_) (fun f cdv A outer s H vs Q E hr h => ?_)
  · obtain ⟨xs, ⟨a, L, s, rfl, _⟩, _⟩ := h
    rfl
  · obtain ⟨xs, ⟨a, L, st, rfl, S, rfl⟩, k⟩ := h
    refine ⟨_, (pss_one (ps_ret (pe_ifExp (pt_cmpR op_gt (pe_callB call_len_seq (by rfl) T.b_len PySem.boot_len (pa_cons (fK (K := K) (pv 0)) pa_nil)) pe_int (nomark _)) (fK (K := K) (ixK (K := K) (fK (K := K) (pv 0)) (pe_op op_sub (pe_callB call_len_seq (by rfl) T.b_len PySem.boot_len (pa_cons (fK (K := K) (pv 0)) pa_nil)) pe_int))) pe_int))), s_ret (v := nV (Kp427.lastTime st)) ?_ k⟩
    refine ev_if (b := decide (0 < L.evs.length)) (et_test (ev_op (ev_lenM (ev_events T S (ev_var rfl)) (sq_of S.ev)) (ev_n 0) rv_gtN)) (fun hb => ?_) fun hb => ?_
    · have h0 : 0 < L.evs.length := of_decide_eq_true hb
      have hx : L.evs[L.evs.length - 1]? = some (L.evs[L.evs.length - 1]'(by omega)) := List.getElem?_eq_getElem (by omega)
      have my := List.mem_of_getElem? hx
      refine ev_is (ev_time T (S.evs _ my) (ev_ixM (r := fun (e : Addr × Kp427.Event) => V.ref e.1) (ev_events T S (ev_var rfl)) (ev_op (ev_lenM (ev_events T S (ev_var rfl)) (sq_of S.ev)) (ev_n 1) (rv_subN (by omega))) (sq_of S.ev) hx)) ?_
      unfold Kp427.lastTime
      rw [S.eve, List.getLast?_map, ← getLast_at _ h0, hx]
      rfl
    · have h0 : L.evs = [] := List.length_eq_zero_iff.mp (by have := of_decide_eq_false hb; omega)
      refine ev_is (ev_n 0) ?_
      unfold Kp427.lastTime
      rw [S.eve, h0]
      rfl
end
end Shelf
end

section
set_option maxHeartbeats 4000000
namespace Shelf
open PySem PySem.Spec PyProof.Rows L2 Evl
/-! ### mathematics: increasing lists by their places -/
theorem incr_iff : ∀ l : List Nat, Kp427.increasing l = true ↔ ∀ j, j + 1 < l.length → ∀ x y, l[j]? = some x → l[j + 1]? = some y → x < y
  | [] => by simp [Kp427.increasing]
  | [a] => by simp [Kp427.increasing]
  | a :: b :: r => by
    have ih := incr_iff (b :: r)
    unfold Kp427.increasing
    rw [Bool.and_eq_true, ih, decide_eq_true_eq]
    constructor
    · rintro ⟨h1, h2⟩ j hj x y hx hy
      cases j with
      | zero =>
        simp at hx hy
        omega
      | succ j =>
        refine h2 j ?_ x y (by simpa using hx) (by simpa using hy)
        simp at hj ⊢
        omega
    · intro h
      refine ⟨h 0 (by simp) a b rfl rfl, fun j hj x y hx hy => h (j + 1) ?_ x y (by simpa using hx) (by simpa using hy)⟩
      simp at hj ⊢
      omega
theorem valid_iff (l : List Nat) : Kp427.validCategories l = true ↔ l.length ≤ 4 ∧ (∀ (j x : Nat), l[j]? = some x → x < 32) ∧ ∀ j, j + 1 < l.length → ∀ x y, l[j]? = some x → l[j + 1]? = some y → x < y := by
  unfold Kp427.validCategories
  rw [Bool.and_eq_true, Bool.and_eq_true, incr_iff, decide_eq_true_eq, List.all_eq_true]
  constructor
  · rintro ⟨⟨h1, h2⟩, h3⟩
    exact ⟨h1, fun j x hx => by exact of_decide_eq_true (h2 x (List.mem_of_getElem? hx)), h3⟩
  · rintro ⟨h1, h2, h3⟩
    refine ⟨⟨h1, fun x hx => ?_⟩, h3⟩
    obtain ⟨j, hj⟩ := List.getElem?_of_mem hx
    exact decide_eq_true (h2 j x hj)
theorem not_valid {l : List Nat} (h : ¬ (l.length ≤ 4 ∧ (∀ (j x : Nat), l[j]? = some x → x < 32) ∧ ∀ j, j + 1 < l.length → ∀ x y, l[j]? = some x → l[j + 1]? = some y → x < y)) : Kp427.validCategories l = false := by
  cases e : Kp427.validCategories l with
  | false => rfl
  | true => exact absurd ((valid_iff l).mp e) h
section
variable {P : Program} {w : World} {K : PySem.W.Frag} {mg : Str → Option Value} {base : Heap} {c : Adr}
/-- all of a list are at most n -/
theorem all_map_id {α : Type} (l : List α) (p : α → Bool) : (l.map p).all id = l.all p := by
  rw [List.all_map]
  rfl
abbrev s_weights_fit : Stmt := top 23
abbrev n_weights_fit : List Str := ["weights", "weight"]
theorem sc_weights_fit : FnScope n_weights_fit ["weights"] (defScope s_weights_fit) := ⟨rfl, rfl, rfl, by decide +kernel, rfl, by decide +kernel, by decide +kernel⟩
def p_weights_fit (vs : List V) (H : Hp) (z : V) : Prop := ∃ (p : Addr) (ns : List Nat), vs = [.ref p] ∧ H p = some (.lst (ns.map nV)) ∧ ns.length ≤ 1000 ∧ z = .bl (decide (ns.length = Kp427.kindCount) && ns.all fun w => decide (w ≤ 1000))
theorem d_weights_fit (T : Txt K mg c) (D0 : Def0 K mg "weights_fit" s_weights_fit ["weights"]) : DefAt P w K mg base 1 "weights_fit" ["weights"] (rdV p_weights_fit) := by
  refine DefAt.of D0 sc_weights_fit (fun vs H Q E h => ?_) (fun f cdv A outer s H vs Q E hr h => ?_)
  · obtain ⟨xs, ⟨p, ns, rfl, _⟩, _⟩ := h
    rfl
  · obtain ⟨xs, ⟨p, ns, rfl, hp, hl, rfl⟩, k⟩ := h
    refine ⟨_, (pss_one (ps_ret (pe_and (pe_cmpR op_eq (pe_callB call_len_seq (by rfl) T.b_len PySem.boot_len (pa_cons (pv 0) pa_nil)) (gI T.kKIND_COUNT) (nomark _)) (pe_one (pe_callB (cr_all rfl) (by rfl) T.b_all (by decide +kernel) (pa_cons (pe_lc (own := [("weight", 1)]) (g := gName 1) (tt := tYes) rfl sc_weights_fit.nd (piK (K := K) (pv 0)) (blkOk_by (own := [("weight", 1)]) (N := n_weights_fit) (sc := defScope s_weights_fit) (by decide +kernel)) (fun _ _ _ _ _ => pg_name (i := 1) sc_weights_fit.nd rfl (Or.inl rfl)) (fun _ _ _ _ _ => pts_nil) (fun _ _ _ _ _ => (pe_cmpR op_le (pv 1) (gI T.kMAX_WEIGHT) (nomark _)))) pa_nil)))))), s_ret (v := .bl (decide (ns.length = Kp427.kindCount) && ns.all fun w => decide (w ≤ 1000))) ?_ k⟩
    have e1 : decide (ns.length = Kp427.kindCount) = (ns.length == 6) := by
      show decide (ns.length = 6) = _
      exact (Bool.beq_eq_decide_eq ns.length 6).symm
    rw [e1]
    refine ev_andV (ev_op (ev_lenM (ev_var rfl) (sq_of hp)) (ev_n 6) rv_eqN) fun _ => ?_
    rw [← all_map_id]
    refine ev_all (el_is (el_comp (ys := ns) (r := nV) (fun _ => true) (fun x => .bl (decide (x ≤ 1000))) (ev_var rfl) (sq_of hp) (by omega) (fun _ => rfl) (fun y H1 e my => et_yes) fun y H1 e my _ => ?_) ?_)
    · exact ev_op (ev_var rfl) (ev_n 1000) rv_leN
    · rw [filter_true, List.map_map]
      rfl
abbrev s_kinds_fit : Stmt := top 27
abbrev n_kinds_fit : List Str := ["kinds", "kind"]
theorem sc_kinds_fit : FnScope n_kinds_fit ["kinds"] (defScope s_kinds_fit) := ⟨rfl, rfl, rfl, by decide +kernel, rfl, by decide +kernel, by decide +kernel⟩
def p_kinds_fit (vs : List V) (H : Hp) (z : V) : Prop := ∃ (p : Addr) (ns : List Nat), vs = [.ref p] ∧ H p = some (.lst (ns.map nV)) ∧ ns.length ≤ 1000 ∧ z = .bl (decide (1 ≤ ns.length) && (decide (ns.length ≤ 6) && ns.all fun w => decide (w < 6)))
theorem d_kinds_fit (T : Txt K mg c) (D0 : Def0 K mg "kinds_fit" s_kinds_fit ["kinds"]) : DefAt P w K mg base 1 "kinds_fit" ["kinds"] (rdV p_kinds_fit) := by
  refine DefAt.of D0 sc_kinds_fit (fun vs H Q E h => ?_) (fun f cdv A outer s H vs Q E hr h => ?_)
  · obtain ⟨xs, ⟨p, ns, rfl, _⟩, _⟩ := h
    rfl
  · obtain ⟨xs, ⟨p, ns, rfl, hp, hl, rfl⟩, k⟩ := h
    refine ⟨_, (pss_one (ps_ret (pe_and (pe_cmpR op_ge (pe_callB call_len_seq (by rfl) T.b_len PySem.boot_len (pa_cons (pv 0) pa_nil)) pe_int (nomark _)) (pe_and (pe_cmpR op_le (pe_callB call_len_seq (by rfl) T.b_len PySem.boot_len (pa_cons (pv 0) pa_nil)) (gI T.kMAX_STEPS) (nomark _)) (pe_one (pe_callB (cr_all rfl) (by rfl) T.b_all (by decide +kernel) (pa_cons (pe_lc (own := [("kind", 1)]) (g := gName 1) (tt := tYes) rfl sc_kinds_fit.nd (piK (K := K) (pv 0)) (blkOk_by (own := [("kind", 1)]) (N := n_kinds_fit) (sc := defScope s_kinds_fit) (by decide +kernel)) (fun _ _ _ _ _ => pg_name (i := 1) sc_kinds_fit.nd rfl (Or.inl rfl)) (fun _ _ _ _ _ => pts_nil) (fun _ _ _ _ _ => (pe_cmpR op_lt (pv 1) (gI T.kKIND_COUNT) (nomark _)))) pa_nil))))))), s_ret (v := .bl (decide (1 ≤ ns.length) && (decide (ns.length ≤ 6) && ns.all fun w => decide (w < 6)))) ?_ k⟩
    refine ev_andV (ev_op (ev_lenM (ev_var rfl) (sq_of hp)) (ev_n 1) rv_geN) fun _ => ev_andV (ev_op (ev_lenM (ev_var rfl) (sq_of hp)) (ev_n 6) rv_leN) fun _ => ?_
    rw [← all_map_id]
    refine ev_all (el_is (el_comp (ys := ns) (r := nV) (fun _ => true) (fun x => .bl (decide (x < 6))) (ev_var rfl) (sq_of hp) (by omega) (fun _ => rfl) (fun y H1 e my => et_yes) fun y H1 e my _ => ?_) ?_)
    · exact ev_op (ev_var rfl) (ev_n 6) rv_ltN
    · rw [filter_true, List.map_map]
      rfl
abbrev s_time_and_span_fit : Stmt := top 26
abbrev n_time_and_span_fit : List Str := ["time", "span"]
theorem sc_time_and_span_fit : FnScope n_time_and_span_fit ["time", "span"] (defScope s_time_and_span_fit) := ⟨rfl, rfl, rfl, by decide +kernel, rfl, by decide +kernel, by decide +kernel⟩
def p_time_and_span_fit (vs : List V) (_ : Hp) (z : V) : Prop := ∃ (t n : Nat), vs = [nV t, nV n] ∧ z = .bl (Kp427.validTime t && decide (1 ≤ n))
theorem d_time_and_span_fit (T : Txt K mg c) (D0 : Def0 K mg "time_and_span_fit" s_time_and_span_fit ["time", "span"]) : DefAt P w K mg base 1 "time_and_span_fit" ["time", "span"] (rdV p_time_and_span_fit) := by
  refine DefAt.of D0 sc_time_and_span_fit (fun vs H Q E h => ?_) (fun f cdv A outer s H vs Q E hr h => ?_)
  · obtain ⟨xs, ⟨p, ns, rfl, _⟩, _⟩ := h
    rfl
  · obtain ⟨xs, ⟨t, n, rfl, rfl⟩, k⟩ := h
    exact ⟨_, (pss_one (ps_ret (pe_and (pe_cmpR op_le (pv 0) (gI T.kMAX_TIME) (nomark _)) (pe_one (pe_cmpR op_ge (pv 1) pe_int (nomark _)))))), s_ret (ev_andV (ev_op (ev_var rfl) (ev_n 100000000) rv_leN) fun _ => ev_op (ev_var rfl) (ev_n 1) rv_geN) k⟩
abbrev s_value_fits : Stmt := top 25
abbrev n_value_fits : List Str := ["kind", "value"]
theorem sc_value_fits : FnScope n_value_fits ["kind", "value"] (defScope s_value_fits) := ⟨rfl, rfl, rfl, by decide +kernel, rfl, by decide +kernel, by decide +kernel⟩
def p_value_fits (vs : List V) (_ : Hp) (z : V) : Prop := ∃ (kd v : Nat), vs = [nV kd, nV v] ∧ z = .bl (Kp427.validEvent kd v)
theorem d_value_fits (T : Txt K mg c) (D0 : Def0 K mg "value_fits" s_value_fits ["kind", "value"]) : DefAt P w K mg base 1 "value_fits" ["kind", "value"] (rdV p_value_fits) := by
  refine DefAt.of D0 sc_value_fits (fun vs H Q E h => ?_) (fun f cdv A outer s H vs Q E hr h => ?_)
  · obtain ⟨xs, ⟨p, ns, rfl, _⟩, _⟩ := h
    rfl
  · obtain ⟨xs, ⟨kd, v, rfl, rfl⟩, k⟩ := h
    refine ⟨_, (pss_cons (ps_if (pt_cmpR op_ge (pv 0) (gI T.kKIND_COUNT) (nomark _)) (pss_one (ps_ret pe_bl)) pss_nil) (pss_cons (ps_if (pt_cmpR op_eq (pv 0) (gI T.kRATING) (nomark _)) (pss_one (ps_ret (pe_and (pe_cmpR op_ge (pv 1) pe_int (nomark _)) (pe_one (pe_cmpR op_le (pv 1) (gI T.kMAX_RATING) (nomark _)))))) pss_nil) (pss_one (ps_ret (pe_cmpR op_eq (pv 1) pe_int (nomark _)))))), ?_⟩
    refine q_when (b := decide (6 ≤ kd)) (et_test (ev_op (ev_var rfl) (ev_n 6) rv_geN)) (fun hb H1 e1 => ?_) fun hb H1 e1 => ?_
    · refine s_ret ev_c fun H2 e2 => ?_
      have z : Kp427.validEvent kd v = false := by
        unfold Kp427.validEvent Kp427.kindCount
        rw [decide_eq_false (by have := of_decide_eq_true hb; omega), Bool.false_and]
      have q := k H2 (e1.trans e2)
      rw [z] at q
      exact q
    have hk : kd < 6 := by have := of_decide_eq_false hb; omega
    have z : Kp427.validEvent kd v = if kd = 3 then decide (1 ≤ v) && decide (v ≤ 10) else v == 0 := by
      unfold Kp427.validEvent Kp427.kindCount
      rw [decide_eq_true hk, Bool.true_and]
    rw [z] at k
    refine q_when (b := kd == 3) (et_test (ev_op (ev_var rfl) (ev_n 3) rv_eqN)) (fun hb H2 e2 => ?_) fun hb H2 e2 => ?_
    · rw [if_pos (beq_iff_eq.mp hb)] at k
      refine s_ret (ev_andV (ev_op (ev_var rfl) (ev_n 1) rv_geN) fun _ => ev_op (ev_var rfl) (ev_n 10) rv_leN) fun H3 e3 => k H3 ((e1.trans e2).trans e3)
    · rw [if_neg (beq_eq_false_iff_ne.mp hb)] at k
      exact s_ret (ev_op (ev_var rfl) (ev_n 0) rv_eqN) fun H3 e3 => k H3 ((e1.trans e2).trans e3)
abbrev s_categories_fit : Stmt := top 24
abbrev n_categories_fit : List Str := ["categories", "place"]
theorem sc_categories_fit : FnScope n_categories_fit ["categories"] (defScope s_categories_fit) := ⟨rfl, rfl, rfl, by decide +kernel, rfl, by decide +kernel, by decide +kernel⟩
def p_categories_fit (vs : List V) (H : Hp) (z : V) : Prop := ∃ (p : Addr) (ns : List Nat), vs = [.ref p] ∧ H p = some (.lst (ns.map nV)) ∧ z = .bl (Kp427.validCategories ns)
theorem d_categories_fit (T : Txt K mg c) (D0 : Def0 K mg "categories_fit" s_categories_fit ["categories"]) : DefAt P w K mg base 1 "categories_fit" ["categories"] (rdV p_categories_fit) := by
  refine DefAt.of D0 sc_categories_fit (fun vs H Q E h => ?_) (fun f cdv A outer s H vs Q E hr h => ?_)
  · obtain ⟨xs, ⟨p, ns, rfl, _⟩, _⟩ := h
    rfl
  · obtain ⟨xs, ⟨p, ns, rfl, hp, rfl⟩, k⟩ := h
    refine ⟨_, (pss_cons (ps_if (pt_cmpR op_gt (pe_callB call_len_seq (by rfl) T.b_len PySem.boot_len (pa_cons (pv 0) pa_nil)) (gI T.kMAX_CATEGORIES_OF_ITEM) (nomark _)) (pss_one (ps_ret pe_bl)) pss_nil) (pss_cons (ps_for PassesOwn.never rfl (pi_range1 rfl T.b_range (pa_cons (pe_callB call_len_seq (by rfl) T.b_len PySem.boot_len (pa_cons (pv 0) pa_nil)) pa_nil)) (pg_name (i := 1) sc_categories_fit.nd rfl (Or.inl rfl)) (pss_cons (ps_if (pt_cmpR op_ge (ixK (K := K) (pv 0) (pv 1)) (gI T.kCATEGORY_COUNT) (nomark _)) (pss_one (ps_ret pe_bl)) pss_nil) (pss_one (ps_if (PW.pt (pw_and (pt_cmpR op_gt (pv 1) pe_int (nomark _)) (pw_and1 (pt_cmpR op_ge (ixK (K := K) (pv 0) (pe_op op_sub (pv 1) pe_int)) (ixK (K := K) (pv 0) (pv 1)) (nomark _))))) (pss_one (ps_ret pe_bl)) pss_nil)))) (pss_one (ps_ret pe_bl)))), ?_⟩
    refine q_when (b := decide (4 < ns.length)) (et_test (ev_op (ev_lenM (ev_var rfl) (sq_of hp)) (ev_n 4) rv_gtN)) (fun hb H1 e1 => ?_) fun hb H1 e1 => ?_
    · have hb' := of_decide_eq_true hb
      have z := not_valid (l := ns) (fun h => by omega)
      rw [z] at k
      exact s_ret ev_c fun H2 e2 => k H2 (e1.trans e2)
    have hl : ns.length ≤ 4 := by have := of_decide_eq_false hb; omega
    refine q_forR1 (j := 1) (n := (ns.length : Int)) (ea_cons (ev_lenM (ev_var rfl) (sq_of (e1 _ _ hp))) ea_nil) ⟨by omega, by omega⟩
      (fun i σ' H' => ∃ v, σ' = [some (.ref p), v] ∧ Ex H H' ∧ (∀ j x, j < i → ns[j]? = some x → x < 32) ∧ ∀ j, j + 1 < i → ∀ x y, ns[j]? = some x → ns[j + 1]? = some y → x < y)
      (fun H2 e2 => ⟨none, rfl, e1.trans e2, fun j x h _ => absurd h (by omega), fun j h => absurd h (by omega)⟩) ?_ ?_
    · rintro i σ' H' hi ⟨v, rfl, e', h1, h2⟩
      have hi' : i < ns.length := by omega
      have gi : ns[i]? = some ns[i] := List.getElem?_eq_getElem hi'
      have q : SqL K H' p (ns.map nV) := sq_of (e' _ _ hp)
      refine q_when (b := decide (32 ≤ ns[i])) (et_test (ev_op (ev_ixM (n := i) (ev_var rfl) (ev_var rfl) q gi) (ev_n 32) rv_geN)) (fun hb H2 e2 => ?_) fun hb H2 e2 => ?_
      · have hb' := of_decide_eq_true hb
        have z := not_valid (l := ns) (fun h => by have := h.2.1 i _ gi; omega)
        rw [z] at k
        exact s_ret ev_c fun H3 e3 => k H3 ((e'.trans e2).trans e3)
      have h32 : ns[i] < 32 := by have := of_decide_eq_false hb; omega
      have q2 : SqL K H2 p (ns.map nV) := sq_of (e2 _ _ (e' _ _ hp))
      have h1' : ∀ j x, j < i + 1 → ns[j]? = some x → x < 32 := fun j x hj hx => by
        by_cases e : j = i
        · subst e
          rw [gi] at hx
          have := Option.some.inj hx
          omega
        · exact h1 j x (by omega) hx
      by_cases h0 : 0 < i
      · obtain ⟨u, gp⟩ : ∃ u, ns[i - 1]? = some u := ⟨_, List.getElem?_eq_getElem (by omega)⟩
        refine s_when (b := decide (0 < i) && decide (ns[i] ≤ u)) (et_and (et_test (ev_op (ev_var rfl) (ev_n 0) (rv_gtN (a := i) (b := 0)))) fun _ =>
          et_test (ev_op (ev_ixM (ev_var rfl) (ev_op (ev_var rfl) (ev_n 1) (rv_subN (a := i) (b := 1) (by omega))) q2 gp) (ev_ixM (n := i) (ev_var rfl) (ev_var rfl) q2 gi) rv_geN)) (fun hb H3 e3 => ?_) fun hb H3 e3 => ?_
        · rw [Bool.and_eq_true] at hb
          have hb' := of_decide_eq_true hb.2
          have z := not_valid (l := ns) (fun h => by
            have := h.2.2 (i - 1) (by omega) _ _ gp (by rw [Nat.sub_add_cancel h0]; exact gi)
            omega)
          rw [z] at k
          exact s_ret ev_c fun H4 e4 => k H4 (((e'.trans e2).trans e3).trans e4)
        · rw [decide_eq_true h0, Bool.true_and] at hb
          have hb' := of_decide_eq_false hb
          refine ⟨_, rfl, (e'.trans e2).trans e3, h1', fun j hj x y hx hy => ?_⟩
          by_cases e : j + 1 = i
          · subst e
            have e1 := Option.some.inj (hx.symm.trans gp)
            have e2 := Option.some.inj (hy.symm.trans gi)
            omega
          · exact h2 j (by omega) x y hx hy
      · have hi0 : i = 0 := by omega
        subst hi0
        refine s_when (b := false) (et_is (et_and (a := decide (0 < 0)) (b := true) (et_test (ev_op (ev_var rfl) (ev_n 0) (rv_gtN (a := 0) (b := 0)))) fun h => absurd h (by decide)) rfl) (fun hb => Bool.noConfusion hb) fun _ H3 e3 => ?_
        exact ⟨_, rfl, (e'.trans e2).trans e3, h1', fun j hj => absurd hj (by omega)⟩
    · rintro σ' H' ⟨v, rfl, e', h1, h2⟩
      rw [Int.toNat_natCast] at h1 h2
      have z := (valid_iff ns).mpr ⟨hl, fun j x hx => h1 j x (List.getElem?_eq_some_iff.mp hx).1 hx, fun j hj => h2 j hj⟩
      rw [z] at k
      exact s_ret ev_c fun H3 e3 => k H3 (e'.trans e3)
end
end Shelf
end

section
set_option maxHeartbeats 4000000
namespace Shelf
open PySem PySem.Spec PyProof.Rows L2 Evl
/-! ### the different items of some events, rising -/
def metN (n : Nat) (es : List Kp427.Event) : List Nat := (List.range n).filter fun i => es.any fun e => e.item == i
theorem met_rise (n : Nat) (es : List Kp427.Event) : ((metN n es).map fun i : Nat => (i : Int)).Pairwise (· < ·) := by
  rw [List.pairwise_map]
  exact List.Pairwise.imp (fun {a b} (h : a < b) => by omega) (List.Pairwise.filter _ List.pairwise_lt_range)
theorem met_len (n : Nat) (es : List Kp427.Event) : (metN n es).length ≤ n := by
  unfold metN
  have h := List.length_filter_le (fun i => es.any fun e => e.item == i) (List.range n)
  rw [List.length_range] at h
  exact h
theorem mem_met {n : Nat} {es : List Kp427.Event} {i : Nat} : i ∈ metN n es ↔ i < n ∧ ∃ e ∈ es, e.item = i := by
  unfold metN
  rw [List.mem_filter, List.mem_range, List.any_eq_true]
  simp only [beq_iff_eq]
theorem rise_nodup {l : List Int} (h : l.Pairwise (· < ·)) : l.Nodup := List.Pairwise.imp (fun {a b} (h : a < b) => Int.ne_of_lt h) h
theorem map_nV (l : List Nat) : l.map nV = (l.map fun i : Nat => (i : Int)).map V.int := by
  rw [List.map_map]
  rfl
/-! ### tables over range n -/
theorem tab_set {β : Type} {n j : Nat} {f g : Nat → β} (h : ∀ k, k ≠ j → g k = f k) : ((List.range n).map f).set j (g j) = (List.range n).map g := by
  refine List.ext_getElem (by simp) fun k h1 h2 => ?_
  rw [List.getElem_set]
  split
  · rename_i e
    subst e
    simp
  · rename_i e
    simp only [List.getElem_map, List.getElem_range]
    exact (h k fun z => e z.symm).symm
theorem tab_get {β : Type} {n j : Nat} {f : Nat → β} (h : j < n) : ((List.range n).map f)[j]? = some (f j) := by
  rw [List.getElem?_map, List.getElem?_range h]
  rfl
theorem rep_tab {β : Type} (n : Nat) (x : β) : List.replicate n x = (List.range n).map fun _ => x := by
  rw [List.map_const', List.length_range]
section
variable {K : PySem.W.Frag} {w : World} {σ : L2.St} {H : Hp} {ta tb te : TE}
theorem el_rep {x : V} {n : Nat} (ha : EvL ta σ H [x]) (hb : Ev tb σ H (nV n)) (hn : n ≤ 1000) : EvL (tOp rRep ta tb) σ H (List.replicate n x) := fun H1 e Q q =>
  ha H1 e _ fun l H2 hl e2 h2 => hb H2 (e.trans e2) _ fun H3 e3 => ⟨l, (n : Int), [x], rfl, rfl, e3 _ _ h2, by omega, by omega, sz_of (by show 1 * _ ≤ 100000; rw [Int.toNat_natCast]; omega), fun p hp => by
    rw [Int.toNat_natCast, flatten_rep]
    exact q p _ (fresh_back e2 (fresh_back e3 hp)) ((e2.trans e3).trans (Ex.new hp)) upd_same⟩
/-- sorted(set(ints)) -/
theorem el_sortSet {ns R : List Int} (h : EvL te σ H (ns.map V.int)) (hl : ns.length ≤ 1000) (hR : R.Pairwise (· < ·)) (hm : ∀ k, k ∈ R ↔ k ∈ ns) (h64 : R.length < 64) :
    EvL (tCB (rSortedSet w) (tCons (tCB (rSetOf K w) (tCons te tNil)) tNil)) σ H (R.map V.int) := fun H1 e Q q =>
  h H1 e _ fun p H2 _ e2 h2 => ⟨p, ns, rfl, sq_of h2, hl, fun a n ⟨D, nd, len, mem⟩ ha => ⟨a, _, n, rfl, upd_same, by
    have z := nodup_le D R nd fun x hx => (hm x).mpr ((mem x).mp hx)
    omega, fun ns' b rise hk _ hb => by
      have e4 : ns' = R := rising_eq ns' R rise hR fun k => by rw [hk k, hm k, decide_eq_true_eq]
      subst e4
      exact q b _ (fresh_back e2 (fresh_back (Ex.new ha) hb)) ((e2.trans (Ex.new ha)).trans (Ex.new hb)) upd_same⟩⟩
end
section
variable {P : Program} {w : World} {K : PySem.W.Frag} {mg : Str → Option Value} {base : Heap} {c : Adr}
abbrev s_items_met : Stmt := top 46
abbrev n_items_met : List Str := ["events", "event"]
theorem sc_items_met : FnScope n_items_met ["events"] (defScope s_items_met) := ⟨rfl, rfl, rfl, by decide +kernel, rfl, by decide +kernel, by decide +kernel⟩
def p_items_met (c : Adr) (vs : List V) (H : Hp) (xs : List V) : Prop := ∃ (p : Addr) (es : EvL') (n : Nat), vs = [.ref p] ∧ H p = some (.lst (evV es)) ∧ Evs c.E H es ∧ (∀ e ∈ es, e.2.item < n) ∧ n ≤ 63 ∧ es.length ≤ 500 ∧ xs = (metN n (es.map (·.2))).map nV
theorem d_items_met (T : Txt K mg c) (D0 : Def0 K mg "items_met" s_items_met ["events"]) : DefAt P w K mg base 1 "items_met" ["events"] (rdL (p_items_met c)) := by
  refine DefAt.of D0 sc_items_met (fun vs H Q E h => ?_) (fun f cdv A outer s H vs Q E hr h => ?_)
  · obtain ⟨xs, ⟨p, es, n, rfl, _⟩, _⟩ := h
    rfl
  · obtain ⟨xs, ⟨p, es, n, rfl, hp, he, hn, h63, hl, rfl⟩, k⟩ := h
    refine ⟨_, (pss_one (ps_ret (pe_callB (cr_sortedSet rfl) (by rfl) T.b_sorted (by decide +kernel) (pa_cons (pe_callTy (cr_setL rfl) (by rfl) T.b_set (by decide +kernel) (pa_cons (pe_lc (own := [("event", 1)]) (g := gName 1) (tt := tYes) rfl sc_items_met.nd (piK (K := K) (pv 0)) (blkOk_by (own := [("event", 1)]) (N := n_items_met) (sc := defScope s_items_met) (by decide +kernel)) (fun _ _ _ _ _ => pg_name (i := 1) sc_items_met.nd rfl (Or.inl rfl)) (fun _ _ _ _ _ => pts_nil) (fun _ _ _ _ _ => (fK (K := K) (pv 1)))) pa_nil)) pa_nil)))), ?_⟩
    refine s_retL (xs := (metN n (es.map (·.2))).map nV) ?_ k
    rw [map_nV]
    refine el_sortSet (K := K) (w := w) (ns := es.map fun e => (e.2.item : Int)) (el_is (el_comp (ys := es) (r := fun e => V.ref e.1) (fun _ => true) (fun e => nV e.2.item) (ev_var rfl) (sq_of hp) (by omega) (fun _ => rfl) (fun y H1 e my => et_yes) fun y H1 e my _ => ?_) ?_) ?_ (met_rise _ _) ?_ ?_
    · exact ev_item T ((he y my).ex e) (ev_var rfl)
    · rw [filter_true, List.map_map]
      rfl
    · rw [List.length_map]
      omega
    · intro k
      simp only [List.mem_map, mem_met]
      constructor
      · rintro ⟨i, ⟨_, e, ⟨x, hx, rfl⟩, rfl⟩, rfl⟩
        exact ⟨x, hx, rfl⟩
      · rintro ⟨x, hx, rfl⟩
        exact ⟨_, ⟨hn x hx, _, ⟨x, hx, rfl⟩, rfl⟩, rfl⟩
    · rw [List.length_map]
      have := met_len n (es.map (·.2))
      omega
theorem el_itemsMet {σ : L2.St} {H : Hp} {E : XK} {ta : TA} {p : Addr} {es : EvL'} (n : Nat) (h : EvA ta σ H [.ref p]) (hp : H p = some (.lst (evV es))) (he : Evs c.E H es) (hn : ∀ e ∈ es, e.2.item < n) (h63 : n ≤ 63) (hl : es.length ≤ 500) :
    EvL (tCall (rdL (p_items_met c)) [] E ta) σ H ((metN n (es.map (·.2))).map nV) := el_callD h fun H1 e => ⟨p, es, n, rfl, e _ _ hp, he.ex e, hn, h63, hl, rfl⟩
theorem ea_new {σ : L2.St} {H : Hp} {te : TE} {xs : List V} (h : EvL te σ H xs) : EvA' (tCons te tNil) σ H (fun vs H2 => ∃ p r, vs = .ref p :: r ∧ H2 p = some (.lst xs) ∧ r = []) := ea_L h ea_nil'
/-- .. of a new list -/
theorem el_itemsMetN {σ : L2.St} {H : Hp} {E : XK} {te : TE} {es : EvL'} (n : Nat) (h : EvL te σ H (evV es)) (he : Evs c.E H es) (hn : ∀ e ∈ es, e.2.item < n) (h63 : n ≤ 63) (hl : es.length ≤ 500) :
    EvL (tCall (rdL (p_items_met c)) [] E (tCons te tNil)) σ H ((metN n (es.map (·.2))).map nV) := el_call' (ea_new h) fun vs H1 e ⟨p, r, e1, hp, e2⟩ => by
  subst e2
  subst e1
  exact rdL_sp fun H2 e2 => ⟨p, es, n, rfl, e2 _ _ hp, he.ex (e.trans e2), hn, h63, hl, rfl⟩
/-! ### counting kinds -/
theorem kinds_snoc (l : List Kp427.Event) (e : Kp427.Event) : (Kp427.countKinds (l ++ [e])) = (Kp427.countKinds l).set e.kind ((l.countP fun x => x.kind == e.kind) + 1) := by
  unfold Kp427.countKinds Kp427.kinds
  have h := tab_set (n := Kp427.kindCount) (j := e.kind) (f := fun k => l.countP fun x => x.kind == k) (g := fun k => (l ++ [e]).countP fun x => x.kind == k) fun k hk => by
    rw [List.countP_append]
    have : ([e].countP fun x => x.kind == k) = 0 := by
      rw [List.countP_cons, List.countP_nil, if_neg (by simpa using fun z => hk z.symm)]
    omega
  rw [← h, List.countP_append]
  have : ([e].countP fun x => x.kind == e.kind) = 1 := by
    rw [List.countP_cons, List.countP_nil, if_pos (by simp)]
  rw [this]
theorem kinds_get (l : List Kp427.Event) {k : Nat} (h : k < 6) : (Kp427.countKinds l)[k]? = some (l.countP fun x => x.kind == k) := tab_get (n := 6) h
theorem take_map_snoc {α β : Type} {f : α → β} {l : List α} {i : Nat} {x : α} (h : l[i]? = some x) : (l.take (i + 1)).map f = (l.take i).map f ++ [f x] := by
  rw [take_succ_get h, List.map_append]
  rfl
abbrev s_kinds_told : Stmt := top 57
abbrev n_kinds_told : List Str := ["events", "tally", "event"]
theorem sc_kinds_told : FnScope n_kinds_told ["events"] (defScope s_kinds_told) := ⟨rfl, rfl, rfl, by decide +kernel, rfl, by decide +kernel, by decide +kernel⟩
def p_kinds_told (c : Adr) (vs : List V) (H : Hp) (xs : List V) : Prop := ∃ (p : Addr) (es : EvL'), vs = [.ref p] ∧ H p = some (.lst (evV es)) ∧ Evs c.E H es ∧ (∀ e ∈ es, e.2.kind < 6) ∧ xs = (6 :: Kp427.countKinds (es.map (·.2))).map nV
theorem d_kinds_told (T : Txt K mg c) (D0 : Def0 K mg "kinds_told" s_kinds_told ["events"]) : DefAt P w K mg base 1 "kinds_told" ["events"] (rdL (p_kinds_told c)) := by
  refine DefAt.of D0 sc_kinds_told (fun vs H Q E h => ?_) (fun f cdv A outer s H vs Q E hr h => ?_)
  · obtain ⟨xs, ⟨p, es, rfl, _⟩, _⟩ := h
    rfl
  · obtain ⟨xs, ⟨p, es, rfl, hp, he, hk, rfl⟩, k⟩ := h
    refine ⟨_, (pss_cons (ps_set (i := 1) sc_kinds_told.nd rfl (Or.inl rfl) (pe_op op_rep (pe_lst (pa_cons pe_int pa_nil)) (gI T.kKIND_COUNT))) (pss_cons (ps_for PassesOwn.never rfl (piK (K := K) (pv 0)) (pg_name (i := 2) sc_kinds_told.nd rfl (Or.inl rfl)) (pss_one (ps_augS (pv 1) (fK (K := K) (pv 2)) get_list pe_int ip_add set_list))) (pss_one (ps_ret (pe_op op_cat (pe_lst (pa_cons (gI T.kKIND_COUNT) pa_nil)) (pv 1)))))), ?_⟩
    refine q_asgL (el_rep (x := nV 0) (n := 6) (el_lst (ea_cons (ev_n 0) ea_nil) (by show 1 ≤ 100000; decide)) (ev_n 6) (by decide)) fun t H1 ht e1 h1 => ?_
    refine q_forM (ys := es) (r := fun e => V.ref e.1) (ev_var rfl) (sq_of (e1 _ _ hp)) (fun i σ' H' => ∃ v, σ' = [some (.ref p), some (.ref t), v] ∧ Ex H H' ∧ H' t = some (.lst ((Kp427.countKinds ((es.take i).map (·.2))).map nV)))
      (fun H2 e2 => ⟨none, rfl, e1.trans e2, e2 _ _ h1⟩) (fun i σ' H' ⟨v, _, e, _⟩ => sq_of (e _ _ hp)) ?_ ?_
    · rintro i y σ' H' hy ⟨v, rfl, e, h2⟩
      have my := List.mem_of_getElem? hy
      have ky := hk y my
      refine s_augL (n := y.2.kind) (p := (((es.take i).map (·.2)).countP fun x => x.kind == y.2.kind : Nat)) (q := 1) h2 (ev_var rfl) (ev_kind T ((he y my).ex e) (ev_var rfl)) ?_ ev_c fun H2 e2 => ⟨_, rfl, (e.trans e2).mut ht, ?_⟩
      · rw [List.getElem?_map, kinds_get _ ky]
        rfl
      · rw [upd_same, take_map_snoc hy, kinds_snoc, List.map_set]
        rfl
    · rintro σ' H' ⟨v, rfl, e, h2⟩
      rw [List.take_length] at h2
      refine s_retL (el_cat (el_lst (ea_cons (ev_n 6) ea_nil) (by show 1 ≤ 100000; decide)) (ev_var rfl) h2 ?_) fun b H3 hb e3 h3 => k b H3 (fresh_back e hb) (e.trans e3) h3
      rw [List.length_map]
      show 1 + 6 ≤ 100000
      decide
theorem el_kindsN {σ : L2.St} {H : Hp} {E : XK} {te : TE} {es : EvL'} (h : EvL te σ H (evV es)) (he : Evs c.E H es) (hk : ∀ e ∈ es, e.2.kind < 6) : EvL (tCall (rdL (p_kinds_told c)) [] E (tCons te tNil)) σ H ((6 :: Kp427.countKinds (es.map (·.2))).map nV) :=
  el_call' (ea_new h) fun vs H1 e ⟨p, r, e1, hp, e2⟩ => by
    subst e2
    subst e1
    exact rdL_sp fun H2 e2 => ⟨p, es, rfl, e2 _ _ hp, he.ex (e.trans e2), hk, rfl⟩
end
end Shelf
end

section
set_option maxHeartbeats 4000000
namespace Shelf
open PySem PySem.Spec PyProof.Rows L2 Evl
/-! ### what is answered -/
def ansV (a : Kp427.Ans) : List V := (a.num :: a.nums).map V.int
theorem ansV_nat (v : Nat) (l : List Nat) : ansV (Kp427.natResult v l) = (v :: l).map nV := by
  unfold ansV Kp427.natResult
  rw [List.map_cons, List.map_cons, List.map_map]
  rfl
theorem ansV_list (l : List Nat) : ansV (Kp427.listResult l) = (l.length :: l).map nV := ansV_nat _ _
theorem ansV_single (v : Int) : ansV (Kp427.single v) = [.int v] := rfl
theorem evs_filter (l : EvL') (p : Kp427.Event → Bool) : (l.filter fun e => p e.2).map (·.2) = (l.map (·.2)).filter p := by
  rw [List.filter_map]
  rfl
theorem Evs.sub {CE : Addr} {H : Hp} {es fs : EvL'} (h : Evs CE H es) (s : ∀ e ∈ fs, e ∈ es) : Evs CE H fs := fun e he => h e (s e he)
theorem Evs.filter {CE : Addr} {H : Hp} {es : EvL'} (h : Evs CE H es) (p : Addr × Kp427.Event → Bool) : Evs CE H (es.filter p) := fun e he => h e (List.mem_filter.mp he).1
section
variable {P : Program} {w : World} {K : PySem.W.Frag} {mg : Str → Option Value} {base : Heap} {c : Adr}
section
variable {H : Hp} {a : Addr} {L : Lay} {s : Kp427.Store}
theorem StE.mem (S : StE c H a L s) {e : Addr × Kp427.Event} (h : e ∈ L.evs) : e.2 ∈ s.events := by
  rw [S.eve]
  exact List.mem_map_of_mem h
theorem StE.ofk (S : StE c H a L s) (p : Kp427.Event → Bool) : ∀ e ∈ L.evs.filter (fun e => p e.2), e.2.kind < 6 := fun e he => S.good.ekind _ (S.mem (List.mem_filter.mp he).1)
theorem StE.filt (S : StE c H a L s) (p : Kp427.Event → Bool) : (L.evs.filter fun e => p e.2).map (·.2) = s.events.filter p := by rw [evs_filter, S.eve]
end
theorem el_between {σ : L2.St} {H : Hp} {E : XK} {ta : TA} {a : Addr} {L : Lay} {s : Kp427.Store} {lo hi : Nat} (S : StE c H a L s) (h : EvA ta σ H [.ref a, nV lo, nV hi]) :
    EvL (tCall (rdL (p_events_between c)) [] E ta) σ H (evV (L.evs.filter fun e => Kp427.isBetween lo hi e.2)) := el_callD h fun H1 e => ⟨a, L, s, lo, hi, rfl, S.ex e, rfl⟩
theorem el_eventsOf {σ : L2.St} {H : Hp} {E : XK} {ta : TA} {a : Addr} {L : Lay} {s : Kp427.Store} {m : Nat} (S : StE c H a L s) (h : EvA ta σ H [.ref a, nV m]) :
    EvL (tCall (rdL (p_events_of c)) [] E ta) σ H (evV (L.evs.filter fun e => e.2.member == m)) := el_callD h fun H1 e => ⟨a, L, s, m, rfl, S.ex e, rfl⟩
/-- a query: its answer is the specification's, nothing else is changed -/
def p_ask (c : Adr) (args : List V) (q : Kp427.Call) (vs : List V) (H : Hp) (xs : List V) : Prop := ∃ (a : Addr) (L : Lay) (s : Kp427.Store), vs = .ref a :: args ∧ StL c H a L s ∧ xs = ansV (Kp427.step (some s) q).2
abbrev s_counts : Stmt := top 58
abbrev n_counts : List Str := ["store", "item", "low", "high", "event"]
theorem sc_counts : FnScope n_counts ["store", "item", "low", "high"] (defScope s_counts) := ⟨rfl, rfl, rfl, by decide +kernel, rfl, by decide +kernel, by decide +kernel⟩
def p_counts (c : Adr) (vs : List V) (H : Hp) (xs : List V) : Prop := ∃ (i lo hi : Nat), p_ask c [nV i, nV lo, nV hi] (.counts i lo hi) vs H xs
theorem d_counts (T : Txt K mg c) (D_item_exists : DefAt P w K mg base 1 "item_exists" ["store", "item"] (rdV (p_item_exists c))) (D_not_found : DefAt P w K mg base 1 "not_found" [] (rdL (p_code 2)))
    (D_events_between : DefAt P w K mg base 1 "events_between" ["store", "low", "high"] (rdL (p_events_between c))) (D_kinds_told : DefAt P w K mg base 1 "kinds_told" ["events"] (rdL (p_kinds_told c)))
    (D0 : Def0 K mg "counts" s_counts ["store", "item", "low", "high"]) : DefAt P w K mg base 2 "counts" ["store", "item", "low", "high"] (rdL (p_counts c)) := by
  refine DefAt.of D0 sc_counts (fun vs H Q E h => ?_) (fun f cdv A outer s H vs Q E hr h => ?_)
  · obtain ⟨xs, ⟨i, lo, hi, a, L, s, rfl, _⟩, _⟩ := h
    rfl
  · obtain ⟨xs, ⟨i, lo, hi, a, L, st, rfl, SL, rfl⟩, k⟩ := h
    have S := SL.toStE
    refine ⟨_, (pss_cons (ps_if (pt_not (pt_val (pcD D_item_exists hr (pa_cons (pv 0) (pa_cons (pv 1) pa_nil))))) (pss_one (ps_ret (pcD0 D_not_found hr))) pss_nil) (pss_one (ps_ret (pcD D_kinds_told hr (pa_cons (pe_lc (own := [("event", 4)]) (g := gName 4) rfl sc_counts.nd (piK (K := K) (pcD D_events_between hr (pa_cons (pv 0) (pa_cons (pv 2) (pa_cons (pv 3) pa_nil))))) (blkOk_by (own := [("event", 4)]) (N := n_counts) (sc := defScope s_counts) (by decide +kernel)) (fun _ _ _ _ _ => pg_name (i := 4) sc_counts.nd rfl (Or.inl rfl)) (fun _ _ _ _ _ => (pts_one (pt_cmpR op_eq (fK (K := K) (pv 4)) (pv 1) (nomark _)))) (fun _ _ _ _ _ => (pv 4))) pa_nil))))), ?_⟩
    have es : (Kp427.step (some st) (.counts i lo hi)).2 = if Kp427.hasItem st i then Kp427.listResult (Kp427.countKinds ((Kp427.eventsOn st i).filter (Kp427.isBetween lo hi))) else Kp427.single (-2) := rfl
    rw [es] at k
    refine q_when (b := !Kp427.hasItem st i) (et_not (et_B (ev_hasItem S (ea_cons (ev_var rfl) (ea_cons (ev_var rfl) ea_nil))))) (fun hb H1 e1 => ?_) fun hb H1 e1 => ?_
    · rw [Bool.not_eq_true'] at hb
      rw [hb] at k
      exact s_retL (el_code 2) fun p H2 hp e2 h2 => k p H2 (fresh_back e1 hp) (e1.trans e2) h2
    · rw [Bool.not_eq_false'] at hb
      rw [hb, if_pos rfl, ansV_list] at k
      have l200 := S.elen200
      have lf := List.length_filter_le (fun e : Addr × Kp427.Event => Kp427.isBetween lo hi e.2) L.evs
      refine s_retL (el_is (el_kindsN (es := (L.evs.filter fun e => Kp427.isBetween lo hi e.2).filter fun e => e.2.item == i)
        (el_is (el_compN (ys := L.evs.filter fun e => Kp427.isBetween lo hi e.2) (r := fun e => V.ref e.1) (fun e => e.2.item == i) (fun e => V.ref e.1) (el_between (S.ex e1) (ea_cons (ev_var rfl) (ea_cons (ev_var rfl) (ea_cons (ev_var rfl) ea_nil)))) (by omega) (fun _ => rfl) ?_ ?_) rfl) ?_ ?_) ?_)
        fun p H2 hp e2 h2 => k p H2 (fresh_back e1 hp) (e1.trans e2) h2
      · intro y H2 e2 my
        exact et_test (ev_op (ev_item T ((S.evs y (List.mem_filter.mp my).1).ex (e1.trans e2)) (ev_var rfl)) (ev_var rfl) rv_eqN)
      · intro y H2 e2 my _
        exact ev_var rfl
      · exact ((S.evs.ex e1).filter _).filter _
      · intro e he
        exact S.good.ekind _ (S.mem (List.mem_filter.mp (List.mem_filter.mp he).1).1)
      · rw [evs_filter _ (fun e => e.item == i), S.filt (Kp427.isBetween lo hi)]
        unfold Kp427.eventsOn
        rw [List.filter_filter, List.filter_filter]
        simp only [Bool.and_comm]
        rfl
abbrev s_by_creator : Stmt := top 59
abbrev n_by_creator : List Str := ["store", "creator", "low", "high", "inside", "event"]
theorem sc_by_creator : FnScope n_by_creator ["store", "creator", "low", "high"] (defScope s_by_creator) := ⟨rfl, rfl, rfl, by decide +kernel, rfl, by decide +kernel, by decide +kernel⟩
def p_by_creator (c : Adr) (vs : List V) (H : Hp) (xs : List V) : Prop := ∃ (i lo hi : Nat), p_ask c [nV i, nV lo, nV hi] (.byCreator i lo hi) vs H xs
theorem d_by_creator (T : Txt K mg c) (D_events_between : DefAt P w K mg base 1 "events_between" ["store", "low", "high"] (rdL (p_events_between c))) (D_kinds_told : DefAt P w K mg base 1 "kinds_told" ["events"] (rdL (p_kinds_told c)))
    (D0 : Def0 K mg "by_creator" s_by_creator ["store", "creator", "low", "high"]) : DefAt P w K mg base 2 "by_creator" ["store", "creator", "low", "high"] (rdL (p_by_creator c)) := by
  refine DefAt.of D0 sc_by_creator (fun vs H Q E h => ?_) (fun f cdv A outer s H vs Q E hr h => ?_)
  · obtain ⟨xs, ⟨i, lo, hi, a, L, s, rfl, _⟩, _⟩ := h
    rfl
  · obtain ⟨xs, ⟨i, lo, hi, a, L, st, rfl, SL, rfl⟩, k⟩ := h
    have S := SL.toStE
    refine ⟨_, (pss_cons (ps_set (i := 4) sc_by_creator.nd rfl (Or.inl rfl) (pcD D_events_between hr (pa_cons (pv 0) (pa_cons (pv 2) (pa_cons (pv 3) pa_nil))))) (pss_one (ps_ret (pcD D_kinds_told hr (pa_cons (pe_lc (own := [("event", 5)]) (g := gName 5) rfl sc_by_creator.nd (piK (K := K) (pv 4)) (blkOk_by (own := [("event", 5)]) (N := n_by_creator) (sc := defScope s_by_creator) (by decide +kernel)) (fun _ _ _ _ _ => pg_name (i := 5) sc_by_creator.nd rfl (Or.inl rfl)) (fun _ _ _ _ _ => (pts_one (pt_cmpR op_eq (fK (K := K) (ixK (K := K) (fK (K := K) (pv 0)) (fK (K := K) (pv 5)))) (pv 1) (nomark _)))) (fun _ _ _ _ _ => (pv 5))) pa_nil))))), ?_⟩
    have es : (Kp427.step (some st) (.byCreator i lo hi)).2 = Kp427.listResult (Kp427.countKinds (st.events.filter fun e => (Kp427.itemAt st e.item).creator == i && Kp427.isBetween lo hi e)) := rfl
    rw [es, ansV_list] at k
    have l200 := S.elen200
    have lf := List.length_filter_le (fun e : Addr × Kp427.Event => Kp427.isBetween lo hi e.2) L.evs
    refine q_asgL (el_between S (ea_cons (ev_var rfl) (ea_cons (ev_var rfl) (ea_cons (ev_var rfl) ea_nil)))) fun q H1 hq e1 h1 => ?_
    refine s_retL (el_is (el_kindsN (es := (L.evs.filter fun e => Kp427.isBetween lo hi e.2).filter fun e => (Kp427.itemAt st e.2.item).creator == i)
      (el_is (el_comp (ys := L.evs.filter fun e => Kp427.isBetween lo hi e.2) (r := fun e => V.ref e.1) (fun e => (Kp427.itemAt st e.2.item).creator == i) (fun e => V.ref e.1) (ev_var rfl) (sq_of h1) (by omega) (fun _ => rfl) ?_ ?_) rfl) ?_ ?_) ?_)
      fun p H2 hp e2 h2 => k p H2 (fresh_back e1 hp) (e1.trans e2) h2
    · intro y H2 e2 my
      have my' := (List.mem_filter.mp my).1
      have S2 := S.ex (e1.trans e2)
      obtain ⟨t, t1, t2, t3⟩ := S2.it_at (S2.good.eitem _ (S2.mem my'))
      refine et_test (ev_op (y := nV i) (ev_is (ev_itF T (S2.it t t2) (ev_ixM (r := fun (t : Addr × Addr × Kp427.Item) => V.ref t.1) (ev_shelf T S2 (ev_var rfl)) (ev_item T (S2.evs y my') (ev_var rfl)) (sq_of S2.sh) t1) T.iCreator rfl) ?_) (ev_var rfl) rv_eqN)
      rw [t3]
    · intro y H2 e2 my _
      exact ev_var rfl
    · exact ((S.evs.ex e1).filter _).filter _
    · intro e he
      exact S.good.ekind _ (S.mem (List.mem_filter.mp (List.mem_filter.mp he).1).1)
    · rw [evs_filter _ (fun e => (Kp427.itemAt st e.item).creator == i), S.filt (Kp427.isBetween lo hi), List.filter_filter]
      rfl
end
end Shelf
end

section
set_option maxHeartbeats 4000000
namespace Shelf
open PySem PySem.Spec PyProof.Rows L2 Evl
/-! ### the sums of the categories -/
abbrev wtOf (s : Kp427.Store) (e : Kp427.Event) : Nat := s.weights.getD e.kind 0
theorem cats_snoc (s : Kp427.Store) (l : List Kp427.Event) (e : Kp427.Event) : Kp427.categoryTotals s (l ++ [e]) = (List.range 32).map fun x => (((l.filter fun e => (Kp427.itemAt s e.item).categories.contains x).map (wtOf s)).sum) + if (Kp427.itemAt s e.item).categories.contains x then wtOf s e else 0 := by
  unfold Kp427.categoryTotals Kp427.categoryCount
  refine List.map_congr_left fun x _ => ?_
  rw [List.filter_append, List.map_append, List.sum_append, List.filter_cons]
  split
  · rw [List.filter_nil, List.map_cons, List.map_nil, List.sum_cons, List.sum_nil, Nat.add_zero]
  · rw [List.filter_nil, List.map_nil, List.sum_nil]
section
variable {P : Program} {w : World} {K : PySem.W.Frag} {mg : Str → Option Value} {base : Heap} {c : Adr}
theorem weight_at {H : Hp} {a : Addr} {L : Lay} {s : Kp427.Store} (S : StE c H a L s) {k : Nat} (h : k < 6) : s.weights[k]? = some (s.weights.getD k 0) := by
  have hl : k < s.weights.length := by rw [S.good.wlen]; exact h
  rw [List.getD_eq_getElem?_getD, List.getElem?_eq_getElem hl]
  rfl
theorem ev_weight (T : Txt K mg c) {σ : L2.St} {H : Hp} {ta tb : TE} {a : Addr} {L : Lay} {s : Kp427.Store} {k : Nat} (S : StE c H a L s) (h : k < 6) (ha : Ev ta σ H (.ref a)) (hb : Ev tb σ H (nV k)) : Ev (tOp (rIxL K) (tFld K ta "weights") tb) σ H (nV (s.weights.getD k 0)) :=
  ev_ixM (r := nV) (ev_weights T S ha) hb (sq_of S.wt) (weight_at S h)
/-- one category more: the table -/
theorem cat_step {n : Nat} {f : Nat → Nat} {cs : List Nat} {j x w : Nat} (nd : cs.Nodup) (hx : cs[j]? = some x) :
    (((List.range n).map fun k => f k + if (cs.take j).contains k then w else 0).set x (f x + w)) = (List.range n).map fun k => f k + if (cs.take (j + 1)).contains k then w else 0 := by
  have hn : x ∉ cs.take j := fun hm => by
    have e := take_succ_get hx
    have nd2 : (cs.take (j + 1)).Nodup := nd.sublist (List.take_sublist _ _)
    rw [e] at nd2
    exact (List.nodup_append.mp nd2).2.2 x hm x List.mem_cons_self rfl
  have h := tab_set (n := n) (j := x) (f := fun k => f k + if (cs.take j).contains k then w else 0) (g := fun k => f k + if (cs.take (j + 1)).contains k then w else 0) fun k hk => by
    rw [take_succ_get hx]
    have e : (cs.take j ++ [x]).contains k = (cs.take j).contains k := by
      rw [Bool.eq_iff_iff]
      simp [hk]
    rw [e]
  rw [← h]
  have e : (cs.take (j + 1)).contains x = true := by
    rw [take_succ_get hx]
    simp
  rw [e, if_pos rfl]
abbrev s_categories_told : Stmt := top 60
abbrev n_categories_told : List Str := ["store", "events", "tally", "event", "category"]
theorem sc_categories_told : FnScope n_categories_told ["store", "events"] (defScope s_categories_told) := ⟨rfl, rfl, rfl, by decide +kernel, rfl, by decide +kernel, by decide +kernel⟩
def p_categories_told (c : Adr) (vs : List V) (H : Hp) (xs : List V) : Prop := ∃ (a : Addr) (L : Lay) (s : Kp427.Store) (p : Addr) (es : EvL'), vs = [.ref a, .ref p] ∧ StE c H a L s ∧ H p = some (.lst (evV es)) ∧ (∀ e ∈ es, e ∈ L.evs) ∧ xs = (32 :: Kp427.categoryTotals s (es.map (·.2))).map nV
theorem d_categories_told (T : Txt K mg c) (D0 : Def0 K mg "categories_told" s_categories_told ["store", "events"]) : DefAt P w K mg base 1 "categories_told" ["store", "events"] (rdL (p_categories_told c)) := by
  refine DefAt.of D0 sc_categories_told (fun vs H Q E h => ?_) (fun f cdv A outer s H vs Q E hr h => ?_)
  · obtain ⟨xs, ⟨a, L, st, p, es, rfl, _⟩, _⟩ := h
    rfl
  · obtain ⟨xs, ⟨a, L, st, p, es, rfl, S, hp, hm, rfl⟩, k⟩ := h
    refine ⟨_, (pss_cons (ps_set (i := 2) sc_categories_told.nd rfl (Or.inl rfl) (pe_op op_rep (pe_lst (pa_cons pe_int pa_nil)) (gI T.kCATEGORY_COUNT))) (pss_cons (ps_for PassesOwn.never rfl (piK (K := K) (pv 1)) (pg_name (i := 3) sc_categories_told.nd rfl (Or.inl rfl)) (pss_one (ps_for PassesOwn.never rfl (piK (K := K) (fK (K := K) (ixK (K := K) (fK (K := K) (pv 0)) (fK (K := K) (pv 3))))) (pg_name (i := 4) sc_categories_told.nd rfl (Or.inl rfl)) (pss_one (ps_augS (pv 2) (pv 4) get_list (ixK (K := K) (fK (K := K) (pv 0)) (fK (K := K) (pv 3))) ip_add set_list))))) (pss_one (ps_ret (pe_op op_cat (pe_lst (pa_cons (gI T.kCATEGORY_COUNT) pa_nil)) (pv 2)))))), ?_⟩
    refine q_asgL (el_rep (x := nV 0) (n := 32) (el_lst (ea_cons (ev_n 0) ea_nil) (by show 1 ≤ 100000; decide)) (ev_n 32) (by decide)) fun t H1 ht e1 h1 => ?_
    refine q_forM (ys := es) (r := fun e => V.ref e.1) (ev_var rfl) (sq_of (e1 _ _ hp)) (fun i σ' H' => ∃ v u, σ' = [some (.ref a), some (.ref p), some (.ref t), v, u] ∧ Ex H H' ∧ H' t = some (.lst ((Kp427.categoryTotals st ((es.take i).map (·.2))).map nV)))
      (fun H2 e2 => ⟨none, none, rfl, e1.trans e2, (e2 _ _ h1).trans ?_⟩) (fun i σ' H' ⟨v, u, _, e, _⟩ => sq_of (e _ _ hp)) ?_ ?_
    · rfl
    · rintro i y σ' H' hy ⟨v, u, rfl, e, h2⟩
      have my := hm y (List.mem_of_getElem? hy)
      have S2 := S.ex e
      obtain ⟨it, t1, t2, t3⟩ := S2.it_at (S2.good.eitem _ (S2.mem my))
      have hcat := S2.good.icat it.2.2 (by rw [S2.its]; exact List.mem_map_of_mem t2)
      have kk := S2.good.ekind _ (S2.mem my)
      refine s_forM (q := it.2.1) (ys := it.2.2.categories) (r := nV) ?_ (sq_of (S2.it it t2).ca) (fun j σ2 H3 => ∃ u, σ2 = [some (.ref a), some (.ref p), some (.ref t), some (.ref y.1), u] ∧ Ex H H3 ∧ H3 t = some (.lst (((List.range 32).map fun x =>
        (((((es.take i).map (·.2)).filter fun e => (Kp427.itemAt st e.item).categories.contains x).map (wtOf st)).sum) + if (it.2.2.categories.take j).contains x then wtOf st y.2 else 0).map nV))) (fun H3 e3 => ⟨_, rfl, e.trans e3, (e3 _ _ h2).trans ?_⟩)
        (fun j σ2 H3 ⟨u, _, e3, _⟩ => sq_of ((S.ex e3).it it t2).ca) ?_ ?_
      · exact ev_itF T (S2.it it t2) (ev_ixM (r := fun (t : Addr × Addr × Kp427.Item) => V.ref t.1) (ev_shelf T S2 (ev_var rfl)) (ev_item T (S2.evs y my) (ev_var rfl)) (sq_of S2.sh) t1) T.iCategories rfl
      · rfl
      · rintro j x σ2 H3 hx ⟨u, rfl, e3, h3⟩
        have S3 := S.ex e3
        have x32 := hcat.2.2 x (List.mem_of_getElem? hx)
        have hn : x ∉ it.2.2.categories.take j := fun hm => by
          have nd2 : (it.2.2.categories.take (j + 1)).Nodup := hcat.2.1.sublist (List.take_sublist _ _)
          rw [take_succ_get hx] at nd2
          exact (List.nodup_append.mp nd2).2.2 x hm x List.mem_cons_self rfl
        refine s_augL (n := x) (p := (((((es.take i).map (·.2)).filter fun e => (Kp427.itemAt st e.item).categories.contains x).map (wtOf st)).sum : Nat)) (q := (wtOf st y.2 : Nat)) h3 (ev_var rfl) (ev_var rfl) ?_ (ev_weight T S3 kk (ev_var rfl) (ev_kind T (S3.evs y my) (ev_var rfl)))
          fun H4 e4 => ⟨_, rfl, (e3.trans e4).mut ht, ?_⟩
        · rw [List.getElem?_map, tab_get x32]
          show some (V.int _) = _
          rw [show (it.2.2.categories.take j).contains x = false by simpa using hn] <;> rfl
        · rw [upd_same, ← cat_step hcat.2.1 hx, List.map_set]
          rfl
      · rintro σ2 H3 ⟨u, rfl, e3, h3⟩
        refine ⟨_, _, rfl, e3, ?_⟩
        rw [h3, take_map_snoc hy, cats_snoc, List.take_length, t3]
    · rintro σ' H' ⟨v, u, rfl, e, h2⟩
      rw [List.take_length] at h2
      refine s_retL (el_cat (el_lst (ea_cons (ev_n 32) ea_nil) (by show 1 ≤ 100000; decide)) (ev_var rfl) h2 ?_) fun b H3 hb e3 h3 => k b H3 (fresh_back e hb) (e.trans e3) h3
      rw [List.length_map]
      show 1 + _ ≤ 100000
      unfold Kp427.categoryTotals Kp427.categoryCount
      rw [List.length_map, List.length_range]
      decide
theorem cats_len (s : Kp427.Store) (l : List Kp427.Event) : (Kp427.categoryTotals s l).length = 32 := by
  unfold Kp427.categoryTotals Kp427.categoryCount
  rw [List.length_map, List.length_range]
/-- its argument list: the store, a new list -/
theorem ea_storeNew {σ : L2.St} {H : Hp} {ts te : TE} {a : Addr} {xs : List V} (hs : Ev ts σ H (.ref a)) (h : EvL te σ H xs) : EvA' (tCons ts (tCons te tNil)) σ H (fun vs H2 => ∃ p, vs = [.ref a, .ref p] ∧ H2 p = some (.lst xs)) := fun H1 e Q q =>
  ea_V hs (ea_new h) H1 e Q fun vs H2 e2 ⟨r, h1, p, r2, h2, h3, h4⟩ => q vs H2 e2 ⟨p, by rw [h1, h2, h4], h3⟩
theorem el_catsN {σ : L2.St} {H : Hp} {E : XK} {ts te : TE} {a : Addr} {L : Lay} {s : Kp427.Store} {es : EvL'} (S : StE c H a L s) (hs : Ev ts σ H (.ref a)) (h : EvL te σ H (evV es)) (hm : ∀ e ∈ es, e ∈ L.evs) :
    EvL (tCall (rdL (p_categories_told c)) [] E (tCons ts (tCons te tNil))) σ H ((32 :: Kp427.categoryTotals s (es.map (·.2))).map nV) := el_call' (ea_storeNew hs h) fun vs H1 e ⟨p, e1, hp⟩ => by
  subst e1
  exact rdL_sp fun H2 e2 => ⟨a, L, s, p, es, rfl, S.ex (e.trans e2), e2 _ _ hp, hm, rfl⟩
abbrev s_categories : Stmt := top 61
abbrev n_categories : List Str := ["store", "low", "high"]
theorem sc_categories : FnScope n_categories ["store", "low", "high"] (defScope s_categories) := ⟨rfl, rfl, rfl, by decide +kernel, rfl, by decide +kernel, by decide +kernel⟩
def p_categories (c : Adr) (vs : List V) (H : Hp) (xs : List V) : Prop := ∃ (lo hi : Nat), p_ask c [nV lo, nV hi] (.categories lo hi) vs H xs
theorem d_categories (T : Txt K mg c) (D_events_between : DefAt P w K mg base 1 "events_between" ["store", "low", "high"] (rdL (p_events_between c))) (D_categories_told : DefAt P w K mg base 1 "categories_told" ["store", "events"] (rdL (p_categories_told c)))
    (D0 : Def0 K mg "categories" s_categories ["store", "low", "high"]) : DefAt P w K mg base 2 "categories" ["store", "low", "high"] (rdL (p_categories c)) := by
  refine DefAt.of D0 sc_categories (fun vs H Q E h => ?_) (fun f cdv A outer s H vs Q E hr h => ?_)
  · obtain ⟨xs, ⟨lo, hi, a, L, s, rfl, _⟩, _⟩ := h
    rfl
  · obtain ⟨xs, ⟨lo, hi, a, L, st, rfl, SL, rfl⟩, k⟩ := h
    have S := SL.toStE
    refine ⟨_, (pss_one (ps_ret (pcD D_categories_told hr (pa_cons (pv 0) (pa_cons (pcD D_events_between hr (pa_cons (pv 0) (pa_cons (pv 1) (pa_cons (pv 2) pa_nil)))) pa_nil))))), ?_⟩
    have es : (Kp427.step (some st) (.categories lo hi)).2 = Kp427.listResult (Kp427.categoryTotals st (st.events.filter (Kp427.isBetween lo hi))) := rfl
    rw [es, ansV_list, cats_len, ← S.filt (Kp427.isBetween lo hi)] at k
    exact s_retL (el_catsN S (ev_var rfl) (el_between S (ea_cons (ev_var rfl) (ea_cons (ev_var rfl) (ea_cons (ev_var rfl) ea_nil)))) fun e he => (List.mem_filter.mp he).1) k
abbrev s_profile : Stmt := top 62
abbrev n_profile : List Str := ["store", "member"]
theorem sc_profile : FnScope n_profile ["store", "member"] (defScope s_profile) := ⟨rfl, rfl, rfl, by decide +kernel, rfl, by decide +kernel, by decide +kernel⟩
def p_profile (c : Adr) (vs : List V) (H : Hp) (xs : List V) : Prop := ∃ (m : Nat), p_ask c [nV m] (.profile m) vs H xs
theorem d_profile (T : Txt K mg c) (D_member_exists : DefAt P w K mg base 1 "member_exists" ["store", "member"] (rdV (p_member_exists c))) (D_not_found : DefAt P w K mg base 1 "not_found" [] (rdL (p_code 2)))
    (D_events_of : DefAt P w K mg base 1 "events_of" ["store", "member"] (rdL (p_events_of c))) (D_categories_told : DefAt P w K mg base 1 "categories_told" ["store", "events"] (rdL (p_categories_told c)))
    (D0 : Def0 K mg "profile" s_profile ["store", "member"]) : DefAt P w K mg base 2 "profile" ["store", "member"] (rdL (p_profile c)) := by
  refine DefAt.of D0 sc_profile (fun vs H Q E h => ?_) (fun f cdv A outer s H vs Q E hr h => ?_)
  · obtain ⟨xs, ⟨m, a, L, s, rfl, _⟩, _⟩ := h
    rfl
  · obtain ⟨xs, ⟨m, a, L, st, rfl, SL, rfl⟩, k⟩ := h
    have S := SL.toStE
    refine ⟨_, (pss_cons (ps_if (pt_not (pt_val (pcD D_member_exists hr (pa_cons (pv 0) (pa_cons (pv 1) pa_nil))))) (pss_one (ps_ret (pcD0 D_not_found hr))) pss_nil) (pss_one (ps_ret (pcD D_categories_told hr (pa_cons (pv 0) (pa_cons (pcD D_events_of hr (pa_cons (pv 0) (pa_cons (pv 1) pa_nil))) pa_nil)))))), ?_⟩
    have es : (Kp427.step (some st) (.profile m)).2 = if Kp427.hasMember st m then Kp427.listResult (Kp427.categoryTotals st (Kp427.eventsOf st m)) else Kp427.single (-2) := rfl
    rw [es] at k
    refine q_when (b := !Kp427.hasMember st m) (et_not (et_B (ev_hasMember SL (ea_cons (ev_var rfl) (ea_cons (ev_var rfl) ea_nil))))) (fun hb H1 e1 => ?_) fun hb H1 e1 => ?_
    · rw [Bool.not_eq_true'] at hb
      rw [hb] at k
      exact s_retL (el_code 2) fun p H2 hp e2 h2 => k p H2 (fresh_back e1 hp) (e1.trans e2) h2
    · rw [Bool.not_eq_false'] at hb
      rw [hb, if_pos rfl, ansV_list, cats_len] at k
      unfold Kp427.eventsOf at k
      rw [← S.filt (fun e => e.member == m)] at k
      exact s_retL (el_catsN (S.ex e1) (ev_var rfl) (el_eventsOf (S.ex e1) (ea_cons (ev_var rfl) (ea_cons (ev_var rfl) ea_nil))) fun e he => (List.mem_filter.mp he).1) fun p H2 hp e2 h2 => k p H2 (fresh_back e1 hp) (e1.trans e2) h2
end
end Shelf
end

section
set_option maxHeartbeats 4000000
namespace Shelf
open PySem PySem.Spec PyProof.Rows L2 Evl
/-! ### objects made -/
/-- all but x is kept -/
def Kept (x : Addr) (H H' : Hp) : Prop := ∀ b o, H b = some o → b ≠ x → H' b = some o
theorem Kept.first {x : Addr} {H H1 : Hp} {o : HO} (e : Ex H H1) : Kept x H (upd H1 x o) := fun b u h n => by
  rw [upd_ne n]
  exact e b u h
theorem Kept.step {x : Addr} {H H' H1 : Hp} {o : HO} (k : Kept x H H') (e : Ex H' H1) : Kept x H (upd H1 x o) := fun b u h n => by
  rw [upd_ne n]
  exact e b u (k b u h n)
theorem Kept.grow {x : Addr} {H H' H1 : Hp} (k : Kept x H H') (e : Ex H' H1) : Kept x H H1 := fun b u h n => e b u (k b u h n)
/-- the class at C of the name x, and the promise of its __init__ -/
structure NewAt (P : Program) (w : World) (K : PySem.W.Frag) (mg : Str → Option Value) (base : Heap) (k : Nat) (x : Str) (C : Addr) (ps : List Str) (sp : Sp) : Prop where
  ex : ∃ (f : Addr) (fd : FuncData), Mk K C f ∧ FnOk P w K mg base CX0 k f fd ps sp ∧ mg x = some (.ref C) ∧ Binds K fd ps []
section
variable {X : Cx}
theorem pmD {k : Nat} {x : Str} {C : Addr} {ps : List Str} {sp : Sp} {e : Expr} {es : List Expr} {t : TA} {p pos : Pos} (D : NewAt X.prog X.w X.K X.mg X.base k x C ps sp) (hr : Room (k + 1) X.A) (ha : PA X (e :: es) t) (hg : Gl X x := by rfl) (hdb : (x == ("__debug__" : Str)) = false := by decide)
    (he : starEach (e :: es) X.env = (false, eval e X.env) :: starEach es X.env := by rfl) (hpl : (backTo pos (starEach es X.env)).any (·.1) = false := by rfl) : PE X (.Call (.Name x p) (e :: es) [] pos) (tMake C sp [] E0 t) := by
  obtain ⟨f, fd, M, F, hm, hb⟩ := D.ex
  exact pe_make M F hr hg hm hb .nil pass0 ha hdb he hpl
theorem pmD0 {k : Nat} {x : Str} {C : Addr} {ps : List Str} {sp : Sp} {p pos : Pos} (D : NewAt X.prog X.w X.K X.mg X.base k x C ps sp) (hr : Room (k + 1) X.A) (hg : Gl X x := by rfl) (hdb : (x == ("__debug__" : Str)) = false := by decide) : PE X (.Call (.Name x p) [] [] pos) (tMake C sp [] E0 tNil) := by
  obtain ⟨f, fd, M, F, hm, hb⟩ := D.ex
  exact pe_make0 M F hr hg hm hb .nil pass0 hdb
end
/-- the class of the text -/
structure Cls0 (K : PySem.W.Frag) (mg : Str → Option Value) (x q : Str) (C : Addr) (st : Stmt) (ps : List Str) : Prop where
  ex : ∃ (f : Addr) (fd : FuncData), Fun K "__init__" q st f fd ∧ Mk K C f ∧ mg x = some (.ref C) ∧ Binds K fd ps []
section
variable {P : Program} {w : World} {K : PySem.W.Frag} {mg : Str → Option Value} {base : Heap}
theorem NewAt.of {x q : Str} {C : Addr} {st : Stmt} {N ps : List Str} {k : Nat} {sp : Sp} (D0 : Cls0 K mg x q C st ps) (S : FnScope N ps (defScope st)) (len : ∀ vs H Q E, sp vs H Q E → vs.length = ps.length)
    (hbody : ∀ (f : Addr) (cdv : Value) (A : Around) (outer : List Env) (s : Shared) (H : Hp) (vs : List V) (Q : VK) (E : XK), Room k (A.deeper (envOfC q (defScope st) s.heap.objs.size f cdv)) → sp vs H Q E →
      ∃ t, PSs (cxOf CX0 P w K mg base N q (defScope st) f cdv A outer s H E).nox (defBody st) t ∧ t { nx := fun _ H' => Q .non H', rt := Q } (start N vs) H) : NewAt P w K mg base (k + 1) x C ps sp := by
  obtain ⟨f, fd, F, M, hm, hb⟩ := D0.ex
  exact ⟨f, fd, M, F.ok S len (fun cdv A outer s H vs Q E hr h => hbody f cdv A outer s H vs Q E hr h), hm, hb⟩
end
/-- an __init__ that stores its arguments: the fields are F of them -/
def p_new (C : Addr) (n : Nat) (F : List V → List (Str × V)) : Sp := fun vs H Q _ => ∃ (x dx : Addr) (args : List V), vs = .ref x :: args ∧ args.length = n ∧ H x = some (.ins C dx []) ∧ ∀ H', H' x = some (.ins C dx (F args)) → Kept x H H' → Q .non H'
section
variable {K : PySem.W.Frag} {σ : L2.St} {H H' : Hp} {ta tb te tv : TE} {t : TA} {D : Ends} {tz : TS} {a C dx : Addr} {fs : List (Str × V)} {y : V} {f : Str}
theorem s_fldV (hv : Ev tv σ H y) (ha : Ev ta σ H (.ref a)) (ho : H a = some (.ins C dx fs)) (hc : Cls K C) (hn : NoAttr K C f) (hl : fs.length < 1000) (k : ∀ H1, Ex H H1 → D.nx σ (upd H1 a (.ins C dx (putF f y fs)))) : sFld K ta tv f D σ H :=
  hv H (Ex.refl H) _ fun H1 e1 => ha H1 e1 _ fun H2 e2 => ⟨a, C, dx, fs, rfl, (e1.trans e2) _ _ ho, hc, hn, hl, k H2 (e1.trans e2)⟩
theorem q_fldV (hv : Ev tv σ H y) (ha : Ev ta σ H (.ref a)) (ho : H a = some (.ins C dx fs)) (hc : Cls K C) (hn : NoAttr K C f) (hl : fs.length < 1000) (k : ∀ H1, Ex H H1 → tz D σ (upd H1 a (.ins C dx (putF f y fs)))) : tSeq (sFld K ta tv f) tz D σ H :=
  s_fldV (D := { D with nx := tz D }) hv ha ho hc hn hl k
/-- an attribute that is stored: a new list, a new dict -/
theorem q_fldL {xs : List V} (hv : EvL tv σ H xs) (ha : Ev ta σ H (.ref a)) (ho : H a = some (.ins C dx fs)) (hc : Cls K C) (hn : NoAttr K C f) (hl : fs.length < 1000) (k : ∀ p H1, H p = none → Ex H H1 → H1 p = some (.lst xs) → tz D σ (upd H1 a (.ins C dx (putF f (.ref p) fs)))) : tSeq (sFld K ta tv f) tz D σ H :=
  hv H (Ex.refl H) _ fun p H1 hp e1 h1 => ha H1 e1 _ fun H2 e2 => ⟨a, C, dx, fs, rfl, (e1.trans e2) _ _ ho, hc, hn, hl, k p H2 hp (e1.trans e2) (e2 _ _ h1)⟩
theorem s_fldL {xs : List V} (hv : EvL tv σ H xs) (ha : Ev ta σ H (.ref a)) (ho : H a = some (.ins C dx fs)) (hc : Cls K C) (hn : NoAttr K C f) (hl : fs.length < 1000) (k : ∀ p H1, H p = none → Ex H H1 → H1 p = some (.lst xs) → D.nx σ (upd H1 a (.ins C dx (putF f (.ref p) fs)))) : sFld K ta tv f D σ H :=
  hv H (Ex.refl H) _ fun p H1 hp e1 h1 => ha H1 e1 _ fun H2 e2 => ⟨a, C, dx, fs, rfl, (e1.trans e2) _ _ ho, hc, hn, hl, k p H2 hp (e1.trans e2) (e2 _ _ h1)⟩
theorem q_fldD (ha : Ev ta σ H (.ref a)) (ho : H a = some (.ins C dx fs)) (hc : Cls K C) (hn : NoAttr K C f) (hl : fs.length < 1000) (k : ∀ p H1, H p = none → Ex H H1 → H1 p = some (.dK []) → tz D σ (upd H1 a (.ins C dx (putF f (.ref p) fs)))) : tSeq (sFld K ta tDNewK f) tz D σ H :=
  fun p hp => ha _ (Ex.new hp) _ fun H2 e2 => ⟨a, C, dx, fs, rfl, ((Ex.new hp).trans e2) _ _ ho, hc, hn, hl, k p H2 hp ((Ex.new hp).trans e2) (e2 _ _ upd_same)⟩
/-- a new instance -/
def EvI (te : TE) (σ : L2.St) (H : Hp) (C : Addr) (fs : List (Str × V)) : Prop := ∀ H1, Ex H H1 → ∀ Q : VK, (∀ x H2, H1 x = none → Ex H1 H2 → (∃ dx, H2 x = some (.ins C dx fs)) → Q (.ref x) H2) → te σ H1 Q
theorem made_fresh {H H2 : Hp} {x dx : Addr} {C : Addr} (nx : H x = none) (nd : H dx = none) (k : Kept x (upd (upd H dx (.own x)) x (.ins C dx [])) H2) : Ex H H2 := fun b o h => by
  have hb : b ≠ x := ne_of_none h nx
  refine k b o ?_ hb
  rw [upd_ne hb, upd_ne (ne_of_none h nd)]
  exact h
theorem ei_make {n : Nat} {F : List V → List (Str × V)} {args : List V} {E : XK} (h : EvA t σ H args) (hn : args.length = n) : EvI (tMake C (p_new C n F) [] E t) σ H C (F args) := fun H1 e Q q =>
  h H1 e _ fun H2 e2 => fun x dx nx nd ne => ⟨x, dx, args, by rw [List.append_nil], hn, upd_same, fun H' h' kp => ⟨rfl, q x H' (fresh_back e2 nx) (e2.trans (made_fresh nx nd kp)) ⟨dx, h'⟩⟩⟩
theorem s_appI {l : Addr} {xs : List V} (hl : H l = some (.lst xs)) (ha : Ev ta σ H (.ref l)) (h : EvI te σ H C fs) (hz : xs.length < 100000) (k : ∀ x H1, H x = none → Ex H H1 → (∃ dx, H1 x = some (.ins C dx fs)) → D.nx σ (upd H1 l (.lst (xs ++ [.ref x])))) :
    tDrop (tBM K "list" rAppend ta (tCons te tNil)) D σ H := ha H (Ex.refl H) _ fun H1 e1 =>
  ⟨Or.inl ⟨rfl, xs, sq_of (e1 l _ hl)⟩, h H1 e1 _ fun p H2 hp e2 h2 => ⟨l, xs, .ref p, rfl, rfl, e2 l _ (e1 l _ hl), sz_lt hz, k p H2 (fresh_back e1 hp) (e1.trans e2) h2⟩⟩
theorem q_appI {l : Addr} {xs : List V} (hl : H l = some (.lst xs)) (ha : Ev ta σ H (.ref l)) (h : EvI te σ H C fs) (hz : xs.length < 100000) (k : ∀ x H1, H x = none → Ex H H1 → (∃ dx, H1 x = some (.ins C dx fs)) → tz D σ (upd H1 l (.lst (xs ++ [.ref x])))) :
    tSeq (tDrop (tBM K "list" rAppend ta (tCons te tNil))) tz D σ H := s_appI (D := { D with nx := tz D }) hl ha h hz k
end
section
variable {P : Program} {w : World} {K : PySem.W.Frag} {mg : Str → Option Value} {base : Heap} {c : Adr}
abbrev s_Item : Stmt := inClass (top 36) 0
abbrev n_Item : List Str := ["self", "creator", "price", "day", "categories"]
theorem sc_Item : FnScope n_Item ["self", "creator", "price", "day", "categories"] (defScope s_Item) := ⟨rfl, rfl, rfl, by decide +kernel, rfl, by decide +kernel, by decide +kernel⟩
def F_Item (l : List V) : List (Str × V) := [("creator", l.getD 0 .non), ("price", l.getD 1 .non), ("day", l.getD 2 .non), ("categories", l.getD 3 .non), ("withdrawn", nV 0)]
theorem d_Item (T : Txt K mg c) (D0 : Cls0 K mg "Item" "Item.__init__" c.I s_Item ["self", "creator", "price", "day", "categories"]) : NewAt P w K mg base 1 "Item" c.I ["self", "creator", "price", "day", "categories"] (p_new c.I 4 F_Item) := by
  refine NewAt.of D0 sc_Item (fun vs H Q E h => ?_) (fun f cdv A outer s H vs Q E hr h => ?_)
  · obtain ⟨x, dx, args, rfl, hl, _⟩ := h
    rw [List.length_cons, hl]
    rfl
  · obtain ⟨x, dx, args, rfl, hl, hx, k⟩ := h
    obtain ⟨v1, v2, v3, v4, rfl⟩ : ∃ v1 v2 v3 v4, args = [v1, v2, v3, v4] := match args, hl with | [a, b, c, d], _ => ⟨a, b, c, d, rfl⟩
    refine ⟨_, (pss_cons (ps_fld (pv 0) (pv 1) rfl) (pss_cons (ps_fld (pv 0) (pv 2) rfl) (pss_cons (ps_fld (pv 0) (pv 3) rfl) (pss_cons (ps_fld (pv 0) (pv 4) rfl) (pss_one (ps_fld (pv 0) pe_int rfl)))))), ?_⟩
    refine q_fldV (y := v1) (a := x) (ev_var rfl) (ev_var rfl) hx T.clI T.iCreator (by show 0 < 1000; decide) fun H1 e1 => ?_
    refine q_fldV (y := v2) (a := x) (ev_var rfl) (ev_var rfl) upd_same T.clI T.iPrice (by show 1 < 1000; decide) fun H2 e2 => ?_
    refine q_fldV (y := v3) (a := x) (ev_var rfl) (ev_var rfl) upd_same T.clI T.iDay (by show 2 < 1000; decide) fun H3 e3 => ?_
    refine q_fldV (y := v4) (a := x) (ev_var rfl) (ev_var rfl) upd_same T.clI T.iCategories (by show 3 < 1000; decide) fun H4 e4 => ?_
    refine s_fldV (y := nV 0) (a := x) (ev_n 0) (ev_var rfl) upd_same T.clI T.iWithdrawn (by show 4 < 1000; decide) fun H5 e5 => ?_
    exact k _ upd_same ((((((Kept.first e1).step e2).step e3).step e4).step e5))
abbrev s_Event : Stmt := inClass (top 37) 0
abbrev n_Event : List Str := ["self", "time", "member", "item", "kind", "value"]
theorem sc_Event : FnScope n_Event ["self", "time", "member", "item", "kind", "value"] (defScope s_Event) := ⟨rfl, rfl, rfl, by decide +kernel, rfl, by decide +kernel, by decide +kernel⟩
def F_Event (l : List V) : List (Str × V) := [("time", l.getD 0 .non), ("member", l.getD 1 .non), ("item", l.getD 2 .non), ("kind", l.getD 3 .non), ("value", l.getD 4 .non)]
theorem d_Event (T : Txt K mg c) (D0 : Cls0 K mg "Event" "Event.__init__" c.E s_Event ["self", "time", "member", "item", "kind", "value"]) : NewAt P w K mg base 1 "Event" c.E ["self", "time", "member", "item", "kind", "value"] (p_new c.E 5 F_Event) := by
  refine NewAt.of D0 sc_Event (fun vs H Q E h => ?_) (fun f cdv A outer s H vs Q E hr h => ?_)
  · obtain ⟨x, dx, args, rfl, hl, _⟩ := h
    rw [List.length_cons, hl]
    rfl
  · obtain ⟨x, dx, args, rfl, hl, hx, k⟩ := h
    obtain ⟨v1, v2, v3, v4, v5, rfl⟩ : ∃ v1 v2 v3 v4 v5, args = [v1, v2, v3, v4, v5] := match args, hl with | [a, b, c, d, e], _ => ⟨a, b, c, d, e, rfl⟩
    refine ⟨_, (pss_cons (ps_fld (pv 0) (pv 1) rfl) (pss_cons (ps_fld (pv 0) (pv 2) rfl) (pss_cons (ps_fld (pv 0) (pv 3) rfl) (pss_cons (ps_fld (pv 0) (pv 4) rfl) (pss_one (ps_fld (pv 0) (pv 5) rfl)))))), ?_⟩
    refine q_fldV (y := v1) (a := x) (ev_var rfl) (ev_var rfl) hx T.clE T.eTime (by show 0 < 1000; decide) fun H1 e1 => ?_
    refine q_fldV (y := v2) (a := x) (ev_var rfl) (ev_var rfl) upd_same T.clE T.eMember (by show 1 < 1000; decide) fun H2 e2 => ?_
    refine q_fldV (y := v3) (a := x) (ev_var rfl) (ev_var rfl) upd_same T.clE T.eItem (by show 2 < 1000; decide) fun H3 e3 => ?_
    refine q_fldV (y := v4) (a := x) (ev_var rfl) (ev_var rfl) upd_same T.clE T.eKind (by show 3 < 1000; decide) fun H4 e4 => ?_
    refine s_fldV (y := v5) (a := x) (ev_var rfl) (ev_var rfl) upd_same T.clE T.eValue (by show 4 < 1000; decide) fun H5 e5 => ?_
    exact k _ upd_same ((((((Kept.first e1).step e2).step e3).step e4).step e5))
abbrev s_Desk : Stmt := inClass (top 109) 0
abbrev n_Desk : List Str := ["self"]
theorem sc_Desk : FnScope n_Desk ["self"] (defScope s_Desk) := ⟨rfl, rfl, rfl, by decide +kernel, rfl, by decide +kernel, by decide +kernel⟩
theorem d_Desk (T : Txt K mg c) (D0 : Cls0 K mg "Desk" "Desk.__init__" c.D s_Desk ["self"]) : NewAt P w K mg base 1 "Desk" c.D ["self"] (p_new c.D 0 fun _ => [("store", .non)]) := by
  refine NewAt.of D0 sc_Desk (fun vs H Q E h => ?_) (fun f cdv A outer s H vs Q E hr h => ?_)
  · obtain ⟨x, dx, args, rfl, hl, _⟩ := h
    rw [List.length_cons, hl]
    rfl
  · obtain ⟨x, dx, args, rfl, hl, hx, k⟩ := h
    obtain rfl := List.length_eq_zero_iff.mp hl
    refine ⟨_, (pss_one (ps_fld (pv 0) pe_non rfl)), ?_⟩
    refine s_fldV (y := .non) (a := x) ev_c (ev_var rfl) hx T.clD T.dStore (by show 0 < 1000; decide) fun H1 e1 => ?_
    exact k _ upd_same (Kept.first e1)
abbrev s_Store : Stmt := inClass (top 38) 0
abbrev n_Store : List Str := ["self", "retention", "gap", "weights"]
theorem sc_Store : FnScope n_Store ["self", "retention", "gap", "weights"] (defScope s_Store) := ⟨rfl, rfl, rfl, by decide +kernel, rfl, by decide +kernel, by decide +kernel⟩
/-- a new store: empty lists, an empty dict -/
def p_newStore (c : Adr) : Sp := fun vs H Q _ => ∃ (x dx : Addr) (r g : Nat) (wt : Addr), vs = [.ref x, nV r, nV g, .ref wt] ∧ H x = some (.ins c.S dx []) ∧
  ∀ (H' : Hp) (sh mb ev : Addr), H sh = none → H mb = none → H ev = none → sh ≠ ev → H' sh = some (.lst []) → H' mb = some (.dK []) → H' ev = some (.lst []) →
    H' x = some (.ins c.S dx [("retention", nV r), ("gap", nV g), ("weights", .ref wt), ("shelf", .ref sh), ("members", .ref mb), ("events", .ref ev)]) → Kept x H H' → Q .non H'
theorem d_Store (T : Txt K mg c) (D0 : Cls0 K mg "Store" "Store.__init__" c.S s_Store ["self", "retention", "gap", "weights"]) : NewAt P w K mg base 1 "Store" c.S ["self", "retention", "gap", "weights"] (p_newStore c) := by
  refine NewAt.of D0 sc_Store (fun vs H Q E h => ?_) (fun f cdv A outer s H vs Q E hr h => ?_)
  · obtain ⟨x, dx, r, g, wt, rfl, _⟩ := h
    rfl
  · obtain ⟨x, dx, r, g, wt, rfl, hx, k⟩ := h
    refine ⟨_, (pss_cons (ps_fld (pv 0) (pv 1) rfl) (pss_cons (ps_fld (pv 0) (pv 2) rfl) (pss_cons (ps_fld (pv 0) (pv 3) rfl) (pss_cons (ps_fld (pv 0) (pe_lst pa_nil) rfl) (pss_cons (ps_fld (pv 0) pe_dnewK rfl) (pss_one (ps_fld (pv 0) (pe_lst pa_nil) rfl))))))), ?_⟩
    refine q_fldV (y := nV r) (a := x) (ev_var rfl) (ev_var rfl) hx T.clS T.sRetention (by show 0 < 1000; decide) fun H1 e1 => ?_
    refine q_fldV (y := nV g) (a := x) (ev_var rfl) (ev_var rfl) upd_same T.clS T.sGap (by show 1 < 1000; decide) fun H2 e2 => ?_
    refine q_fldV (y := .ref wt) (a := x) (ev_var rfl) (ev_var rfl) upd_same T.clS T.sWeights (by show 2 < 1000; decide) fun H3 e3 => ?_
    have k3 := ((Kept.first (x := x) (o := .ins c.S dx (putF "retention" (nV r) [])) e1).step (o := .ins c.S dx (putF "gap" (nV g) (putF "retention" (nV r) []))) e2).step (o := .ins c.S dx (putF "weights" (.ref wt) (putF "gap" (nV g) (putF "retention" (nV r) [])))) e3
    have fr : ∀ {G : Hp} {p : Addr}, Kept x H G → (∃ o, G x = some o) → G p = none → H p = none := fun {G p} kp hg hp => by
      cases q : H p with
      | none => rfl
      | some o =>
        by_cases e : p = x
        · subst e
          obtain ⟨o2, h2⟩ := hg
          rw [h2] at hp
          cases hp
        · have := kp p o q e
          rw [this] at hp
          cases hp
    have nx : ∀ {G : Hp} {p : Addr} {o : HO}, G x = some o → G p = none → p ≠ x := fun {G p o} h1 h2 e => by
      subst e
      rw [h1] at h2
      cases h2
    refine q_fldL (a := x) (el_lst ea_nil (by show 0 ≤ 100000; decide)) (ev_var rfl) upd_same T.clS T.sShelf (by show 3 < 1000; decide) fun sh H4 hsh e4 h4 => ?_
    have nsh := nx upd_same hsh
    refine q_fldD (a := x) (ev_var rfl) upd_same T.clS T.sMembers (by show 4 < 1000; decide) fun mb H5 hmb e5 h5 => ?_
    have nmb := nx upd_same hmb
    refine s_fldL (a := x) (el_lst ea_nil (by show 0 ≤ 100000; decide)) (ev_var rfl) upd_same T.clS T.sEvents (by show 5 < 1000; decide) fun ev H6 hev e6 h6 => ?_
    have nev := nx upd_same hev
    have k4 := k3.step (o := .ins c.S dx (putF "shelf" (.ref sh) (putF "weights" (.ref wt) (putF "gap" (nV g) (putF "retention" (nV r) []))))) e4
    have k5 := k4.step (o := .ins c.S dx (putF "members" (.ref mb) (putF "shelf" (.ref sh) (putF "weights" (.ref wt) (putF "gap" (nV g) (putF "retention" (nV r) [])))))) e5
    have s5 := e5 sh _ (by rw [upd_ne nsh]; exact h4)
    have s6 := e6 sh _ (by rw [upd_ne nsh]; exact s5)
    have m6 := e6 mb _ (by rw [upd_ne nmb]; exact h5)
    refine k _ sh mb ev (fr k3 ⟨_, upd_same⟩ hsh) (fr k4 ⟨_, upd_same⟩ hmb) (fr k5 ⟨_, upd_same⟩ hev) ?_ (by rw [upd_ne nsh]; exact s6) (by rw [upd_ne nmb]; exact m6) (by rw [upd_ne nev]; exact h6) upd_same (k5.step e6)
    intro e
    subst e
    rw [upd_ne nsh, s5] at hev
    cases hev
end
end Shelf
end

section
set_option maxHeartbeats 4000000
namespace Shelf
open PySem PySem.Spec PyProof.Rows L2 Evl
/-! ### stores that change: what stands where -/
/-- the addresses that a call may write -/
def foot (a : Addr) (L : Lay) : List Addr := a :: L.sh :: L.mb :: L.ev :: L.its.map (·.1)
/-- the lists that a store holds and that no call writes -/
def lists (L : Lay) : List Addr := L.wt :: L.its.map (·.2.1)
structure Apart (L : Lay) : Prop where
  nd : (L.its.map (·.1)).Nodup
  se : L.sh ≠ L.ev
  sw : L.sh ≠ L.wt
  ew : L.ev ≠ L.wt
  sc : ∀ t ∈ L.its, t.2.1 ≠ L.sh
  ec : ∀ t ∈ L.its, t.2.1 ≠ L.ev
section
variable {c : Adr} {H H' : Hp} {a : Addr} {L : Lay} {s : Kp427.Store}
theorem ho_ne {H : Hp} {x y : Addr} {o u : HO} (h1 : H x = some o) (h2 : H y = some u) (h : o ≠ u) : x ≠ y := ne_of h1 h2 h
theorem lst_ins {xs : List V} {C dx : Addr} {fs : List (Str × V)} : HO.lst xs ≠ HO.ins C dx fs := fun z => by cases z
theorem dK_ins {k : List (Key × V)} {C dx : Addr} {fs : List (Str × V)} : HO.dK k ≠ HO.ins C dx fs := fun z => by cases z
theorem lst_dK {xs : List V} {k : List (Key × V)} : HO.lst xs ≠ HO.dK k := fun z => by cases z
theorem st_it {C C' dx dx' ca : Addr} {i : Kp427.Item} : HO.ins C dx (stF L s) ≠ HO.ins C' dx' (itF ca i) := fun z => by
  injection z with _ _ h
  have : (6 : Nat) = 5 := congrArg List.length h
  omega
theorem st_ev {C C' dx dx' : Addr} {e : Kp427.Event} : HO.ins C dx (stF L s) ≠ HO.ins C' dx' (evF e) := fun z => by
  injection z with _ _ h
  have : (6 : Nat) = 5 := congrArg List.length h
  omega
theorem ev_it {C C' dx dx' ca : Addr} {i : Kp427.Item} {e : Kp427.Event} : HO.ins C dx (evF e) ≠ HO.ins C' dx' (itF ca i) := fun z => by
  injection z with _ _ h
  have : some ("time" : Str) = some ("creator" : Str) := congrArg (fun l : List (Str × V) => (l.map (fun (q : Str × V) => q.1)).head?) h
  exact absurd (Option.some.inj this) (by decide +kernel)
/-- an item is changed: not its categories -/
theorem StL.setItem {i : Nat} {t : Addr × Addr × Kp427.Item} {it' : Kp427.Item} {dx : Addr} (S : StL c H a L s) (A : Apart L) (ht : L.its[i]? = some t) (hc : it'.categories = t.2.2.categories) (h' : H' t.1 = some (.ins c.I dx (itF t.2.1 it'))) (k : Kept t.1 H H') :
    StL c H' a { L with its := L.its.set i (t.1, t.2.1, it') } { s with items := s.items.set i it' } ∧ Apart { L with its := L.its.set i (t.1, t.2.1, it') } := by
  have mt := List.mem_of_getElem? ht
  obtain ⟨⟨dt, ot⟩, ct⟩ := S.it t mt
  have il : i < L.its.length := (List.getElem?_eq_some_iff.mp ht).1
  have addr : (L.its.set i (t.1, t.2.1, it')).map (·.1) = L.its.map (·.1) := by
    rw [List.map_set]
    refine List.ext_getElem? fun j => ?_
    rw [List.getElem?_set]
    split
    · rename_i e
      subst e
      rw [List.length_map, if_pos il, List.getElem?_map, ht]
      rfl
    · rfl
  have mem : ∀ u ∈ L.its.set i (t.1, t.2.1, it'), (u ∈ L.its ∧ u.1 ≠ t.1) ∨ u = (t.1, t.2.1, it') := fun u hu => by
    obtain ⟨j, hj⟩ := List.getElem?_of_mem hu
    rw [List.getElem?_set] at hj
    split at hj
    · rename_i e
      subst e
      exact Or.inr (Option.some.inj hj).symm
    · rename_i e
      refine Or.inl ⟨List.mem_of_getElem? hj, fun z => e ?_⟩
      have h1 : (L.its.map (·.1))[i]? = some t.1 := by rw [List.getElem?_map, ht]; rfl
      have h2 : (L.its.map (·.1))[j]? = some t.1 := by rw [List.getElem?_map, hj, ← z]; rfl
      exact nd_ix A.nd h1 h2
  refine ⟨⟨⟨k _ _ S.ob (ho_ne S.ob ot st_it), k _ _ S.wt (ho_ne S.wt ot lst_ins), ?_, fun u hu => ?_, ?_, k _ _ S.ev (ho_ne S.ev ot lst_ins), fun e he => ?_, S.eve, ?_⟩, k _ _ S.mb (ho_ne S.mb ot dK_ins)⟩, ?_⟩
  · have e : (L.its.set i (t.1, t.2.1, it')).map (fun t => V.ref t.1) = L.its.map fun t => V.ref t.1 := by
      have z := congrArg (List.map V.ref) addr
      rw [List.map_map, List.map_map] at z
      exact z
    show H' L.sh = some (.lst ((L.its.set i (t.1, t.2.1, it')).map fun t => V.ref t.1))
    rw [e]
    exact k _ _ S.sh (ho_ne S.sh ot lst_ins)
  · rcases mem u hu with ⟨mu, ne⟩ | rfl
    · obtain ⟨⟨du, ou⟩, cu⟩ := S.it u mu
      exact ⟨⟨du, k _ _ ou ne⟩, k _ _ cu (ho_ne cu ot lst_ins)⟩
    · exact ⟨⟨dx, h'⟩, by show H' t.2.1 = some (.lst (it'.categories.map nV)); rw [hc]; exact k _ _ ct (ho_ne ct ot lst_ins)⟩
  · show s.items.set i it' = (L.its.set i (t.1, t.2.1, it')).map (·.2.2)
    rw [List.map_set, S.its]
  · obtain ⟨de, oe⟩ := S.evs e he
    exact ⟨de, k _ _ oe (ho_ne oe ot ev_it)⟩
  · refine ⟨S.good.wlen, S.good.wle, S.good.gap, S.good.ret, by show (s.items.set i it').length ≤ 40; rw [List.length_set]; exact S.good.ilen, fun x hx => ?_, S.good.mlen, S.good.mnd, S.good.elen, S.good.emem, fun e he => by show e.item < (s.items.set i it').length; rw [List.length_set]; exact S.good.eitem e he, S.good.ekind, S.good.eval⟩
    have hx' : x ∈ s.items.set i it' := hx
    rcases List.mem_or_eq_of_mem_set hx' with z | z
    · exact S.good.icat x z
    · rw [z, hc]
      exact S.good.icat _ (by rw [S.its]; exact List.mem_map_of_mem mt)
  · refine ⟨by show ((L.its.set i (t.1, t.2.1, it')).map (·.1)).Nodup; rw [addr]; exact A.nd, A.se, A.sw, A.ew, fun u hu => ?_, fun u hu => ?_⟩
    · rcases mem u hu with ⟨mu, _⟩ | rfl
      · exact A.sc u mu
      · exact A.sc t mt
    · rcases mem u hu with ⟨mu, _⟩ | rfl
      · exact A.ec u mu
      · exact A.ec t mt
/-- an event more -/
theorem StL.addEvent {x : Addr} {e : Kp427.Event} (S : StL c H a L s) (A : Apart L) (hx : H x = none) (ex : Ex H H') (he : EvAt c.E H' x e) (h1 : e.member ∈ s.members.map Kp427.Member.id) (h2 : e.item < s.items.length) (h3 : e.kind < 6) (h4 : e.value ≤ 10) (h5 : s.events.length < 200) :
    StL c (upd H' L.ev (.lst (evV (L.evs ++ [(x, e)])))) a { L with evs := L.evs ++ [(x, e)] } (Kp427.addEvent s e) ∧ Apart { L with evs := L.evs ++ [(x, e)] } := by
  have S' := S.ex ex
  have k : ∀ {b o}, H' b = some o → o ≠ .lst (evV L.evs) → upd H' L.ev (.lst (evV (L.evs ++ [(x, e)]))) b = some o := fun {b o} h n => by
    rw [upd_ne (ho_ne h S'.ev n)]
    exact h
  have kn : ∀ {b o}, H' b = some o → b ≠ L.ev → upd H' L.ev (.lst (evV (L.evs ++ [(x, e)]))) b = some o := fun {b o} h n => by
    rw [upd_ne n]
    exact h
  refine ⟨⟨⟨k S'.ob (Ne.symm lst_ins), kn S'.wt A.ew.symm, kn S'.sh A.se, fun u hu => ?_, S'.its, upd_same, fun u hu => ?_, ?_, ?_⟩, k S'.mb (Ne.symm lst_dK)⟩, ⟨A.nd, A.se, A.sw, A.ew, A.sc, A.ec⟩⟩
  · obtain ⟨⟨du, ou⟩, cu⟩ := S'.it u hu
    exact ⟨⟨du, k ou (Ne.symm lst_ins)⟩, kn cu (A.ec u hu)⟩
  · rcases List.mem_append.mp hu with z | z
    · obtain ⟨du, ou⟩ := S'.evs u z
      exact ⟨du, k ou (Ne.symm lst_ins)⟩
    · rw [List.mem_singleton.mp z]
      obtain ⟨de, oe⟩ := he
      exact ⟨de, k oe (Ne.symm lst_ins)⟩
  · show s.events ++ [e] = (L.evs ++ [(x, e)]).map (·.2)
    rw [List.map_append, S.eve]
    rfl
  · have mem : ∀ {u}, u ∈ (Kp427.addEvent s e).events → u ∈ s.events ∨ u = e := fun {u} hu => by
      have hu' : u ∈ s.events ++ [e] := hu
      rcases List.mem_append.mp hu' with z | z
      · exact Or.inl z
      · exact Or.inr (List.mem_singleton.mp z)
    refine ⟨S.good.wlen, S.good.wle, S.good.gap, S.good.ret, S.good.ilen, S.good.icat, S.good.mlen, S.good.mnd, ?_, fun u hu => ?_, fun u hu => ?_, fun u hu => ?_, fun u hu => ?_⟩
    · show (s.events ++ [e]).length ≤ 200
      rw [List.length_append, List.length_singleton]
      omega
    · rcases mem hu with z | rfl
      · exact S.good.emem u z
      · exact h1
    · rcases mem hu with z | rfl
      · exact S.good.eitem u z
      · exact h2
    · rcases mem hu with z | rfl
      · exact S.good.ekind u z
      · exact h3
    · rcases mem hu with z | rfl
      · exact S.good.eval u z
      · exact h4
/-- other events, in a new list -/
theorem StL.setEvents {q : Addr} {p : Kp427.Event → Bool} (S : StL c H a L s) (A : Apart L) (hq : H q = none) (ex : Ex H H') (h : H' q = some (.lst (evV (L.evs.filter fun e => p e.2)))) :
    StL c (upd H' a (.ins c.S L.dx (putF "events" (.ref q) (stF L s)))) a { L with ev := q, evs := L.evs.filter fun e => p e.2 } { s with events := s.events.filter p } ∧ Apart { L with ev := q, evs := L.evs.filter fun e => p e.2 } := by
  have S' := S.ex ex
  have nq : ∀ {b o}, H b = some o → b ≠ q := fun {b o} h => ne_of_none h hq
  have k : ∀ {b o}, H' b = some o → o ≠ .ins c.S L.dx (stF L s) → upd H' a (.ins c.S L.dx (putF "events" (.ref q) (stF L s))) b = some o := fun {b o} h n => by
    rw [upd_ne (ho_ne h S'.ob n)]
    exact h
  refine ⟨⟨⟨upd_same, k S'.wt lst_ins, k S'.sh lst_ins, fun u hu => ?_, S'.its, k h lst_ins, fun u hu => ?_, ?_, ?_⟩, k S'.mb dK_ins⟩, ⟨A.nd, nq S.sh, A.sw, (nq S.wt).symm, A.sc, fun t ht => nq (S.it t ht).ca⟩⟩
  · obtain ⟨⟨du, ou⟩, cu⟩ := S'.it u hu
    exact ⟨⟨du, k ou (Ne.symm st_it)⟩, k cu lst_ins⟩
  · obtain ⟨du, ou⟩ := S'.evs u (List.mem_filter.mp hu).1
    exact ⟨du, k ou (Ne.symm st_ev)⟩
  · exact (S.filt p).symm
  · have sub : ∀ {u}, u ∈ s.events.filter p → u ∈ s.events := fun {u} hu => (List.mem_filter.mp hu).1
    refine ⟨S.good.wlen, S.good.wle, S.good.gap, S.good.ret, S.good.ilen, S.good.icat, S.good.mlen, S.good.mnd, Nat.le_trans (List.length_filter_le p s.events) S.good.elen, fun u hu => S.good.emem u (sub hu), fun u hu => S.good.eitem u (sub hu), fun u hu => S.good.ekind u (sub hu), fun u hu => S.good.eval u (sub hu)⟩
/-- other members, none of whom an event lacks -/
theorem StL.setMembers {ms : List Kp427.Member} (S : StL c H a L s) (A : Apart L) (h1 : ms.length ≤ 40) (h2 : (ms.map Kp427.Member.id).Nodup) (h3 : ∀ e ∈ s.events, e.member ∈ ms.map Kp427.Member.id) :
    StL c (upd H L.mb (.dK (mbK { s with members := ms }))) a L { s with members := ms } := by
  have k : ∀ {b o}, H b = some o → o ≠ .dK (mbK s) → upd H L.mb (.dK (mbK { s with members := ms })) b = some o := fun {b o} h n => by
    rw [upd_ne (ho_ne h S.mb n)]
    exact h
  refine ⟨⟨k S.ob (Ne.symm dK_ins), k S.wt lst_dK, k S.sh lst_dK, fun u hu => ?_, S.its, k S.ev lst_dK, fun u hu => ?_, S.eve, ⟨S.good.wlen, S.good.wle, S.good.gap, S.good.ret, S.good.ilen, S.good.icat, h1, h2, S.good.elen, h3, S.good.eitem, S.good.ekind, S.good.eval⟩⟩, upd_same⟩
  · obtain ⟨⟨du, ou⟩, cu⟩ := S.it u hu
    exact ⟨⟨du, k ou (Ne.symm dK_ins)⟩, k cu lst_dK⟩
  · obtain ⟨du, ou⟩ := S.evs u hu
    exact ⟨du, k ou (Ne.symm dK_ins)⟩
/-- an item more -/
theorem StL.addItem {x ca : Addr} {i : Kp427.Item} (S : StL c H a L s) (A : Apart L) (hx : H x = none) (ex : Ex H H') (hi : ∃ dx, H' x = some (.ins c.I dx (itF ca i))) (hc : H ca = some (.lst (i.categories.map nV))) (c1 : ca ≠ L.sh) (c2 : ca ≠ L.ev)
    (h1 : s.items.length < 40) (h2 : i.categories.length ≤ 4 ∧ i.categories.Nodup ∧ ∀ x ∈ i.categories, x < 32) :
    StL c (upd H' L.sh (.lst ((L.its.map fun t => V.ref t.1) ++ [.ref x]))) a { L with its := L.its ++ [(x, ca, i)] } { s with items := s.items ++ [i] } ∧ Apart { L with its := L.its ++ [(x, ca, i)] } := by
  have S' := S.ex ex
  have k : ∀ {b o}, H' b = some o → o ≠ .lst (L.its.map fun t => V.ref t.1) → upd H' L.sh (.lst ((L.its.map fun t => V.ref t.1) ++ [.ref x])) b = some o := fun {b o} h n => by
    rw [upd_ne (ho_ne h S'.sh n)]
    exact h
  have kn : ∀ {b o}, H' b = some o → b ≠ L.sh → upd H' L.sh (.lst ((L.its.map fun t => V.ref t.1) ++ [.ref x])) b = some o := fun {b o} h n => by
    rw [upd_ne n]
    exact h
  have mem : ∀ {u}, u ∈ L.its ++ [(x, ca, i)] → u ∈ L.its ∨ u = (x, ca, i) := fun {u} hu => by
    rcases List.mem_append.mp hu with z | z
    · exact Or.inl z
    · exact Or.inr (List.mem_singleton.mp z)
  refine ⟨⟨⟨k S'.ob (Ne.symm lst_ins), kn S'.wt A.sw.symm, ?_, fun u hu => ?_, ?_, kn S'.ev A.se.symm, fun u hu => ?_, S.eve, ?_⟩, k S'.mb (Ne.symm lst_dK)⟩, ?_⟩
  · show upd H' L.sh _ L.sh = some (.lst ((L.its ++ [(x, ca, i)]).map fun t => V.ref t.1))
    rw [upd_same, List.map_append]
    rfl
  · rcases mem hu with z | rfl
    · obtain ⟨⟨du, ou⟩, cu⟩ := S'.it u z
      exact ⟨⟨du, k ou (Ne.symm lst_ins)⟩, kn cu (A.sc u z)⟩
    · obtain ⟨dx, ox⟩ := hi
      exact ⟨⟨dx, k ox (Ne.symm lst_ins)⟩, kn (ex _ _ hc) c1⟩
  · show s.items ++ [i] = (L.its ++ [(x, ca, i)]).map (·.2.2)
    rw [List.map_append, S.its]
    rfl
  · obtain ⟨du, ou⟩ := S'.evs u hu
    exact ⟨du, k ou (Ne.symm lst_ins)⟩
  · refine ⟨S.good.wlen, S.good.wle, S.good.gap, S.good.ret, ?_, fun u hu => ?_, S.good.mlen, S.good.mnd, S.good.elen, S.good.emem, fun e he => ?_, S.good.ekind, S.good.eval⟩
    · show (s.items ++ [i]).length ≤ 40
      rw [List.length_append, List.length_singleton]
      omega
    · have hu' : u ∈ s.items ++ [i] := hu
      rcases List.mem_append.mp hu' with z | z
      · exact S.good.icat u z
      · rw [List.mem_singleton.mp z]
        exact h2
    · have := S.good.eitem e he
      show e.item < (s.items ++ [i]).length
      rw [List.length_append, List.length_singleton]
      omega
  · refine ⟨?_, A.se, A.sw, A.ew, fun u hu => ?_, fun u hu => ?_⟩
    · show ((L.its ++ [(x, ca, i)]).map (·.1)).Nodup
      rw [List.map_append, List.nodup_append]
      refine ⟨A.nd, by simp, fun y hy z hz => ?_⟩
      have hz' : z = x := by simpa using hz
      obtain ⟨t, ht, rfl⟩ := List.mem_map.mp hy
      obtain ⟨⟨dt, ot⟩, _⟩ := S.it t ht
      rw [hz']
      exact ne_of_none ot hx
    · rcases mem hu with z | rfl
      · exact A.sc u z
      · exact c1
    · rcases mem hu with z | rfl
      · exact A.ec u z
      · exact c2
end
/-- behind a call that may change the store: the store that the specification says, the answer in a new list; all else as it was -/
structure Did (c : Adr) (H : Hp) (a : Addr) (L : Lay) (cs : List Addr) (r : Kp427.State × Kp427.Ans) (p : Addr) (H' : Hp) : Prop where
  st : ∃ (L' : Lay) (s' : Kp427.Store), r.1 = some s' ∧ StL c H' a L' s' ∧ Apart L' ∧ (∀ b ∈ foot a L', b ∈ foot a L ∨ H b = none) ∧ ∀ b ∈ lists L', b ∈ lists L ∨ b ∈ cs
  keep : ∀ b o, H b = some o → b ∉ foot a L → H' b = some o
  new : H p = none
  ans : H' p = some (.lst (ansV r.2))
def p_mut (c : Adr) (args : List V) (q : Kp427.Call) : Sp := fun vs H Q _ => ∃ (a : Addr) (L : Lay) (s : Kp427.Store), vs = .ref a :: args ∧ StL c H a L s ∧ Apart L ∧ ∀ p H', Did c H a L [] (Kp427.step (some s) q) p H' → Q (.ref p) H'
/-- nothing has changed -/
theorem Did.same {c : Adr} {H H' : Hp} {a p : Addr} {L : Lay} {s : Kp427.Store} {cs : List Addr} {r : Kp427.State × Kp427.Ans} {xs : List V} (S : StL c H a L s) (A : Apart L) (e1 : r.1 = some s) (hp : H p = none) (ex : Ex H H') (h : H' p = some (.lst xs)) (e2 : xs = ansV r.2) : Did c H a L cs r p H' :=
  ⟨⟨L, s, e1, S.ex ex, A, fun b hb => Or.inl hb, fun b hb => Or.inl hb⟩, fun b o q _ => ex b o q, hp, by rw [h, e2]⟩
end Shelf
end

section
set_option maxHeartbeats 4000000
namespace Shelf
open PySem PySem.Spec PyProof.Rows L2 Evl
section
variable {P : Program} {w : World} {K : PySem.W.Frag} {mg : Str → Option Value} {base : Heap} {c : Adr}
/-- behind a write: a new list is the answer -/
theorem Did.after {H H' H2 : Hp} {a p : Addr} {L L' : Lay} {s' : Kp427.Store} {cs : List Addr} {r : Kp427.State × Kp427.Ans} {xs : List V} (e1 : r.1 = some s') (S : StL c H' a L' s') (A : Apart L') (f : ∀ b ∈ foot a L', b ∈ foot a L ∨ H b = none) (k : ∀ b o, H b = some o → b ∉ foot a L → H' b = some o)
    (hn : ∀ b, H' b = none → H b = none) (hp : H' p = none) (ex : Ex H' H2) (h : H2 p = some (.lst xs)) (e2 : xs = ansV r.2) (g : ∀ b ∈ lists L', b ∈ lists L ∨ b ∈ cs := by exact fun b hb => Or.inl hb) : Did c H a L cs r p H2 :=
  ⟨⟨L', s', e1, S.ex ex, A, f, g⟩, fun b o q n => ex b o (k b o q n), hn p hp, by rw [h, e2]⟩
theorem none_of_upd {H : Hp} {x : Addr} {o : HO} {b : Addr} (h : upd H x o b = none) : H b = none := by
  by_cases e : b = x
  · subst e
    rw [upd_same] at h
    cases h
  · rw [upd_ne e] at h
    exact h
theorem itemAt_get {H : Hp} {a : Addr} {L : Lay} {s : Kp427.Store} (S : StE c H a L s) {i : Nat} {t : Addr × Addr × Kp427.Item} (h : L.its[i]? = some t) : Kp427.itemAt s i = t.2.2 := by
  unfold Kp427.itemAt
  rw [S.its, List.getD_eq_getElem?_getD, List.getElem?_map, h]
  rfl
theorem addr_set {l : ItL} {i : Nat} {t : Addr × Addr × Kp427.Item} {y : Addr × Kp427.Item} (h : l[i]? = some t) : (l.set i (t.1, y)).map (·.1) = l.map (·.1) := by
  rw [List.map_set]
  refine List.ext_getElem? fun j => ?_
  rw [List.getElem?_set]
  split
  · rename_i e
    subst e
    rw [List.length_map, if_pos (List.getElem?_eq_some_iff.mp h).1, List.getElem?_map, h]
    rfl
  · rfl
theorem cat_set {l : ItL} {i : Nat} {t : Addr × Addr × Kp427.Item} {y : Kp427.Item} (h : l[i]? = some t) : (l.set i (t.1, t.2.1, y)).map (·.2.1) = l.map (·.2.1) := by
  rw [List.map_set]
  refine List.ext_getElem? fun j => ?_
  rw [List.getElem?_set]
  split
  · rename_i e
    subst e
    rw [List.length_map, if_pos (List.getElem?_eq_some_iff.mp h).1, List.getElem?_map, h]
    rfl
  · rfl
theorem its_foot {a : Addr} {L : Lay} {t : Addr × Addr × Kp427.Item} (h : t ∈ L.its) : t.1 ∈ foot a L := by
  unfold foot
  simp only [List.mem_cons]
  exact Or.inr (Or.inr (Or.inr (Or.inr (List.mem_map_of_mem h))))
abbrev s_set_price : Stmt := top 49
abbrev n_set_price : List Str := ["store", "item", "price", "changed", "old_price"]
theorem sc_set_price : FnScope n_set_price ["store", "item", "price"] (defScope s_set_price) := ⟨rfl, rfl, rfl, by decide +kernel, rfl, by decide +kernel, by decide +kernel⟩
def p_set_price (c : Adr) : Sp := fun vs H Q E => ∃ (i pr : Nat), p_mut c [nV i, nV pr] (.setPrice i pr) vs H Q E
theorem d_set_price (T : Txt K mg c) (D_item_exists : DefAt P w K mg base 1 "item_exists" ["store", "item"] (rdV (p_item_exists c))) (D_not_found : DefAt P w K mg base 1 "not_found" [] (rdL (p_code 2))) (D_outside_limits : DefAt P w K mg base 1 "outside_limits" [] (rdL (p_code 22)))
    (D0 : Def0 K mg "set_price" s_set_price ["store", "item", "price"]) : DefAt P w K mg base 2 "set_price" ["store", "item", "price"] (p_set_price c) := by
  refine DefAt.of D0 sc_set_price (fun vs H Q E h => ?_) (fun f cdv A outer s H vs Q E hr h => ?_)
  · obtain ⟨i, pr, a, L, s, rfl, _⟩ := h
    rfl
  · obtain ⟨i, pr, a, L, st, rfl, SL, A, k⟩ := h
    have S := SL.toStE
    refine ⟨_, (pss_cons (ps_if (pt_not (pt_val (pcD D_item_exists hr (pa_cons (pv 0) (pa_cons (pv 1) pa_nil))))) (pss_one (ps_ret (pcD0 D_not_found hr))) pss_nil) (pss_cons (ps_if (pt_cmpR op_gt (pv 2) (gI T.kMAX_PRICE) (nomark _)) (pss_one (ps_ret (pcD0 D_outside_limits hr))) pss_nil) (pss_cons (ps_set (i := 3) sc_set_price.nd rfl (Or.inl rfl) (ixK (K := K) (fK (K := K) (pv 0)) (pv 1))) (pss_cons (ps_set (i := 4) sc_set_price.nd rfl (Or.inl rfl) (fK (K := K) (pv 3))) (pss_cons (ps_fld (pv 3) (pv 2) rfl) (pss_one (ps_ret (pe_lst (pa_cons (pv 4) pa_nil))))))))), ?_⟩
    refine q_when (b := !Kp427.hasItem st i) (et_not (et_B (ev_hasItem S (ea_cons (ev_var rfl) (ea_cons (ev_var rfl) ea_nil))))) (fun hb H1 e1 => ?_) fun hb H1 e1 => ?_
    · rw [Bool.not_eq_true'] at hb
      have es : Kp427.step (some st) (.setPrice i pr) = (some st, Kp427.single (-2)) := by
        show (if Kp427.hasItem st i = false then _ else _) = _
        rw [if_pos hb]
      rw [es] at k
      exact s_retL (el_code 2) fun p H2 hp e2 h2 => k p H2 (Did.same SL A rfl (fresh_back e1 hp) (e1.trans e2) h2 rfl)
    rw [Bool.not_eq_false'] at hb
    have es : Kp427.step (some st) (.setPrice i pr) = if 1000000 < pr then (some st, Kp427.single (-22)) else (some { st with items := st.items.set i { Kp427.itemAt st i with price := pr } }, Kp427.single ((Kp427.itemAt st i).price : Nat)) := by
      show (if Kp427.hasItem st i = false then _ else _) = _
      rw [if_neg (by rw [hb]; exact Bool.noConfusion)]
    rw [es] at k
    refine q_when (b := decide (1000000 < pr)) (et_test (ev_op (ev_var rfl) (ev_n 1000000) rv_gtN)) (fun hb2 H2 e2 => ?_) fun hb2 H2 e2 => ?_
    · rw [if_pos (of_decide_eq_true hb2)] at k
      exact s_retL (el_code 22) fun p H3 hp e3 h3 => k p H3 (Did.same SL A rfl (fresh_back (e1.trans e2) hp) ((e1.trans e2).trans e3) h3 rfl)
    rw [if_neg (of_decide_eq_false hb2)] at k
    have e12 := e1.trans e2
    have SL2 := SL.ex e12
    obtain ⟨t, t1, t2, t3⟩ := SL2.it_at (of_decide_eq_true hb)
    refine q_asg (v := .ref t.1) (ev_ixM (r := fun (t : Addr × Addr × Kp427.Item) => V.ref t.1) (ev_shelf T SL2.toStE (ev_var rfl)) (ev_var rfl) (sq_of SL2.sh) t1) fun H3 e3 => ?_
    have SL3 := SL2.ex e3
    refine q_asg (v := nV t.2.2.price) (ev_itF T (SL3.it t t2) (ev_var rfl) T.iPrice rfl) fun H4 e4 => ?_
    have SL4 := SL3.ex e4
    have e14 := (e12.trans e3).trans e4
    obtain ⟨dx, ot⟩ := (SL4.it t t2).ob
    refine q_fldV (y := nV pr) (a := t.1) (ev_var rfl) (ev_var rfl) ot T.clI T.iPrice (by show 5 < 1000; decide) fun H5 e5 => ?_
    have SL5 := SL4.ex e5
    obtain ⟨S6, A6⟩ := SL5.setItem (it' := { t.2.2 with price := pr }) (dx := dx) A t1 rfl (upd_same (o := .ins c.I dx (itF t.2.1 { t.2.2 with price := pr }))) (Kept.first (Ex.refl H5))
    refine s_retL (el_lst (ea_cons (ev_var rfl) ea_nil) (by show 1 ≤ 100000; decide)) fun p H6 hp e6 h6 => k p H6 ?_
    rw [t3.symm]
    have i1 : t.1 ∈ foot a L := its_foot t2
    refine Did.after rfl S6 A6 (fun b hb => Or.inl ?_) (fun b o q n => ?_) (fun b q => ?_) hp e6 h6 rfl (fun b hb => Or.inl (by unfold lists at hb ⊢; rw [← cat_set t1]; exact hb))
    · unfold foot at hb ⊢
      rw [← addr_set t1]
      exact hb
    · rw [upd_ne (fun z : b = t.1 => n (by rw [z]; exact i1))]
      exact (e14.trans e5) b o q
    · exact fresh_back (e14.trans e5) (none_of_upd q)
abbrev s_set_withdrawn : Stmt := top 50
abbrev n_set_withdrawn : List Str := ["store", "item", "flag", "changed", "old_flag"]
theorem sc_set_withdrawn : FnScope n_set_withdrawn ["store", "item", "flag"] (defScope s_set_withdrawn) := ⟨rfl, rfl, rfl, by decide +kernel, rfl, by decide +kernel, by decide +kernel⟩
def p_set_withdrawn (c : Adr) : Sp := fun vs H Q E => ∃ (i pr : Nat), p_mut c [nV i, nV pr] (.setWithdrawn i pr) vs H Q E
theorem d_set_withdrawn (T : Txt K mg c) (D_item_exists : DefAt P w K mg base 1 "item_exists" ["store", "item"] (rdV (p_item_exists c))) (D_not_found : DefAt P w K mg base 1 "not_found" [] (rdL (p_code 2))) (D_outside_limits : DefAt P w K mg base 1 "outside_limits" [] (rdL (p_code 22)))
    (D0 : Def0 K mg "set_withdrawn" s_set_withdrawn ["store", "item", "flag"]) : DefAt P w K mg base 2 "set_withdrawn" ["store", "item", "flag"] (p_set_withdrawn c) := by
  refine DefAt.of D0 sc_set_withdrawn (fun vs H Q E h => ?_) (fun f cdv A outer s H vs Q E hr h => ?_)
  · obtain ⟨i, pr, a, L, s, rfl, _⟩ := h
    rfl
  · obtain ⟨i, pr, a, L, st, rfl, SL, A, k⟩ := h
    have S := SL.toStE
    refine ⟨_, (pss_cons (ps_if (pt_not (pt_val (pcD D_item_exists hr (pa_cons (pv 0) (pa_cons (pv 1) pa_nil))))) (pss_one (ps_ret (pcD0 D_not_found hr))) pss_nil) (pss_cons (ps_if (pt_cmpR op_gt (pv 2) (gI T.kMAX_FLAG) (nomark _)) (pss_one (ps_ret (pcD0 D_outside_limits hr))) pss_nil) (pss_cons (ps_set (i := 3) sc_set_withdrawn.nd rfl (Or.inl rfl) (ixK (K := K) (fK (K := K) (pv 0)) (pv 1))) (pss_cons (ps_set (i := 4) sc_set_withdrawn.nd rfl (Or.inl rfl) (fK (K := K) (pv 3))) (pss_cons (ps_fld (pv 3) (pv 2) rfl) (pss_one (ps_ret (pe_lst (pa_cons (pv 4) pa_nil))))))))), ?_⟩
    refine q_when (b := !Kp427.hasItem st i) (et_not (et_B (ev_hasItem S (ea_cons (ev_var rfl) (ea_cons (ev_var rfl) ea_nil))))) (fun hb H1 e1 => ?_) fun hb H1 e1 => ?_
    · rw [Bool.not_eq_true'] at hb
      have es : Kp427.step (some st) (.setWithdrawn i pr) = (some st, Kp427.single (-2)) := by
        show (if Kp427.hasItem st i = false then _ else _) = _
        rw [if_pos hb]
      rw [es] at k
      exact s_retL (el_code 2) fun p H2 hp e2 h2 => k p H2 (Did.same SL A rfl (fresh_back e1 hp) (e1.trans e2) h2 rfl)
    rw [Bool.not_eq_false'] at hb
    have es : Kp427.step (some st) (.setWithdrawn i pr) = if 1 < pr then (some st, Kp427.single (-22)) else (some { st with items := st.items.set i { Kp427.itemAt st i with withdrawn := pr == 1 } }, Kp427.single (Kp427.flag (Kp427.itemAt st i).withdrawn : Nat)) := by
      show (if Kp427.hasItem st i = false then _ else _) = _
      rw [if_neg (by rw [hb]; exact Bool.noConfusion)]
    rw [es] at k
    refine q_when (b := decide (1 < pr)) (et_test (ev_op (ev_var rfl) (ev_n 1) rv_gtN)) (fun hb2 H2 e2 => ?_) fun hb2 H2 e2 => ?_
    · rw [if_pos (of_decide_eq_true hb2)] at k
      exact s_retL (el_code 22) fun p H3 hp e3 h3 => k p H3 (Did.same SL A rfl (fresh_back (e1.trans e2) hp) ((e1.trans e2).trans e3) h3 rfl)
    rw [if_neg (of_decide_eq_false hb2)] at k
    have e12 := e1.trans e2
    have SL2 := SL.ex e12
    obtain ⟨t, t1, t2, t3⟩ := SL2.it_at (of_decide_eq_true hb)
    refine q_asg (v := .ref t.1) (ev_ixM (r := fun (t : Addr × Addr × Kp427.Item) => V.ref t.1) (ev_shelf T SL2.toStE (ev_var rfl)) (ev_var rfl) (sq_of SL2.sh) t1) fun H3 e3 => ?_
    have SL3 := SL2.ex e3
    refine q_asg (v := nV (flagN t.2.2.withdrawn)) (ev_itF T (SL3.it t t2) (ev_var rfl) T.iWithdrawn rfl) fun H4 e4 => ?_
    have SL4 := SL3.ex e4
    have e14 := (e12.trans e3).trans e4
    obtain ⟨dx, ot⟩ := (SL4.it t t2).ob
    refine q_fldV (y := nV pr) (a := t.1) (ev_var rfl) (ev_var rfl) ot T.clI T.iWithdrawn (by show 5 < 1000; decide) fun H5 e5 => ?_
    have SL5 := SL4.ex e5
    have eF : putF "withdrawn" (nV pr) (itF t.2.1 t.2.2) = itF t.2.1 { t.2.2 with withdrawn := pr == 1 } := by
      have h1 : pr = 0 ∨ pr = 1 := by have := of_decide_eq_false hb2; omega
      rcases h1 with rfl | rfl <;> rfl
    rw [eF]
    obtain ⟨S6, A6⟩ := SL5.setItem (it' := { t.2.2 with withdrawn := pr == 1 }) (dx := dx) A t1 rfl (upd_same (o := .ins c.I dx (itF t.2.1 { t.2.2 with withdrawn := pr == 1 }))) (Kept.first (Ex.refl H5))
    refine s_retL (el_lst (ea_cons (ev_var rfl) ea_nil) (by show 1 ≤ 100000; decide)) fun p H6 hp e6 h6 => k p H6 ?_
    rw [t3.symm]
    have i1 : t.1 ∈ foot a L := its_foot t2
    refine Did.after rfl S6 A6 (fun b hb => Or.inl ?_) (fun b o q n => ?_) (fun b q => ?_) hp e6 h6 rfl (fun b hb => Or.inl (by unfold lists at hb ⊢; rw [← cat_set t1]; exact hb))
    · unfold foot at hb ⊢
      rw [← addr_set t1]
      exact hb
    · rw [upd_ne (fun z : b = t.1 => n (by rw [z]; exact i1))]
      exact (e14.trans e5) b o q
    · exact fresh_back (e14.trans e5) (none_of_upd q)
end
end Shelf
end

section
set_option maxHeartbeats 4000000
namespace Shelf
open PySem PySem.Spec PyProof.Rows L2 Evl
section
variable {P : Program} {w : World} {K : PySem.W.Frag} {mg : Str → Option Value} {base : Heap} {c : Adr}
abbrev s_time_follows : Stmt := top 54
abbrev n_time_follows : List Str := ["store", "time"]
theorem sc_time_follows : FnScope n_time_follows ["store", "time"] (defScope s_time_follows) := ⟨rfl, rfl, rfl, by decide +kernel, rfl, by decide +kernel, by decide +kernel⟩
def p_time_follows (c : Adr) (vs : List V) (H : Hp) (z : V) : Prop := ∃ (a : Addr) (L : Lay) (s : Kp427.Store) (t : Nat), vs = [.ref a, nV t] ∧ StE c H a L s ∧ z = .bl (Kp427.validTime t && decide (Kp427.lastTime s ≤ t))
theorem d_time_follows (T : Txt K mg c) (D_last_time : DefAt P w K mg base 1 "last_time" ["store"] (rdV (p_last_time c))) (D0 : Def0 K mg "time_follows" s_time_follows ["store", "time"]) : DefAt P w K mg base 2 "time_follows" ["store", "time"] (rdV (p_time_follows c)) := by
  refine DefAt.of D0 sc_time_follows (fun vs H Q E h => ?_) (fun f cdv A outer s H vs Q E hr h => ?_)
  · obtain ⟨xs, ⟨a, L, s, t, rfl, _⟩, _⟩ := h
    rfl
  · obtain ⟨xs, ⟨a, L, st, t, rfl, S, rfl⟩, k⟩ := h
    exact ⟨_, (pss_one (ps_ret (pe_and (pe_cmpR op_le (pv 1) (gI T.kMAX_TIME) (nomark _)) (pe_one (pe_cmpR op_ge (pv 1) (pcD D_last_time hr (pa_cons (pv 0) pa_nil)) (nomark _)))))), s_ret (ev_andV (ev_op (ev_var rfl) (ev_n 100000000) rv_leN) fun _ => ev_op (ev_var rfl) (ev_callD (ea_cons (ev_var rfl) ea_nil) fun H1 e => ⟨a, L, st, rfl, S.ex e, rfl⟩) rv_geN) k⟩
abbrev s_record : Stmt := top 55
abbrev n_record : List Str := ["store", "time", "member", "item", "kind", "value"]
theorem sc_record : FnScope n_record ["store", "time", "member", "item", "kind", "value"] (defScope s_record) := ⟨rfl, rfl, rfl, by decide +kernel, rfl, by decide +kernel, by decide +kernel⟩
def p_record (c : Adr) : Sp := fun vs H Q E => ∃ (t m i kd v : Nat), p_mut c [nV t, nV m, nV i, nV kd, nV v] (.record t m i kd v) vs H Q E
theorem mem_ids {s : Kp427.Store} {m : Nat} (h : Kp427.hasMember s m = true) : m ∈ s.members.map Kp427.Member.id := by
  unfold Kp427.hasMember Kp427.memberWith at h
  obtain ⟨x, hx⟩ := Option.isSome_iff_exists.mp h
  have h1 := List.find?_some hx
  have h2 := List.mem_of_find?_eq_some hx
  exact List.mem_map.mpr ⟨x, h2, beq_iff_eq.mp h1⟩
theorem valid_value {kd v : Nat} (h : Kp427.validEvent kd v = true) : kd < 6 ∧ v ≤ 10 := by
  unfold Kp427.validEvent Kp427.kindCount at h
  rw [Bool.and_eq_true] at h
  refine ⟨of_decide_eq_true h.1, ?_⟩
  have h2 := h.2
  split at h2
  · rw [Bool.and_eq_true] at h2
    exact of_decide_eq_true h2.2
  · have := beq_iff_eq.mp h2
    omega
theorem d_record (T : Txt K mg c) (D_member_exists : DefAt P w K mg base 1 "member_exists" ["store", "member"] (rdV (p_member_exists c))) (D_item_exists : DefAt P w K mg base 1 "item_exists" ["store", "item"] (rdV (p_item_exists c)))
    (D_not_found : DefAt P w K mg base 1 "not_found" [] (rdL (p_code 2))) (D_outside_limits : DefAt P w K mg base 1 "outside_limits" [] (rdL (p_code 22))) (D_not_possible : DefAt P w K mg base 1 "not_possible" [] (rdL (p_code 33))) (D_too_many : DefAt P w K mg base 1 "too_many" [] (rdL (p_code 28)))
    (D_time_follows : DefAt P w K mg base 2 "time_follows" ["store", "time"] (rdV (p_time_follows c))) (D_value_fits : DefAt P w K mg base 1 "value_fits" ["kind", "value"] (rdV p_value_fits)) (D_Event : NewAt P w K mg base 1 "Event" c.E ["self", "time", "member", "item", "kind", "value"] (p_new c.E 5 F_Event))
    (D0 : Def0 K mg "record" s_record ["store", "time", "member", "item", "kind", "value"]) : DefAt P w K mg base 3 "record" ["store", "time", "member", "item", "kind", "value"] (p_record c) := by
  refine DefAt.of D0 sc_record (fun vs H Q E h => ?_) (fun f cdv A outer s H vs Q E hr h => ?_)
  · obtain ⟨t, m, i, kd, v, a, L, s, rfl, _⟩ := h
    rfl
  · obtain ⟨t, m, i, kd, v, a, L, st, rfl, SL, A, k⟩ := h
    have S := SL.toStE
    refine ⟨_, (pss_cons (ps_if (PW.pt (pw_or (pt_not (pt_val (pcD D_member_exists (hr.mono (by decide)) (pa_cons (pv 0) (pa_cons (pv 2) pa_nil))))) (pw_or1 (pt_not (pt_val (pcD D_item_exists (hr.mono (by decide)) (pa_cons (pv 0) (pa_cons (pv 3) pa_nil)))))))) (pss_one (ps_ret (pcD0 D_not_found (hr.mono (by decide))))) pss_nil) (pss_cons (ps_if (PW.pt (pw_or (pt_not (pt_val (pcD D_time_follows hr (pa_cons (pv 0) (pa_cons (pv 1) pa_nil))))) (pw_or1 (pt_not (pt_val (pcD D_value_fits (hr.mono (by decide)) (pa_cons (pv 4) (pa_cons (pv 5) pa_nil)))))))) (pss_one (ps_ret (pcD0 D_outside_limits (hr.mono (by decide))))) pss_nil) (pss_cons (ps_if (PW.pt (pw_and (pt_cmpR op_eq (pv 4) (gI T.kPURCHASE) (nomark _)) (pw_and1 (pt_cmpR op_eq (fK (K := K) (ixK (K := K) (fK (K := K) (pv 0)) (pv 3))) pe_int (nomark _))))) (pss_one (ps_ret (pcD0 D_not_possible (hr.mono (by decide))))) pss_nil) (pss_cons (ps_if (pt_cmpR op_ge (pe_callB call_len_seq (by rfl) T.b_len PySem.boot_len (pa_cons (fK (K := K) (pv 0)) pa_nil)) (gI T.kMAX_EVENTS) (nomark _)) (pss_one (ps_ret (pcD0 D_too_many (hr.mono (by decide))))) pss_nil) (pss_cons (ps_expr (pe_bm PySem.F.plainAttrs_list PySem.F.slot_list_append PySem.F.type_list_append mt_append (fK (K := K) (pv 0)) (pa_cons (pmD D_Event hr (pa_cons (pv 1) (pa_cons (pv 2) (pa_cons (pv 3) (pa_cons (pv 4) (pa_cons (pv 5) pa_nil)))))) pa_nil))) (pss_one (ps_ret (pe_lst (pa_cons (pe_callB call_len_seq (by rfl) T.b_len PySem.boot_len (pa_cons (fK (K := K) (pv 0)) pa_nil)) pa_nil))))))))), ?_⟩
    have es : Kp427.step (some st) (.record t m i kd v) = if Kp427.hasMember st m = false ∨ Kp427.hasItem st i = false then (some st, Kp427.single (-2)) else if (Kp427.validTime t && decide (Kp427.lastTime st ≤ t) && Kp427.validEvent kd v) = false then (some st, Kp427.single (-22))
      else if (Kp427.itemAt st i).withdrawn = true ∧ kd = 4 then (some st, Kp427.single (-33)) else if 200 ≤ st.events.length then (some st, Kp427.single (-28)) else (some (Kp427.addEvent st ⟨t, m, i, kd, v⟩), Kp427.single (st.events.length + 1 : Nat)) := rfl
    rw [es] at k
    refine q_when (b := !Kp427.hasMember st m || !Kp427.hasItem st i) (et_or (et_not (et_B (ev_hasMember SL (ea_cons (ev_var rfl) (ea_cons (ev_var rfl) ea_nil))))) fun _ => et_not (et_B (ev_hasItem S (ea_cons (ev_var rfl) (ea_cons (ev_var rfl) ea_nil))))) (fun hb H1 e1 => ?_) fun hb H1 e1 => ?_
    · rw [Bool.or_eq_true, Bool.not_eq_true', Bool.not_eq_true'] at hb
      rw [if_pos hb] at k
      exact s_retL (el_code 2) fun p H2 hp e2 h2 => k p H2 (Did.same SL A rfl (fresh_back e1 hp) (e1.trans e2) h2 rfl)
    rw [Bool.or_eq_false_iff, Bool.not_eq_false', Bool.not_eq_false'] at hb
    obtain ⟨hm, hi⟩ := hb
    rw [if_neg (by rw [hm, hi]; simp)] at k
    have SL1 := SL.ex e1
    refine q_when (b := !(Kp427.validTime t && decide (Kp427.lastTime st ≤ t)) || !Kp427.validEvent kd v) (et_or (et_not (et_B (ev_callD (ea_cons (ev_var rfl) (ea_cons (ev_var rfl) ea_nil)) fun H2 e2 => ⟨a, L, st, t, rfl, SL1.toStE.ex e2, rfl⟩)))
      fun _ => et_not (et_B (ev_callD (ea_cons (ev_var rfl) (ea_cons (ev_var rfl) ea_nil)) fun H2 e2 => ⟨kd, v, rfl, rfl⟩))) (fun hb H2 e2 => ?_) fun hb H2 e2 => ?_
    · have hc : (Kp427.validTime t && decide (Kp427.lastTime st ≤ t) && Kp427.validEvent kd v) = false := by
        rw [← Bool.not_and, Bool.not_eq_true'] at hb
        exact hb
      rw [if_pos hc] at k
      exact s_retL (el_code 22) fun p H3 hp e3 h3 => k p H3 (Did.same SL A rfl (fresh_back (e1.trans e2) hp) ((e1.trans e2).trans e3) h3 rfl)
    have hc : (Kp427.validTime t && decide (Kp427.lastTime st ≤ t) && Kp427.validEvent kd v) = true := by
      rw [← Bool.not_and, Bool.not_eq_false'] at hb
      exact hb
    rw [if_neg (by rw [hc]; exact Bool.noConfusion)] at k
    have hv := valid_value (Bool.and_eq_true_iff.mp hc).2
    have SL2 := SL1.ex e2
    obtain ⟨it, t1, t2, t3⟩ := SL2.it_at (of_decide_eq_true hi)
    have e12 := e1.trans e2
    refine q_when (b := (kd == 4) && (Kp427.itemAt st i).withdrawn) (et_and (et_test (ev_op (ev_var rfl) (ev_n 4) rv_eqN)) fun _ => et_is (et_test (ev_op (ev_itF T (SL2.it it t2) (ev_ixM (r := fun (t : Addr × Addr × Kp427.Item) => V.ref t.1) (ev_shelf T SL2.toStE (ev_var rfl)) (ev_var rfl) (sq_of SL2.sh) t1) T.iWithdrawn rfl) (ev_n 1) rv_eqN)) ?_) (fun hb H3 e3 => ?_) fun hb H3 e3 => ?_
    · rw [t3]
      cases (Kp427.itemAt st i).withdrawn <;> rfl
    · rw [Bool.and_eq_true, beq_iff_eq] at hb
      rw [if_pos ⟨hb.2, hb.1⟩] at k
      exact s_retL (el_code 33) fun p H4 hp e4 h4 => k p H4 (Did.same SL A rfl (fresh_back (e12.trans e3) hp) ((e12.trans e3).trans e4) h4 rfl)
    rw [if_neg (fun z => by rw [z.1, z.2] at hb; exact Bool.noConfusion hb)] at k
    have SL3 := SL2.ex e3
    have e13 := e12.trans e3
    refine q_when (b := decide (200 ≤ st.events.length)) (et_test (ev_op (ev_lenX (ev_events T SL3.toStE (ev_var rfl)) (sq_of SL3.ev) (by rw [List.length_map, S.elen])) (ev_n 200) rv_geN)) (fun hb H4 e4 => ?_) fun hb H4 e4 => ?_
    · rw [if_pos (of_decide_eq_true hb)] at k
      exact s_retL (el_code 28) fun p H5 hp e5 h5 => k p H5 (Did.same SL A rfl (fresh_back (e13.trans e4) hp) ((e13.trans e4).trans e5) h5 rfl)
    have h200 := of_decide_eq_false hb
    rw [if_neg h200] at k
    have SL4 := SL3.ex e4
    have e14 := e13.trans e4
    refine q_appI (C := c.E) (fs := F_Event [nV t, nV m, nV i, nV kd, nV v]) SL4.ev (ev_events T SL4.toStE (ev_var rfl)) (ei_make (ea_cons (ev_var rfl) (ea_cons (ev_var rfl) (ea_cons (ev_var rfl) (ea_cons (ev_var rfl) (ea_cons (ev_var rfl) ea_nil))))) rfl) (by rw [List.length_map, S.elen]; omega) fun x H5 hx e5 hev => ?_
    obtain ⟨S6, A6⟩ := SL4.addEvent (e := ⟨t, m, i, kd, v⟩) A hx e5 hev (mem_ids hm) (of_decide_eq_true hi) hv.1 hv.2 (by omega)
    have ee : evV L.evs ++ [V.ref x] = evV (L.evs ++ [(x, ⟨t, m, i, kd, v⟩)]) := by
      rw [evV, evV, List.map_append]
      rfl
    rw [ee]
    refine s_retL (el_lst (ea_cons (ev_lenX (n := st.events.length + 1) (ev_events T S6.toStE (ev_var rfl)) (sq_of S6.ev) ?_) ea_nil) (by show 1 ≤ 100000; decide)) fun p H6 hp e6 h6 => k p H6 ?_
    · rw [List.length_map, List.length_append, List.length_singleton, S.elen]
    · refine Did.after rfl S6 A6 (fun b hb => Or.inl hb) (fun b o q n => ?_) (fun b q => fresh_back (e14.trans e5) (none_of_upd q)) hp e6 h6 rfl
      rw [upd_ne (fun z : b = L.ev => n (by rw [z]; simp [foot]))]
      exact (e14.trans e5) b o q
abbrev s_expire : Stmt := top 56
abbrev n_expire : List Str := ["store", "time", "kept_for", "kept", "removed_count", "event"]
theorem sc_expire : FnScope n_expire ["store", "time"] (defScope s_expire) := ⟨rfl, rfl, rfl, by decide +kernel, rfl, by decide +kernel, by decide +kernel⟩
def p_expire (c : Adr) : Sp := fun vs H Q E => ∃ (t : Nat), p_mut c [nV t] (.expire t) vs H Q E
theorem filter_len_compl {α : Type} (p : α → Bool) : ∀ l : List α, (l.filter p).length + (l.filter fun x => !p x).length = l.length
  | [] => rfl
  | x :: r => by
    have ih := filter_len_compl p r
    cases h : p x with
    | true =>
      rw [List.filter_cons, if_pos h, List.filter_cons, if_neg (by simp [h])]
      simp only [List.length_cons]
      omega
    | false =>
      rw [List.filter_cons, if_neg (by simp [h]), List.filter_cons, if_pos (by simp [h])]
      simp only [List.length_cons]
      omega
theorem d_expire (T : Txt K mg c) (D_outside_limits : DefAt P w K mg base 1 "outside_limits" [] (rdL (p_code 22))) (D0 : Def0 K mg "expire" s_expire ["store", "time"]) : DefAt P w K mg base 2 "expire" ["store", "time"] (p_expire c) := by
  refine DefAt.of D0 sc_expire (fun vs H Q E h => ?_) (fun f cdv A outer s H vs Q E hr h => ?_)
  · obtain ⟨t, a, L, s, rfl, _⟩ := h
    rfl
  · obtain ⟨t, a, L, st, rfl, SL, A, k⟩ := h
    have S := SL.toStE
    refine ⟨_, (pss_cons (ps_if (pt_cmpR op_gt (pv 1) (gI T.kMAX_TIME) (nomark _)) (pss_one (ps_ret (pcD0 D_outside_limits hr))) pss_nil) (pss_cons (ps_if (pt_cmpR op_eq (fK (K := K) (pv 0)) pe_int (nomark _)) (pss_one (ps_ret (pe_lst (pa_cons pe_int pa_nil)))) pss_nil) (pss_cons (ps_set (i := 2) sc_expire.nd rfl (Or.inr rfl) (pe_op op_mulW (fK (K := K) (pv 0)) (gI T.kMINUTES_OF_DAY))) (pss_cons (ps_setLc (i := 3) rfl sc_expire.nd rfl rfl (sw_true rfl rfl rfl (by decide +kernel)) (own := [("event", 5)]) (g := gName 5) (piK (K := K) (fK (K := K) (pv 0))) (blkOk_by (own := [("event", 5)]) (N := n_expire) (sc := defScope s_expire) (by decide +kernel)) (fun _ _ _ _ _ => pg_name (i := 5) sc_expire.nd rfl (Or.inl rfl)) (fun _ _ _ _ _ => (pts_one (pt_cmpR op_gt (pe_op op_add (fK (K := K) (pv 5)) (pv 2)) (pv 1) (nomark _)))) (fun _ _ _ _ _ => (pv 5))) (pss_cons (ps_set (i := 4) sc_expire.nd rfl (Or.inl rfl) (pe_op op_sub (pe_callB call_len_seq (by rfl) T.b_len PySem.boot_len (pa_cons (fK (K := K) (pv 0)) pa_nil)) (pe_callB call_len_seq (by rfl) T.b_len PySem.boot_len (pa_cons (pv 3) pa_nil)))) (pss_cons (ps_fld (pv 0) (pv 3) rfl) (pss_one (ps_ret (pe_lst (pa_cons (pv 4) pa_nil)))))))))), ?_⟩
    have es : Kp427.step (some st) (.expire t) = if Kp427.validTime t then (some (Kp427.expire st t), Kp427.single ((st.events.filter (Kp427.isExpired st t)).length : Nat)) else (some st, Kp427.single (-22)) := rfl
    rw [es] at k
    refine q_when (b := decide (100000000 < t)) (et_test (ev_op (ev_var rfl) (ev_n 100000000) rv_gtN)) (fun hb H1 e1 => ?_) fun hb H1 e1 => ?_
    · have hv : Kp427.validTime t = false := decide_eq_false (by have := of_decide_eq_true hb; omega)
      rw [hv, if_neg Bool.false_ne_true] at k
      exact s_retL (el_code 22) fun p H2 hp e2 h2 => k p H2 (Did.same SL A rfl (fresh_back e1 hp) (e1.trans e2) h2 rfl)
    have hv : Kp427.validTime t = true := decide_eq_true (by have := of_decide_eq_false hb; omega)
    rw [hv, if_pos rfl] at k
    have SL1 := SL.ex e1
    refine q_when (b := st.retention == 0) (et_test (ev_op (ev_ret T SL1.toStE (ev_var rfl)) (ev_n 0) rv_eqN)) (fun hb H2 e2 => ?_) fun hb H2 e2 => ?_
    · have h0 : ∀ e, Kp427.isExpired st t e = false := fun e => by
        unfold Kp427.isExpired
        rw [bne, hb]
        rfl
      have e3 : Kp427.expire st t = st := by
        unfold Kp427.expire
        have : st.events.filter (fun e => !Kp427.isExpired st t e) = st.events := by simp [h0]
        rw [this]
      have e4 : st.events.filter (Kp427.isExpired st t) = [] := by simp [h0]
      rw [e3, e4] at k
      exact s_retL (el_lst (ea_cons (ev_n 0) ea_nil) (by show 1 ≤ 100000; decide)) fun p H3 hp e3 h3 => k p H3 (Did.same SL A rfl (fresh_back (e1.trans e2) hp) ((e1.trans e2).trans e3) h3 rfl)
    have SL2 := SL1.ex e2
    have e12 := e1.trans e2
    have hret := S.good.ret
    have l200 := S.elen200
    have hx : ∀ e, (!Kp427.isExpired st t e) = decide (t < e.time + st.retention * 1440) := fun e => by
      unfold Kp427.isExpired Kp427.minutesPerDay
      rw [bne, hb]
      show (!decide _) = _
      rw [← decide_not]
      exact decide_eq_decide.mpr Nat.not_le
    refine q_asg (v := nV (st.retention * 1440)) (ev_op (ev_ret T SL2.toStE (ev_var rfl)) (ev_n 1440) (rv_mulN (p := 20) (q := 20) (Nat.lt_of_le_of_lt hret (by decide)) (by decide) (by decide) (by decide) (by decide))) fun H3 e3 => ?_
    have SL3 := SL2.ex e3
    refine q_asgL (xs := evV (L.evs.filter fun e => !Kp427.isExpired st t e.2)) (el_comp (ys := L.evs) (r := fun e => V.ref e.1) (fun e => !Kp427.isExpired st t e.2) (fun e => V.ref e.1) (ev_events T SL3.toStE (ev_var rfl)) (sq_of SL3.ev) (by omega) (fun _ => rfl) ?_ ?_) fun q H4 hq e4 h4 => ?_
    · intro y H4 e4 my
      rw [hx]
      exact et_test (ev_op (ev_op (ev_time T ((SL3.evs y my).ex e4) (ev_var rfl)) (ev_var rfl) rv_addN) (ev_var rfl) rv_gtN)
    · intro y H4 e4 my _
      exact ev_var rfl
    have SL4 := SL3.ex e4
    have e13 := e12.trans e3
    have hl := filter_len_compl (fun e : Addr × Kp427.Event => Kp427.isExpired st t e.2) L.evs
    refine q_asg (v := nV (L.evs.length - (L.evs.filter fun e => !Kp427.isExpired st t e.2).length)) (ev_op (ev_lenM (ev_events T SL4.toStE (ev_var rfl)) (sq_of SL4.ev)) (ev_lenM (ev_var rfl) (sq_of h4)) (rv_subN (by omega))) fun H5 e5 => ?_
    have SL5 := SL4.ex e5
    refine q_fldV (y := .ref q) (a := a) (ev_var rfl) (ev_var rfl) SL5.ob T.clS T.sEvents (by show 6 < 1000; decide) fun H6 e6 => ?_
    have e16 := ((e13.trans e4).trans e5).trans e6
    obtain ⟨S7, A7⟩ := SL.setEvents (q := q) (p := fun e => !Kp427.isExpired st t e) A (fresh_back e13 hq) e16 (e6 _ _ (e5 _ _ h4))
    refine s_retL (el_lst (ea_cons (ev_var rfl) ea_nil) (by show 1 ≤ 100000; decide)) fun p H7 hp e7 h7 => k p H7 ?_
    refine Did.after rfl S7 A7 (fun b hb => ?_) (fun b o q n => ?_) (fun b q => fresh_back e16 (none_of_upd q)) hp e7 h7 ?_
    · unfold foot at hb ⊢
      simp only [List.mem_cons] at hb ⊢
      rcases hb with z | z | z | z | z
      · exact Or.inl (Or.inl z)
      · exact Or.inl (Or.inr (Or.inl z))
      · exact Or.inl (Or.inr (Or.inr (Or.inl z)))
      · rw [z]
        exact Or.inr (fresh_back e13 hq)
      · exact Or.inl (Or.inr (Or.inr (Or.inr (Or.inr z))))
    · rw [upd_ne (fun z : b = a => n (by rw [z]; simp [foot]))]
      exact e16 b o q
    · show [nV _] = [V.int (((st.events.filter (Kp427.isExpired st t)).length : Nat) : Int)]
      rw [← S.filt (Kp427.isExpired st t), List.length_map]
      have : L.evs.length - (L.evs.filter fun e => !Kp427.isExpired st t e.2).length = (L.evs.filter fun e => Kp427.isExpired st t e.2).length := by omega
      rw [this]
end
end Shelf
end

section
set_option maxHeartbeats 4000000
namespace Shelf
open PySem PySem.Spec PyProof.Rows L2 Evl
section
variable {K : PySem.W.Frag} {σ : L2.St} {H H' : Hp} {td ty tv : TE} {D : Ends} {tz : TS} {p : Addr} {kvs : List (Key × V)} {k : Key} {v : V}
theorem q_dput (hv : Ev tv σ H v) (hd : Ev td σ H (.ref p)) (hk : Ev ty σ H (kV k)) (h : H p = some (.dK kvs)) (hl : kvs.length < 100000) (q : ∀ H1, Ex H H1 → tz D σ (upd H1 p (.dK (putK kvs k v)))) : tSeq (sDPut td ty tv) tz D σ H :=
  hv H (Ex.refl H) _ fun H1 e1 => hd H1 e1 _ fun H2 e2 => hk H2 (e1.trans e2) _ fun H3 e3 => ⟨p, _, rfl, DPut.k (((e1.trans e2).trans e3) _ _ h) (sz_lt hl), q H3 ((e1.trans e2).trans e3)⟩
theorem s_dput (hv : Ev tv σ H v) (hd : Ev td σ H (.ref p)) (hk : Ev ty σ H (kV k)) (h : H p = some (.dK kvs)) (hl : kvs.length < 100000) (q : ∀ H1, Ex H H1 → D.nx σ (upd H1 p (.dK (putK kvs k v)))) : sDPut td ty tv D σ H :=
  hv H (Ex.refl H) _ fun H1 e1 => hd H1 e1 _ fun H2 e2 => hk H2 (e1.trans e2) _ fun H3 e3 => ⟨p, _, rfl, DPut.k (((e1.trans e2).trans e3) _ _ h) (sz_lt hl), q H3 ((e1.trans e2).trans e3)⟩
/-- d.pop(k) for its effect -/
theorem q_dpop (hd : Ev td σ H (.ref p)) (hk : Ev ty σ H (kV k)) (h : H p = some (.dK kvs)) (hv : valV kvs k = some v) (q : ∀ H1, Ex H H1 → tz D σ (upd H1 p (.dK (dropK kvs k)))) : tSeq (tDrop (tDPop1 td ty)) tz D σ H :=
  hd H (Ex.refl H) _ fun H1 e1 => ⟨p, rfl, Or.inl ⟨kvs, Or.inl (e1 _ _ h)⟩, hk H1 e1 _ fun H2 e2 => ⟨kvs, k, v, (e1.trans e2) _ _ h, rfl, hv, q H2 (e1.trans e2)⟩⟩
end
section
variable {P : Program} {w : World} {K : PySem.W.Frag} {mg : Str → Option Value} {base : Heap} {c : Adr}
abbrev s_add_member : Stmt := top 65
abbrev n_add_member : List Str := ["store", "member", "day"]
theorem sc_add_member : FnScope n_add_member ["store", "member", "day"] (defScope s_add_member) := ⟨rfl, rfl, rfl, by decide +kernel, rfl, by decide +kernel, by decide +kernel⟩
def p_add_member (c : Adr) : Sp := fun vs H Q E => ∃ (m d : Nat), p_mut c [nV m, nV d] (.addMember m d) vs H Q E
theorem not_member {s : Kp427.Store} {m : Nat} (h : Kp427.hasMember s m = false) : Kp427.memberWith s m = none := by
  unfold Kp427.hasMember at h
  cases e : Kp427.memberWith s m with
  | none => rfl
  | some x =>
    rw [e] at h
    cases h
theorem mbK_len (s : Kp427.Store) : (mbK s).length = s.members.length := List.length_map ..
theorem d_add_member (T : Txt K mg c) (D_member_exists : DefAt P w K mg base 1 "member_exists" ["store", "member"] (rdV (p_member_exists c))) (D_outside_limits : DefAt P w K mg base 1 "outside_limits" [] (rdL (p_code 22))) (D_number_taken : DefAt P w K mg base 1 "number_taken" [] (rdL (p_code 17)))
    (D_too_many : DefAt P w K mg base 1 "too_many" [] (rdL (p_code 28))) (D0 : Def0 K mg "add_member" s_add_member ["store", "member", "day"]) : DefAt P w K mg base 2 "add_member" ["store", "member", "day"] (p_add_member c) := by
  refine DefAt.of D0 sc_add_member (fun vs H Q E h => ?_) (fun f cdv A outer s H vs Q E hr h => ?_)
  · obtain ⟨m, d, a, L, s, rfl, _⟩ := h
    rfl
  · obtain ⟨m, d, a, L, st, rfl, SL, A, k⟩ := h
    have hu := hu_of hr
    have S := SL.toStE
    refine ⟨_, (pss_cons (ps_if (PW.pt (pw_or (pt_cmpR op_gt (pv 1) (gI T.kMAX_MEMBER) (nomark _)) (pw_or1 (pt_cmpR op_gt (pv 2) (gI T.kMAX_DAY) (nomark _))))) (pss_one (ps_ret (pcD0 D_outside_limits hr))) pss_nil) (pss_cons (ps_if (pt_val (pcD D_member_exists hr (pa_cons (pv 0) (pa_cons (pv 1) pa_nil)))) (pss_one (ps_ret (pcD0 D_number_taken hr))) pss_nil) (pss_cons (ps_if (pt_cmpR op_ge (pe_callB call_lenD (by rfl) T.b_len PySem.boot_len (pa_cons (fK (K := K) (pv 0)) pa_nil)) (gI T.kMAX_MEMBERS) (nomark _)) (pss_one (ps_ret (pcD0 D_too_many hr))) pss_nil) (pss_cons (ps_dput hu (fK (K := K) (pv 0)) (pv 1) (pv 2) rfl) (pss_one (ps_ret (pe_lst (pa_cons (pe_callB call_lenD (by rfl) T.b_len PySem.boot_len (pa_cons (fK (K := K) (pv 0)) pa_nil)) pa_nil)))))))), ?_⟩
    have es : Kp427.step (some st) (.addMember m d) = if (decide (m ≤ 1000000) && decide (d ≤ 100000)) = false then (some st, Kp427.single (-22)) else if Kp427.hasMember st m then (some st, Kp427.single (-17)) else if 40 ≤ st.members.length then (some st, Kp427.single (-28))
      else (some (Kp427.addMember st m d), Kp427.single (st.members.length + 1 : Nat)) := rfl
    rw [es] at k
    refine q_when (b := decide (1000000 < m) || decide (100000 < d)) (et_or (et_test (ev_op (ev_var rfl) (ev_n 1000000) rv_gtN)) fun _ => et_test (ev_op (ev_var rfl) (ev_n 100000) rv_gtN)) (fun hb H1 e1 => ?_) fun hb H1 e1 => ?_
    · have hc : (decide (m ≤ 1000000) && decide (d ≤ 100000)) = false := by
        rw [Bool.or_eq_true, decide_eq_true_eq, decide_eq_true_eq] at hb
        rw [Bool.and_eq_false_iff, decide_eq_false_iff_not, decide_eq_false_iff_not]
        omega
      rw [if_pos hc] at k
      exact s_retL (el_code 22) fun p H2 hp e2 h2 => k p H2 (Did.same SL A rfl (fresh_back e1 hp) (e1.trans e2) h2 rfl)
    have hc : (decide (m ≤ 1000000) && decide (d ≤ 100000)) = true := by
      rw [Bool.or_eq_false_iff, decide_eq_false_iff_not, decide_eq_false_iff_not] at hb
      rw [Bool.and_eq_true, decide_eq_true_eq, decide_eq_true_eq]
      omega
    rw [if_neg (by rw [hc]; exact Bool.noConfusion)] at k
    have SL1 := SL.ex e1
    refine q_when (b := Kp427.hasMember st m) (et_B (ev_hasMember SL1 (ea_cons (ev_var rfl) (ea_cons (ev_var rfl) ea_nil)))) (fun hb H2 e2 => ?_) fun hb H2 e2 => ?_
    · rw [if_pos hb] at k
      exact s_retL (el_code 17) fun p H3 hp e3 h3 => k p H3 (Did.same SL A rfl (fresh_back (e1.trans e2) hp) ((e1.trans e2).trans e3) h3 rfl)
    rw [if_neg (by rw [hb]; exact Bool.noConfusion)] at k
    have SL2 := SL1.ex e2
    have e12 := e1.trans e2
    refine q_when (b := decide (40 ≤ st.members.length)) (et_test (ev_op (ev_lenD (ev_members T SL2.toStE (ev_var rfl)) SL2.mb (mbK_len st)) (ev_n 40) rv_geN)) (fun hb2 H3 e3 => ?_) fun hb2 H3 e3 => ?_
    · rw [if_pos (of_decide_eq_true hb2)] at k
      exact s_retL (el_code 28) fun p H4 hp e4 h4 => k p H4 (Did.same SL A rfl (fresh_back (e12.trans e3) hp) ((e12.trans e3).trans e4) h4 rfl)
    have h40 := of_decide_eq_false hb2
    rw [if_neg h40] at k
    have SL3 := SL2.ex e3
    have e13 := e12.trans e3
    have nm := not_member hb
    refine q_dput (k := keyN m) (v := nV d) (ev_var rfl) (ev_members T SL3.toStE (ev_var rfl)) (ev_var rfl) SL3.mb (by rw [mbK_len]; omega) fun H4 e4 => ?_
    have SL4 := SL3.ex e4
    have ek : putK (mbK st) (keyN m) (nV d) = mbK { st with members := st.members ++ [Kp427.Member.mk m d] } := by
      rw [putK_new _ (by rw [valV_mb, nm]; rfl)]
      show mbK st ++ _ = List.map (fun x : Kp427.Member => (keyN x.id, nV x.day)) (st.members ++ [Kp427.Member.mk m d])
      rw [List.map_append]
      rfl
    rw [ek]
    have nid : m ∉ st.members.map Kp427.Member.id := fun hm => by
      obtain ⟨x, hx, rfl⟩ := List.mem_map.mp hm
      have := List.find?_eq_none.mp nm x hx
      simp at this
    have S5 := SL4.setMembers (ms := st.members ++ [Kp427.Member.mk m d]) A (by rw [List.length_append, List.length_singleton]; omega) (by
      rw [List.map_append, List.nodup_append]
      refine ⟨S.good.mnd, by simp, fun x hx y hy => ?_⟩
      have hy' : y = m := by simpa using hy
      rw [hy']
      exact fun z => nid (z ▸ hx)) fun e he => by
        rw [List.map_append, List.mem_append]
        exact Or.inl (S.good.emem e he)
    refine s_retL (el_lst (ea_cons (ev_lenD (n := st.members.length + 1) (ev_members T S5.toStE (ev_var rfl)) S5.mb ?_) ea_nil) (by show 1 ≤ 100000; decide)) fun p H6 hp e6 h6 => k p H6 ?_
    · rw [mbK_len]
      show (st.members ++ [Kp427.Member.mk m d]).length = _
      rw [List.length_append, List.length_singleton]
    · refine Did.after rfl S5 A (fun b hb => Or.inl hb) (fun b o q n => ?_) (fun b q => fresh_back (e13.trans e4) (none_of_upd q)) hp e6 h6 rfl
      rw [upd_ne (fun z : b = L.mb => n (by rw [z]; simp [foot]))]
      exact (e13.trans e4) b o q
abbrev s_delete_member : Stmt := top 66
abbrev n_delete_member : List Str := ["store", "member", "kept", "removed_count", "event"]
theorem sc_delete_member : FnScope n_delete_member ["store", "member"] (defScope s_delete_member) := ⟨rfl, rfl, rfl, by decide +kernel, rfl, by decide +kernel, by decide +kernel⟩
def p_delete_member (c : Adr) : Sp := fun vs H Q E => ∃ (m : Nat), p_mut c [nV m] (.deleteMember m) vs H Q E
theorem drop_members (m : Nat) : ∀ l : List Kp427.Member, dropK (l.map fun x => (keyN x.id, nV x.day)) (keyN m) = (l.filter fun x => x.id != m).map fun x => (keyN x.id, nV x.day)
  | [] => rfl
  | x :: r => by
    have ih := drop_members m r
    unfold dropK at ih ⊢
    rw [List.map_cons, List.filter_cons, List.filter_cons, ih]
    by_cases h : x.id = m
    · have hk : (keyN x.id : Key) = keyN m := by rw [h]
      rw [if_neg (by simp [hk]), if_neg (by simp [h])]
    · have hk : ¬ (keyN x.id : Key) = keyN m := fun z => h (Int.ofNat.inj (Sum.inl.inj z))
      rw [if_pos (by simpa using hk), if_pos (by simpa using h), List.map_cons]
theorem d_delete_member (T : Txt K mg c) (D_member_exists : DefAt P w K mg base 1 "member_exists" ["store", "member"] (rdV (p_member_exists c))) (D_not_found : DefAt P w K mg base 1 "not_found" [] (rdL (p_code 2)))
    (D0 : Def0 K mg "delete_member" s_delete_member ["store", "member"]) : DefAt P w K mg base 2 "delete_member" ["store", "member"] (p_delete_member c) := by
  refine DefAt.of D0 sc_delete_member (fun vs H Q E h => ?_) (fun f cdv A outer s H vs Q E hr h => ?_)
  · obtain ⟨m, a, L, s, rfl, _⟩ := h
    rfl
  · obtain ⟨m, a, L, st, rfl, SL, A, k⟩ := h
    have hu := hu_of hr
    have S := SL.toStE
    refine ⟨_, (pss_cons (ps_if (pt_not (pt_val (pcD D_member_exists hr (pa_cons (pv 0) (pa_cons (pv 1) pa_nil))))) (pss_one (ps_ret (pcD0 D_not_found hr))) pss_nil) (pss_cons (ps_setLc (i := 2) rfl sc_delete_member.nd rfl rfl (sw_true rfl rfl rfl (by decide +kernel)) (own := [("event", 4)]) (g := gName 4) (piK (K := K) (fK (K := K) (pv 0))) (blkOk_by (own := [("event", 4)]) (N := n_delete_member) (sc := defScope s_delete_member) (by decide +kernel)) (fun _ _ _ _ _ => pg_name (i := 4) sc_delete_member.nd rfl (Or.inl rfl)) (fun _ _ _ _ _ => (pts_one (pt_cmpR op_ne (fK (K := K) (pv 4)) (pv 1) (nomark _)))) (fun _ _ _ _ _ => (pv 4))) (pss_cons (ps_set (i := 3) sc_delete_member.nd rfl (Or.inl rfl) (pe_op op_sub (pe_callB call_len_seq (by rfl) T.b_len PySem.boot_len (pa_cons (fK (K := K) (pv 0)) pa_nil)) (pe_callB call_len_seq (by rfl) T.b_len PySem.boot_len (pa_cons (pv 2) pa_nil)))) (pss_cons (ps_expr (pe_dpop1 (fK (K := K) (pv 0)) (pv 1) (by exact ⟨rfl, rfl, rfl, rfl⟩))) (pss_cons (ps_fld (pv 0) (pv 2) rfl) (pss_one (ps_ret (pe_lst (pa_cons (pv 3) pa_nil))))))))), ?_⟩
    have es : Kp427.step (some st) (.deleteMember m) = if Kp427.hasMember st m then (some (Kp427.deleteMember st m), Kp427.single ((Kp427.eventsOf st m).length : Nat)) else (some st, Kp427.single (-2)) := rfl
    rw [es] at k
    refine q_when (b := !Kp427.hasMember st m) (et_not (et_B (ev_hasMember SL (ea_cons (ev_var rfl) (ea_cons (ev_var rfl) ea_nil))))) (fun hb H1 e1 => ?_) fun hb H1 e1 => ?_
    · rw [Bool.not_eq_true'] at hb
      rw [hb, if_neg Bool.false_ne_true] at k
      exact s_retL (el_code 2) fun p H2 hp e2 h2 => k p H2 (Did.same SL A rfl (fresh_back e1 hp) (e1.trans e2) h2 rfl)
    rw [Bool.not_eq_false'] at hb
    rw [hb, if_pos rfl] at k
    have SL1 := SL.ex e1
    have l200 := S.elen200
    refine q_asgL (xs := evV (L.evs.filter fun e => e.2.member != m)) (el_comp (ys := L.evs) (r := fun e => V.ref e.1) (fun e => e.2.member != m) (fun e => V.ref e.1) (ev_events T SL1.toStE (ev_var rfl)) (sq_of SL1.ev) (by omega) (fun _ => rfl) ?_ ?_) fun q H2 hq e2 h2 => ?_
    · intro y H2 e2 my
      exact et_test (ev_op (ev_member T ((SL1.evs y my).ex e2) (ev_var rfl)) (ev_var rfl) rv_neN)
    · intro y H2 e2 my _
      exact ev_var rfl
    have SL2 := SL1.ex e2
    have hl := filter_len_compl (fun e : Addr × Kp427.Event => e.2.member == m) L.evs
    have hl' : (L.evs.filter fun e => e.2.member == m).length + (L.evs.filter fun e => e.2.member != m).length = L.evs.length := hl
    refine q_asg (v := nV (L.evs.length - (L.evs.filter fun e => e.2.member != m).length)) (ev_op (ev_lenM (ev_events T SL2.toStE (ev_var rfl)) (sq_of SL2.ev)) (ev_lenM (ev_var rfl) (sq_of h2)) (rv_subN (by omega))) fun H3 e3 => ?_
    have SL3 := SL2.ex e3
    obtain ⟨x, hx⟩ := Option.isSome_iff_exists.mp (show (Kp427.memberWith st m).isSome = true from hb)
    refine q_dpop (k := keyN m) (ev_members T SL3.toStE (ev_var rfl)) (ev_var rfl) SL3.mb (by rw [valV_mb, hx]; rfl) fun H4 e4 => ?_
    have SL4 := SL3.ex e4
    have e14 := ((e1.trans e2).trans e3).trans e4
    have nq : H q = none := fresh_back e1 hq
    have qm : q ≠ L.mb := fun z => by rw [z, SL.mb] at nq; cases nq
    have am : a ≠ L.mb := ho_ne SL.ob SL.mb (Ne.symm dK_ins)
    refine q_fldV (y := .ref q) (a := a) (dx := L.dx) (fs := stF L st) (ev_var rfl) (ev_var rfl) (by rw [upd_ne am]; exact SL4.ob) T.clS T.sEvents (by show 6 < 1000; decide) fun H5 e5 => ?_
    -- in the other order: the events first, then the members
    obtain ⟨S6, A6⟩ := SL.setEvents (q := q) (p := fun e => e.member != m) A nq e14 (e4 _ _ (e3 _ _ h2))
    have S7 := S6.setMembers (ms := st.members.filter fun x => x.id != m) A6 (Nat.le_trans (List.length_filter_le _ _) S.good.mlen) (S.good.mnd.sublist (List.Sublist.map _ List.filter_sublist)) (fun e he => by
      have he' := List.mem_filter.mp he
      obtain ⟨y, hy, ey⟩ := List.mem_map.mp (S.good.emem e he'.1)
      refine List.mem_map.mpr ⟨y, List.mem_filter.mpr ⟨hy, ?_⟩, ey⟩
      rw [ey]
      exact he'.2)
    have ek : dropK (mbK st) (keyN m) = mbK { st with members := st.members.filter fun x => x.id != m } := drop_members m st.members
    have S8 : StL c (upd H5 a (.ins c.S L.dx (putF "events" (.ref q) (stF L st)))) a { L with ev := q, evs := L.evs.filter fun e => e.2.member != m } (Kp427.deleteMember st m) := by
      refine S7.ex fun b o hb => ?_
      by_cases e1 : b = L.mb
      · rw [e1, upd_same] at hb
        rw [e1, upd_ne am.symm]
        refine e5 _ _ ?_
        rw [upd_same, ek]
        exact hb
      · rw [upd_ne e1] at hb
        by_cases e2 : b = a
        · rw [e2, upd_same] at hb ⊢
          exact hb
        · rw [upd_ne e2] at hb ⊢
          refine e5 _ _ ?_
          rw [upd_ne e1]
          exact hb
    refine s_retL (el_lst (ea_cons (ev_var rfl) ea_nil) (by show 1 ≤ 100000; decide)) fun p H7 hp e7 h7 => k p H7 ?_
    refine Did.after rfl S8 A6 (fun b hb => ?_) (fun b o q n => ?_) (fun b q => fresh_back e14 (none_of_upd (fresh_back e5 (none_of_upd q)))) hp e7 h7 ?_
    · unfold foot at hb ⊢
      simp only [List.mem_cons] at hb ⊢
      rcases hb with z | z | z | z | z
      · exact Or.inl (Or.inl z)
      · exact Or.inl (Or.inr (Or.inl z))
      · exact Or.inl (Or.inr (Or.inr (Or.inl z)))
      · rw [z]
        exact Or.inr nq
      · exact Or.inl (Or.inr (Or.inr (Or.inr (Or.inr z))))
    · rw [upd_ne (fun z : b = a => n (by rw [z]; simp [foot]))]
      refine e5 _ _ ?_
      rw [upd_ne (fun z : b = L.mb => n (by rw [z]; simp [foot]))]
      exact e14 b o q
    · show [nV _] = [V.int (((Kp427.eventsOf st m).length : Nat) : Int)]
      unfold Kp427.eventsOf
      rw [← S.filt (fun e => e.member == m), List.length_map]
      have : L.evs.length - (L.evs.filter fun e => e.2.member != m).length = (L.evs.filter fun e => e.2.member == m).length := by omega
      rw [this]
abbrev s_add_item : Stmt := top 48
abbrev n_add_item : List Str := ["store", "creator", "price", "day", "categories"]
theorem sc_add_item : FnScope n_add_item ["store", "creator", "price", "day", "categories"] (defScope s_add_item) := ⟨rfl, rfl, rfl, by decide +kernel, rfl, by decide +kernel, by decide +kernel⟩
def p_add_item (c : Adr) : Sp := fun vs H Q _ => ∃ (cr pr d : Nat) (cs : List Nat) (ca a : Addr) (L : Lay) (s : Kp427.Store), vs = [.ref a, nV cr, nV pr, nV d, .ref ca] ∧ StL c H a L s ∧ Apart L ∧ H ca = some (.lst (cs.map nV)) ∧ ca ≠ L.sh ∧ ca ≠ L.ev ∧
  ∀ p H', Did c H a L [ca] (Kp427.step (some s) (.addItem cr pr d cs)) p H' → Q (.ref p) H'
theorem d_add_item (T : Txt K mg c) (D_outside_limits : DefAt P w K mg base 1 "outside_limits" [] (rdL (p_code 22))) (D_too_many : DefAt P w K mg base 1 "too_many" [] (rdL (p_code 28))) (D_categories_fit : DefAt P w K mg base 1 "categories_fit" ["categories"] (rdV p_categories_fit))
    (D_Item : NewAt P w K mg base 1 "Item" c.I ["self", "creator", "price", "day", "categories"] (p_new c.I 4 F_Item)) (D0 : Def0 K mg "add_item" s_add_item ["store", "creator", "price", "day", "categories"]) : DefAt P w K mg base 3 "add_item" ["store", "creator", "price", "day", "categories"] (p_add_item c) := by
  refine DefAt.of D0 sc_add_item (fun vs H Q E h => ?_) (fun f cdv A outer s H vs Q E hr h => ?_)
  · obtain ⟨cr, pr, d, cs, ca, a, L, s, rfl, _⟩ := h
    rfl
  · obtain ⟨cr, pr, d, cs, ca, a, L, st, rfl, SL, A, hca, n1, n2, k⟩ := h
    have S := SL.toStE
    refine ⟨_, (pss_cons (ps_if (PW.pt (pw_or (pt_cmpR op_gt (pv 1) (gI T.kMAX_CREATOR) (nomark _)) (pw_or (pt_cmpR op_gt (pv 2) (gI T.kMAX_PRICE) (nomark _)) (pw_or (pt_cmpR op_gt (pv 3) (gI T.kMAX_DAY) (nomark _)) (pw_or1 (pt_not (pt_val (pcD D_categories_fit (hr.mono (by decide)) (pa_cons (pv 4) pa_nil))))))))) (pss_one (ps_ret (pcD0 D_outside_limits (hr.mono (by decide))))) pss_nil) (pss_cons (ps_if (pt_cmpR op_ge (pe_callB call_len_seq (by rfl) T.b_len PySem.boot_len (pa_cons (fK (K := K) (pv 0)) pa_nil)) (gI T.kMAX_ITEMS) (nomark _)) (pss_one (ps_ret (pcD0 D_too_many (hr.mono (by decide))))) pss_nil) (pss_cons (ps_expr (pe_bm PySem.F.plainAttrs_list PySem.F.slot_list_append PySem.F.type_list_append mt_append (fK (K := K) (pv 0)) (pa_cons (pmD D_Item hr (pa_cons (pv 1) (pa_cons (pv 2) (pa_cons (pv 3) (pa_cons (pv 4) pa_nil))))) pa_nil))) (pss_one (ps_ret (pe_lst (pa_cons (pe_op op_sub (pe_callB call_len_seq (by rfl) T.b_len PySem.boot_len (pa_cons (fK (K := K) (pv 0)) pa_nil)) pe_int) pa_nil))))))), ?_⟩
    have es : Kp427.step (some st) (.addItem cr pr d cs) = if (decide (cr ≤ 1000) && decide (pr ≤ 1000000) && decide (d ≤ 100000) && Kp427.validCategories cs) = false then (some st, Kp427.single (-22)) else if 40 ≤ st.items.length then (some st, Kp427.single (-28))
      else (some { st with items := st.items ++ [⟨cr, pr, d, cs, false⟩] }, Kp427.single (st.items.length : Nat)) := rfl
    rw [es] at k
    refine q_when (b := decide (1000 < cr) || (decide (1000000 < pr) || (decide (100000 < d) || !Kp427.validCategories cs))) (et_or (et_test (ev_op (ev_var rfl) (ev_n 1000) rv_gtN)) fun _ => et_or (et_test (ev_op (ev_var rfl) (ev_n 1000000) rv_gtN)) fun _ => et_or (et_test (ev_op (ev_var rfl) (ev_n 100000) rv_gtN)) fun _ =>
      et_not (et_B (ev_callD (ea_cons (ev_var rfl) ea_nil) fun H1 e1 => ⟨ca, cs, rfl, e1 _ _ hca, rfl⟩))) (fun hb H1 e1 => ?_) fun hb H1 e1 => ?_
    · have hc : (decide (cr ≤ 1000) && decide (pr ≤ 1000000) && decide (d ≤ 100000) && Kp427.validCategories cs) = false := by
        cases hv : Kp427.validCategories cs
        · rw [Bool.and_false]
        · rw [hv] at hb
          simp only [Bool.or_eq_true, decide_eq_true_eq, Bool.not_true, Bool.false_eq_true, or_false] at hb
          simp only [Bool.and_true, Bool.and_eq_false_iff, decide_eq_false_iff_not]
          omega
      rw [if_pos hc] at k
      exact s_retL (el_code 22) fun p H2 hp e2 h2 => k p H2 (Did.same SL A rfl (fresh_back e1 hp) (e1.trans e2) h2 rfl)
    have hc : (decide (cr ≤ 1000) && decide (pr ≤ 1000000) && decide (d ≤ 100000) && Kp427.validCategories cs) = true := by
      simp only [Bool.or_eq_false_iff, decide_eq_false_iff_not, Bool.not_eq_false'] at hb
      simp only [Bool.and_eq_true, decide_eq_true_eq]
      exact ⟨⟨⟨by omega, by omega⟩, by omega⟩, hb.2.2.2⟩
    rw [if_neg (by rw [hc]; exact Bool.noConfusion)] at k
    have hvc := (valid_iff cs).mp (Bool.and_eq_true_iff.mp hc).2
    have SL1 := SL.ex e1
    refine q_when (b := decide (40 ≤ st.items.length)) (et_test (ev_op (ev_lenX (ev_shelf T SL1.toStE (ev_var rfl)) (sq_of SL1.sh) (by rw [List.length_map, S.ilen])) (ev_n 40) rv_geN)) (fun hb2 H2 e2 => ?_) fun hb2 H2 e2 => ?_
    · rw [if_pos (of_decide_eq_true hb2)] at k
      exact s_retL (el_code 28) fun p H4 hp e4 h4 => k p H4 (Did.same SL A rfl (fresh_back (e1.trans e2) hp) ((e1.trans e2).trans e4) h4 rfl)
    have h40 := of_decide_eq_false hb2
    rw [if_neg h40] at k
    have SL2 := SL1.ex e2
    have e12 := e1.trans e2
    refine q_appI (C := c.I) (fs := F_Item [nV cr, nV pr, nV d, .ref ca]) SL2.sh (ev_shelf T SL2.toStE (ev_var rfl)) (ei_make (ea_cons (ev_var rfl) (ea_cons (ev_var rfl) (ea_cons (ev_var rfl) (ea_cons (ev_var rfl) ea_nil)))) rfl) (by rw [List.length_map, S.ilen]; omega) fun x H3 hx e3 hit => ?_
    have rise : ∀ l : List Nat, (∀ j, j + 1 < l.length → ∀ x y, l[j]? = some x → l[j + 1]? = some y → x < y) → l.Pairwise (· < ·) := fun l => by
      induction l with
      | nil => exact fun _ => List.Pairwise.nil
      | cons x r ih =>
        intro h
        have hr := ih fun j hj u v hu hv => h (j + 1) (by simpa using hj) u v (by simpa using hu) (by simpa using hv)
        refine List.pairwise_cons.mpr ⟨fun y hy => ?_, hr⟩
        cases r with
        | nil => cases hy
        | cons z r2 =>
          have h0 := h 0 (by simp) x z rfl rfl
          rcases List.mem_cons.mp hy with e | e
          · rw [e]
            exact h0
          · exact Nat.lt_trans h0 ((List.pairwise_cons.mp hr).1 y e)
    obtain ⟨S6, A6⟩ := SL2.addItem (x := x) (ca := ca) (i := ⟨cr, pr, d, cs, false⟩) A hx e3 hit (e12 _ _ hca) n1 n2 (by omega) ⟨hvc.1, List.Pairwise.imp (fun {a b} (h : a < b) => Nat.ne_of_lt h) (rise cs hvc.2.2), fun y hy => by
      obtain ⟨j, hj⟩ := List.getElem?_of_mem hy
      exact hvc.2.1 j y hj⟩
    refine s_retL (el_lst (ea_cons (ev_op (ev_lenX (n := st.items.length + 1) (ev_shelf T S6.toStE (ev_var rfl)) (sq_of S6.sh) ?_) (ev_n 1) (rv_subN (by omega))) ea_nil) (by show 1 ≤ 100000; decide)) fun p H6 hp e6 h6 => k p H6 ?_
    · rw [List.length_map, List.length_append, List.length_singleton, S.ilen]
    · refine Did.after rfl S6 A6 (fun b hb => ?_) (fun b o q n => ?_) (fun b q => fresh_back (e12.trans e3) (none_of_upd q)) hp e6 h6 ?_ (fun b hb => ?_)
      · unfold foot at hb ⊢
        rw [List.map_append] at hb
        simp only [List.mem_cons, List.mem_append, List.map_cons, List.map_nil, List.not_mem_nil, or_false] at hb ⊢
        rcases hb with z | z | z | z | z | z
        · exact Or.inl (Or.inl z)
        · exact Or.inl (Or.inr (Or.inl z))
        · exact Or.inl (Or.inr (Or.inr (Or.inl z)))
        · exact Or.inl (Or.inr (Or.inr (Or.inr (Or.inl z))))
        · exact Or.inl (Or.inr (Or.inr (Or.inr (Or.inr z))))
        · rw [z]
          exact Or.inr (fresh_back e12 hx)
      · rw [upd_ne (fun z : b = L.sh => n (by rw [z]; simp [foot]))]
        exact (e12.trans e3) b o q
      · show [nV (st.items.length + 1 - 1)] = [V.int ((st.items.length : Nat) : Int)]
        rw [Nat.add_sub_cancel]
      · unfold lists at hb ⊢
        rw [List.map_append] at hb
        simp only [List.mem_cons, List.mem_append, List.map_cons, List.map_nil, List.not_mem_nil, or_false] at hb ⊢
        rcases hb with z | z | z
        · exact Or.inl (Or.inl z)
        · exact Or.inl (Or.inr z)
        · exact Or.inr z
end
end Shelf
end

section
set_option maxHeartbeats 4000000
/-! Walks: over the keys of a dict (under its lock), over a list from behind, comprehensions over these and over a range; slices. -/
namespace Shelf
open PySem PySem.Spec PyProof.Rows L2 Evl
section
variable {K : PySem.W.Frag} {σ : L2.St} {H H' : Hp} {ta td te tl : TE} {t : TT} {D : Ends} {tu tz : TS} {j : Nat}
/-- a for over n items that are told ahead -/
theorem for_told {J : It} {n : Nat} {item : Nat → V} {g : TG} (W : Nat → L2.St → Hp → Prop) (h0 : W 0 σ H) (go : ∀ i σ H, i < n → W i σ H → J.go i H) (yld : ∀ i σ H x H', i < n → W i σ H → J.yld i H x H' → H' = H ∧ x = item i) (stop : ∀ σ H, W n σ H → J.stop n H)
    (hs : ∀ i σ H, i < n → W i σ H → g (item i) σ H fun σ2 H2 => tu { D with nx := W (i + 1), ct := W (i + 1), bk := D.nx } σ2 H2) (hd : ∀ σ H, W n σ H → D.nx σ H) :
    ∃ Z : Nat → Nat → L2.St → Hp → Prop, (∃ m, Z 0 m σ H) ∧ ∀ i m σ H, Z i m σ H →
      (J.stop i H ∧ D.nx σ H) ∨ (J.go i H ∧ ∃ N : L2.St → Hp → Prop, (∀ σ' H', N σ' H' → ∃ m', m' < m ∧ Z (i + 1) m' σ' H') ∧ ∀ x H', J.yld i H x H' → g x σ H' fun σ2 H2 => tu { D with nx := N, ct := N, bk := D.nx } σ2 H2) := by
  refine ⟨fun i m σ H => m = n - i ∧ i ≤ n ∧ W i σ H, ⟨n, rfl, Nat.zero_le _, h0⟩, fun i m σ H ⟨e, hi, w⟩ => ?_⟩
  by_cases lt : i < n
  · refine Or.inr ⟨go i σ H lt w, W (i + 1), fun σ' H' w' => ⟨n - (i + 1), by omega, rfl, lt, w'⟩, fun x H' y => ?_⟩
    obtain ⟨rfl, rfl⟩ := yld i σ H x H' lt w y
    exact hs i σ _ lt w
  · have e2 : i = n := by omega
    subst e2
    exact Or.inl ⟨stop σ H w, hd σ H w⟩
/-- the same for a comprehension -/
theorem lc_told {J : It} {n : Nat} {item : Nat → V} {g : TG} {vs : List Nat} {L : Addr} {Q : Hp → Prop} (W : Nat → Hp → Prop) (h0 : W 0 (upd H L (.lst []))) (go : ∀ i H, i < n → W i H → J.go i H) (yld : ∀ i H x H', i < n → W i H → J.yld i H x H' → H' = H ∧ x = item i) (stop : ∀ H, W n H → J.stop n H)
    (hs : ∀ i H, i < n → W i H → g (item i) (wipe σ vs) H fun σ2 H2 => wipe σ2 vs = wipe σ vs ∧ t σ2 H2 fun b H3 => if b = true then te σ2 H3 fun y H4 => ∃ acc, H4 L = some (.lst acc) ∧ acc.length < sizeLine ∧ W (i + 1) (upd H4 L (.lst (acc ++ [y]))) else W (i + 1) H3) (hd : ∀ H, W n H → Q H) :
    ∃ Z : Nat → Nat → Hp → Prop, (∃ m, Z 0 m (upd H L (.lst []))) ∧ ∀ i m H, Z i m H →
      (J.stop i H ∧ Q H) ∨ (J.go i H ∧ ∃ N : Hp → Prop, (∀ H', N H' → ∃ m', m' < m ∧ Z (i + 1) m' H') ∧ ∀ x H', J.yld i H x H' → g x (wipe σ vs) H' fun σ2 H2 => wipe σ2 vs = wipe σ vs ∧ t σ2 H2 fun b H3 =>
        if b = true then te σ2 H3 fun y H4 => ∃ acc, H4 L = some (.lst acc) ∧ acc.length < sizeLine ∧ N (upd H4 L (.lst (acc ++ [y]))) else N H3) := by
  refine ⟨fun i m H => m = n - i ∧ i ≤ n ∧ W i H, ⟨n, rfl, Nat.zero_le _, h0⟩, fun i m H ⟨e, hi, w⟩ => ?_⟩
  by_cases lt : i < n
  · refine Or.inr ⟨go i H lt w, W (i + 1), fun H' w' => ⟨n - (i + 1), by omega, rfl, lt, w'⟩, fun x H' y => ?_⟩
    obtain ⟨rfl, rfl⟩ := yld i H x H' lt w y
    exact hs i _ lt w
  · have e2 : i = n := by omega
    subst e2
    exact Or.inl ⟨stop H w, hd H w⟩
/-- behind a lock -/
theorem lock_out {d : Addr} {od : Obj} {u : HO} (h : H d = some u) (e : Ex (upd H d (.frz od u)) H') : Ex H (upd H' d u) := fun b o q => by
  by_cases hb : b = d
  · rw [hb, h] at q
    rw [hb, upd_same]
    exact q
  · rw [upd_ne hb]
    exact e b o (by rw [upd_ne hb]; exact q)
theorem lock_at {d : Addr} {od : Obj} {u : HO} (e : Ex (upd H d (.frz od u)) H') : H' d = some (.frz od u) := e d _ upd_same
theorem lock_none {d b : Addr} {o : HO} (h : upd H d o b = none) : H b = none := by
  by_cases hb : b = d
  · rw [hb, upd_same] at h
    cases h
  · rw [upd_ne hb] at h
    exact h
/-- for k in d -/
theorem s_forKeys {d : Addr} {kvs : List (Key × V)} (h : H d = some (.dK kvs)) (he : ∀ od, Ev td σ (upd H d (.frz od (.dK kvs))) (.ref d)) (W : Obj → Nat → L2.St → Hp → Prop) (h0 : ∀ od H1, Ex (upd H d (.frz od (.dK kvs))) H1 → W od 0 σ H1) (hk : ∀ od i σ' H', W od i σ' H' → H' d = some (.frz od (.dK kvs)))
    (hs : ∀ od i k v σ' H' (R : VK) (B : L2.St → Hp → Prop), kvs[i]? = some (k, v) → W od i σ' H' → tu ⟨W od (i + 1), R, B, W od (i + 1)⟩ (σ'.set j (some (kV k))) H') (hd : ∀ od σ' H', W od kvs.length σ' H' → D.nx σ' (upd H' d (.dK kvs))) :
    tLock (tFor (iKeys td) (gName j) tu) D σ H := by
  refine ⟨d, _, h, trivial, fun od => ?_⟩
  refine he od _ (Ex.refl _) _ fun H1 e1 => ⟨d, od, rfl, Or.inl ⟨kvs, lock_at e1, ?_⟩⟩
  refine for_told (J := Itk d od kvs) (n := kvs.length) (item := fun i => kV ((kvs[i]?.map (·.1)).getD (Sum.inl 0))) (W od) (h0 od H1 e1) (fun i σ H hi w => ⟨hk od i σ H w, hi⟩) (fun i σ H x H' hi w y => ?_) (fun σ H w => ⟨hk od _ σ H w, Nat.le_refl _⟩) (fun i σ H hi w => ?_) fun σ H w => ⟨hk od _ σ H w, hd od σ H w⟩
  · obtain ⟨rfl, k, v, e, rfl⟩ := y
    refine ⟨rfl, ?_⟩
    show kV k = kV ((kvs[i]?.map (·.1)).getD (Sum.inl 0))
    rw [e]
    rfl
  · obtain ⟨⟨k, v⟩, e⟩ : ∃ kv, kvs[i]? = some kv := ⟨_, List.getElem?_eq_getElem hi⟩
    have q := hs od i k v σ H (fun v H' => H' d = some (.frz od (.dK kvs)) ∧ D.rt v (upd H' d (.dK kvs))) (fun σ' H' => H' d = some (.frz od (.dK kvs)) ∧ D.nx σ' (upd H' d (.dK kvs))) e w
    show tu _ (σ.set j (some (kV ((kvs[i]?.map (·.1)).getD (Sum.inl 0))))) H
    rw [e]
    exact q
theorem q_forKeys {d : Addr} {kvs : List (Key × V)} (h : H d = some (.dK kvs)) (he : ∀ od, Ev td σ (upd H d (.frz od (.dK kvs))) (.ref d)) (W : Obj → Nat → L2.St → Hp → Prop) (h0 : ∀ od H1, Ex (upd H d (.frz od (.dK kvs))) H1 → W od 0 σ H1) (hk : ∀ od i σ' H', W od i σ' H' → H' d = some (.frz od (.dK kvs)))
    (hs : ∀ od i k v σ' H' (R : VK) (B : L2.St → Hp → Prop), kvs[i]? = some (k, v) → W od i σ' H' → tu ⟨W od (i + 1), R, B, W od (i + 1)⟩ (σ'.set j (some (kV k))) H') (hd : ∀ od σ' H', W od kvs.length σ' H' → tz D σ' (upd H' d (.dK kvs))) :
    tSeq (tLock (tFor (iKeys td) (gName j) tu)) tz D σ H := s_forKeys (D := { D with nx := tz D }) h he W h0 hk hs hd
/-- a comprehension over the keys of a locked dict; ys: what the keys stand for -/
theorem el_compKeys {α : Type} {d : Addr} {od : Obj} {kvs : List (Key × V)} {ys : List α} {r : α → Key} (p : α → Bool) (g : α → V) {vs : List Nat} (h : Ev td σ H (.ref d)) (hx : H d = some (.frz od (.dK kvs))) (hy : kvs.map (·.1) = ys.map r) (hz : ys.length ≤ 50000) (hw : ∀ x, wipe ((wipe σ vs).set j (some x)) vs = wipe σ vs)
    (ht : ∀ y H1, Ex H H1 → y ∈ ys → EvT t ((wipe σ vs).set j (some (kV (r y)))) H1 (p y)) (he : ∀ y H1, Ex H H1 → y ∈ ys → p y = true → Ev te ((wipe σ vs).set j (some (kV (r y)))) H1 (g y)) :
    EvL (tLc (iKeys td) (gName j) t te vs) σ H ((ys.filter p).map g) := fun H0 e Q k => h H0 e _ fun H1 e1 => ⟨d, od, rfl, Or.inl ⟨kvs, (e.trans e1) _ _ hx, fun L hL => by
  have len : kvs.length = ys.length := by
    have z := congrArg List.length hy
    rw [List.length_map, List.length_map] at z
    exact z
  refine lc_told (J := Itk d od kvs) (n := ys.length) (item := fun i => kV (((ys.map r)[i]?).getD (Sum.inl 0))) (Cm H1 ys p g L) ⟨hL, Ex.new hL, upd_same⟩ (fun i H' hi w => ⟨((e.trans e1).trans w.2.1) _ _ hx, by omega⟩) (fun i H' x H2 hi w y => ?_) (fun H' w => ⟨((e.trans e1).trans w.2.1) _ _ hx, by omega⟩) (fun i H' hi w => ?_) fun H' w => ?_
  · obtain ⟨rfl, k, v, e5, rfl⟩ := y
    refine ⟨rfl, ?_⟩
    have e6 : (kvs.map (·.1))[i]? = some k := by rw [List.getElem?_map, e5]; rfl
    rw [hy] at e6
    show kV k = kV (((ys.map r)[i]?).getD (Sum.inl 0))
    rw [e6]
    rfl
  · have gy : ys[i]? = some ys[i] := List.getElem?_eq_getElem hi
    have my : ys[i] ∈ ys := List.getElem_mem hi
    show wipe ((wipe σ vs).set j (some (kV (((ys.map r)[i]?).getD (Sum.inl 0))))) vs = wipe σ vs ∧ t ((wipe σ vs).set j (some (kV (((ys.map r)[i]?).getD (Sum.inl 0))))) H' _
    rw [show (ys.map r)[i]? = some (r ys[i]) by rw [List.getElem?_map, gy]; rfl]
    exact ⟨hw _, cm_turn w gy hz (ht _ H1 (e.trans e1) my) (he _ H1 (e.trans e1) my)⟩
  · refine k L H' (fresh_back e1 w.1) (e1.trans w.2.1) ?_
    have z := w.2.2
    rw [List.take_length] at z
    exact z⟩⟩
/-- y = [.. for k in d ..] -/
theorem q_lockAsg {d : Addr} {u : HO} {xs : List V} (h : H d = some u) (mu : Mut (some u)) (he : ∀ od, EvL te σ (upd H d (.frz od u)) xs) (k : ∀ p H1, H p = none → Ex H H1 → H1 p = some (.lst xs) → tz D (σ.set j (some (.ref p))) H1) : tSeq (tLock (tAsg te (gName j))) tz D σ H := by
  refine ⟨d, u, h, mu, fun od => ?_⟩
  refine he od _ (Ex.refl _) _ fun p H1 hp e1 h1 => ⟨lock_at e1, k p _ (lock_none hp) (lock_out h e1) ?_⟩
  have pd : p ≠ d := fun z => by
    rw [z, upd_same] at hp
    cases hp
  rw [upd_ne pd]
  exact h1
/-- for x in reversed(xs): xs stands for ys -/
theorem s_forRev {α : Type} {ys : List α} {r : α → V} (h : EvL te σ H (ys.map r)) (W : Addr → Nat → L2.St → Hp → Prop) (h0 : ∀ p H1, H p = none → Ex H H1 → H1 p = some (.lst (ys.map r)) → W p 0 σ H1) (hl : ∀ p i σ' H', W p i σ' H' → SqL K H' p (ys.map r))
    (hs : ∀ p i y σ' H', ys.reverse[i]? = some y → W p i σ' H' → tu { D with nx := W p (i + 1), ct := W p (i + 1), bk := D.nx } (σ'.set j (some (r y))) H') (hd : ∀ p σ' H', W p ys.length σ' H' → D.nx σ' H') : tFor (iRev K (tCons te tNil)) (gName j) tu D σ H :=
  h H (Ex.refl H) _ fun p H1 hp e1 h1 => ⟨p, _, rfl, sq_of h1, by
    rw [List.length_map]
    refine for_told (J := Itv K p ys.length) (n := ys.length) (item := fun i => ((ys.map r)[ys.length - 1 - i]?).getD .non) (W p) (h0 p H1 hp e1 h1) (fun i σ H hi w => ⟨hi, _, _, hl p i σ H w, List.getElem?_eq_getElem (by rw [List.length_map]; omega)⟩) (fun i σ H x H' hi w y => ?_) (fun σ H w => Nat.le_refl _) (fun i σ H hi w => ?_) (hd p)
    · obtain ⟨rfl, y⟩ := y
      have z := y _ (hl p i σ _ w)
      refine ⟨rfl, ?_⟩
      show x = ((ys.map r)[ys.length - 1 - i]?).getD .non
      rw [z]
      rfl
    · have e : ys.reverse[i]? = some (ys[ys.length - 1 - i]'(by omega)) := by
        rw [List.getElem?_reverse hi]
        exact List.getElem?_eq_getElem (by omega)
      have q := hs p i _ σ H e w
      have e2 : (ys.map r)[ys.length - 1 - i]? = some (r (ys[ys.length - 1 - i]'(by omega))) := by
        rw [List.getElem?_map, List.getElem?_eq_getElem (by omega)]
        rfl
      show tu _ (σ.set j (some (((ys.map r)[ys.length - 1 - i]?).getD .non))) H
      rw [e2]
      exact q⟩
theorem q_forRev {α : Type} {ys : List α} {r : α → V} (h : EvL te σ H (ys.map r)) (W : Addr → Nat → L2.St → Hp → Prop) (h0 : ∀ p H1, H p = none → Ex H H1 → H1 p = some (.lst (ys.map r)) → W p 0 σ H1) (hl : ∀ p i σ' H', W p i σ' H' → SqL K H' p (ys.map r))
    (hs : ∀ p i y σ' H', ys.reverse[i]? = some y → W p i σ' H' → tu { D with nx := W p (i + 1), ct := W p (i + 1), bk := tz D } (σ'.set j (some (r y))) H') (hd : ∀ p σ' H', W p ys.length σ' H' → tz D σ' H') : tSeq (tFor (iRev K (tCons te tNil)) (gName j) tu) tz D σ H := s_forRev (D := { D with nx := tz D }) h W h0 hl hs hd
/-- a comprehension over range(n) -/
theorem el_compR {tn : TE} {n : Nat} {vs : List Nat} (p : Nat → Bool) (g : Nat → V) (h : Ev tn σ H (nV n)) (hn : n ≤ 40000) (hw : ∀ x, wipe ((wipe σ vs).set j (some x)) vs = wipe σ vs)
    (ht : ∀ i H1, Ex H H1 → i < n → EvT t ((wipe σ vs).set j (some (nV i))) H1 (p i)) (he : ∀ i H1, Ex H H1 → i < n → p i = true → Ev te ((wipe σ vs).set j (some (nV i))) H1 (g i)) : EvL (tLc (iRng1 (tCons tn tNil)) (gName j) t te vs) σ H (((List.range n).filter p).map g) := by
  have z := el_lcR1 (ta := tCons tn tNil) (te := te) (t := t) (j := j) (vs := vs) (n := (n : Int)) p g (ea_cons h ea_nil) ⟨by omega, by omega⟩ hw (fun i H1 e hi => ht i H1 e (by omega)) (fun i H1 e hi => he i H1 e (by omega))
  rw [Int.toNat_natCast] at z
  exact z
/-- xs[:n], xs[n:], xs[m:n] -/
theorem cut_take (xs : List V) (n : Nat) : cutV xs none (some (n : Int)) = xs.take n := by
  unfold cutV HT.sIx
  simp only [List.drop_zero]
  split
  · omega
  · rw [Nat.sub_zero, Int.toNat_natCast]
    rcases Nat.le_total n xs.length with h | h
    · rw [Nat.min_eq_left h]
    · rw [Nat.min_eq_right h, List.take_of_length_le (Nat.le_refl _), List.take_of_length_le h]
end
end Shelf
end

section
set_option maxHeartbeats 4000000
namespace Shelf
open PySem PySem.Spec PyProof.Rows L2 Evl
/-! ### mathematics -/
theorem flat_nV (l : List Nat) : (l.map nV).all flatV = true := by
  rw [List.all_eq_true]
  intro x hx
  obtain ⟨y, _, rfl⟩ := List.mem_map.mp hx
  rfl
theorem eqV_nV (a b : Nat) : eqV (nV a) (nV b) = (a == b) := by
  show ((a : Int) == (b : Int)) = (a == b)
  rw [Bool.beq_eq_decide_eq, Bool.beq_eq_decide_eq]
  exact decide_eq_decide.mpr (by omega)
theorem inV_nV (a : Nat) (l : List Nat) : inV (nV a) (l.map nV) = l.contains a := by
  unfold inV
  rw [List.any_map, List.contains_eq_any_beq]
  congr 1
  funext b
  first
    | exact eqV_nV b a
    | (show eqV (nV b) (nV a) = _; rw [eqV_nV]; exact Bool.beq_comm)
    | (show eqV (nV a) (nV b) = _; rw [eqV_nV])
theorem dups_snoc (l : List Nat) (x : Nat) : (l ++ [x]).eraseDups = if l.eraseDups.contains x then l.eraseDups else l.eraseDups ++ [x] := by
  rw [List.eraseDups_append]
  by_cases h : x ∈ l
  · rw [if_pos (by simpa using h)]
    have e : ([x].removeAll l) = [] := by simp [List.removeAll, h]
    rw [e]
    show l.eraseDups ++ [] = _
    rw [List.append_nil]
  · rw [if_neg (by simpa using h)]
    have e : ([x].removeAll l) = [x] := by simp [List.removeAll, h]
    rw [e]
    rfl
theorem nodup_dups : ∀ (n : Nat) (l : List Nat), l.length ≤ n → l.eraseDups.Nodup
  | _, [], _ => List.nodup_nil
  | 0, _ :: _, h => by cases h
  | n + 1, x :: r, h => by
    rw [List.eraseDups_cons]
    refine List.nodup_cons.mpr ⟨fun hm => ?_, nodup_dups n _ (Nat.le_trans (List.length_filter_le _ _) (Nat.le_of_succ_le_succ h))⟩
    rw [List.mem_eraseDups, List.mem_filter] at hm
    simp at hm
theorem met_nodup (n : Nat) (es : List Kp427.Event) : (metN n es).Nodup := List.Nodup.sublist List.filter_sublist List.nodup_range
/-- the different items, counted -/
theorem dups_len {n : Nat} {es : List Kp427.Event} {l : List Nat} (h : ∀ x, x ∈ l ↔ ∃ e ∈ es, e.item = x) (hn : ∀ e ∈ es, e.item < n) : l.eraseDups.length = (metN n es).length := by
  have sub1 : ∀ x ∈ l.eraseDups, x ∈ metN n es := fun x hx => by
    rw [List.mem_eraseDups, h] at hx
    obtain ⟨e, he, rfl⟩ := hx
    exact mem_met.mpr ⟨hn e he, e, he, rfl⟩
  have sub2 : ∀ x ∈ metN n es, x ∈ l.eraseDups := fun x hx => by
    rw [List.mem_eraseDups, h]
    exact (mem_met.mp hx).2
  have a := nodup_le _ _ (nodup_dups _ l (Nat.le_refl _)) sub1
  have b := nodup_le _ _ (met_nodup n es) sub2
  omega
theorem recent_len {n : Nat} {es : List Kp427.Event} (hn : ∀ e ∈ es, e.item < n) : (Kp427.recentItems es).length = (metN n es).length := by
  unfold Kp427.recentItems
  refine dups_len (fun x => ?_) hn
  rw [List.map_reverse, List.mem_reverse, List.mem_map]
theorem sess_len {n : Nat} {es : List Kp427.Event} (hn : ∀ e ∈ es, e.item < n) : (Kp427.sessionItems es).length = (metN n es).length := by
  unfold Kp427.sessionItems
  exact dups_len (fun x => List.mem_map) hn
theorem met_contains {n i : Nat} {es : List Kp427.Event} (hi : i < n) : (metN n es).contains i = es.any fun e => e.item == i := by
  rw [Bool.eq_iff_iff, List.contains_iff_mem, mem_met, List.any_eq_true]
  simp only [beq_iff_eq]
  exact ⟨fun h => h.2, fun h => ⟨hi, h⟩⟩
theorem met_contains' {n i : Nat} {es : List Kp427.Event} (hn : ∀ e ∈ es, e.item < n) : (metN n es).contains i = es.any fun e => e.item == i := by
  rw [Bool.eq_iff_iff, List.contains_iff_mem, mem_met, List.any_eq_true]
  simp only [beq_iff_eq]
  refine ⟨fun h => h.2, fun ⟨e, h1, h2⟩ => ⟨?_, e, h1, h2⟩⟩
  rw [← h2]
  exact hn e h1
section
variable {P : Program} {w : World} {K : PySem.W.Frag} {mg : Str → Option Value} {base : Heap} {c : Adr}
section
variable {σ : L2.St} {H : Hp} {ta tb : TE} {a : Addr} {L : Lay} {s : Kp427.Store} {m : Nat}
theorem StE.ofn (S : StE c H a L s) (p : Kp427.Event → Bool) : ∀ e ∈ L.evs.filter (fun e => p e.2), e.2.item < s.items.length := fun e he => S.good.eitem _ (S.mem (List.mem_filter.mp he).1)
theorem StE.oflen (S : StE c H a L s) (p : Kp427.Event → Bool) : (L.evs.filter fun e => p e.2).length ≤ 200 := Nat.le_trans (List.length_filter_le _ _) S.elen200
theorem StE.i63 (S : StE c H a L s) : s.items.length ≤ 63 := Nat.le_trans S.good.ilen (by decide)
theorem StE.evn (S : StE c H a L s) (p : Kp427.Event → Bool) : ∀ e ∈ s.events.filter p, e.item < s.items.length := fun e he => S.good.eitem _ (List.mem_filter.mp he).1
theorem ev_nin {l : List Nat} {p : Addr} {x : Nat} (ha : Ev ta σ H (nV x)) (hb : Ev tb σ H (.ref p)) (h : SqL K H p (l.map nV)) : Ev (tOp (rIn K true) ta tb) σ H (.bl (!l.contains x)) := by
  rw [← inV_nV]
  exact ev_op ha hb (rv_niL h rfl (flat_nV l))
theorem ev_isin {l : List Nat} {p : Addr} {x : Nat} (ha : Ev ta σ H (nV x)) (hb : Ev tb σ H (.ref p)) (h : SqL K H p (l.map nV)) : Ev (tOp (rIn K false) ta tb) σ H (.bl (l.contains x)) := by
  rw [← inV_nV]
  exact ev_op ha hb (rv_isL h rfl (flat_nV l))
theorem ev_isinN {l : List Nat} {x : Nat} (ha : Ev ta σ H (nV x)) (hb : EvL tb σ H (l.map nV)) : Ev (tOp (rIn K false) ta tb) σ H (.bl (l.contains x)) := by
  rw [← inV_nV]
  exact ev_opL ha hb fun p H1 h _ => rv_isL (sq_of h) rfl (flat_nV l)
end
abbrev s_item_info : Stmt := top 51
abbrev n_item_info : List Str := ["store", "item"]
theorem sc_item_info : FnScope n_item_info ["store", "item"] (defScope s_item_info) := ⟨rfl, rfl, rfl, by decide +kernel, rfl, by decide +kernel, by decide +kernel⟩
def p_item_info (c : Adr) (vs : List V) (H : Hp) (xs : List V) : Prop := ∃ i, p_ask c [nV i] (.itemInfo i) vs H xs
theorem d_item_info (T : Txt K mg c) (D_item_exists : DefAt P w K mg base 1 "item_exists" ["store", "item"] (rdV (p_item_exists c))) (D_not_found : DefAt P w K mg base 1 "not_found" [] (rdL (p_code 2))) (D_item_data : DefAt P w K mg base 1 "item_data" ["store", "item"] (rdL (p_item_data c)))
    (D0 : Def0 K mg "item_info" s_item_info ["store", "item"]) : DefAt P w K mg base 2 "item_info" ["store", "item"] (rdL (p_item_info c)) := by
  refine DefAt.of D0 sc_item_info (fun vs H Q E h => ?_) (fun f cdv A outer s H vs Q E hr h => ?_)
  · obtain ⟨xs, ⟨i, a, L, s, rfl, _⟩, _⟩ := h
    rfl
  · obtain ⟨xs, ⟨i, a, L, st, rfl, SL, rfl⟩, k⟩ := h
    have S := SL.toStE
    refine ⟨_, (pss_cons (ps_if (pt_not (pt_val (pcD D_item_exists hr (pa_cons (pv 0) (pa_cons (pv 1) pa_nil))))) (pss_one (ps_ret (pcD0 D_not_found hr))) pss_nil) (pss_one (ps_ret (pcD D_item_data hr (pa_cons (pv 0) (pa_cons (pv 1) pa_nil)))))), ?_⟩
    have es : (Kp427.step (some st) (.itemInfo i)).2 = if Kp427.hasItem st i then Kp427.natResult (Kp427.itemAt st i).creator ([(Kp427.itemAt st i).price, (Kp427.itemAt st i).day, Kp427.flag (Kp427.itemAt st i).withdrawn, (Kp427.itemAt st i).categories.length] ++ (Kp427.itemAt st i).categories) else Kp427.single (-2) := rfl
    rw [es] at k
    refine q_when (b := !Kp427.hasItem st i) (et_not (et_B (ev_hasItem S (ea_cons (ev_var rfl) (ea_cons (ev_var rfl) ea_nil))))) (fun hb H1 e1 => ?_) fun hb H1 e1 => ?_
    · rw [Bool.not_eq_true'] at hb
      rw [hb] at k
      exact s_retL (el_code 2) fun p H2 hp e2 h2 => k p H2 (fresh_back e1 hp) (e1.trans e2) h2
    · rw [Bool.not_eq_false'] at hb
      rw [hb, if_pos rfl, ansV_nat] at k
      exact s_retL (el_callD (ea_cons (ev_var rfl) (ea_cons (ev_var rfl) ea_nil)) fun H2 e2 => ⟨a, L, st, i, rfl, S.ex (e1.trans e2), of_decide_eq_true hb, rfl⟩) fun p H2 hp e2 h2 => k p H2 (fresh_back e1 hp) (e1.trans e2) h2
theorem ev_dget {K : PySem.W.Frag} {σ : L2.St} {H : Hp} {td ty : TE} {p : Addr} {kvs : List (Key × V)} {k : Key} {v : V} (hd : Ev td σ H (.ref p)) (hk : Ev ty σ H (kV k)) (h : H p = some (.dK kvs)) (hv : valV kvs k = some v) : Ev (tDGet td ty) σ H v := fun H1 e Q q =>
  hd H1 e _ fun H2 e2 => hk H2 (e.trans e2) _ fun H3 e3 => ⟨p, v, rfl, by rw [← hv]; exact DGet.k (((e.trans e2).trans e3) _ _ h), q H3 (e2.trans e3)⟩
abbrev s_member_info : Stmt := top 67
abbrev n_member_info : List Str := ["store", "member", "own", "last_time"]
theorem sc_member_info : FnScope n_member_info ["store", "member"] (defScope s_member_info) := ⟨rfl, rfl, rfl, by decide +kernel, rfl, by decide +kernel, by decide +kernel⟩
def p_member_info (c : Adr) (vs : List V) (H : Hp) (xs : List V) : Prop := ∃ m, p_ask c [nV m] (.memberInfo m) vs H xs
theorem d_member_info (T : Txt K mg c) (D_member_exists : DefAt P w K mg base 1 "member_exists" ["store", "member"] (rdV (p_member_exists c))) (D_not_found : DefAt P w K mg base 1 "not_found" [] (rdL (p_code 2)))
    (D_events_of : DefAt P w K mg base 1 "events_of" ["store", "member"] (rdL (p_events_of c))) (D_items_met : DefAt P w K mg base 1 "items_met" ["events"] (rdL (p_items_met c)))
    (D0 : Def0 K mg "member_info" s_member_info ["store", "member"]) : DefAt P w K mg base 2 "member_info" ["store", "member"] (rdL (p_member_info c)) := by
  refine DefAt.of D0 sc_member_info (fun vs H Q E h => ?_) (fun f cdv A outer s H vs Q E hr h => ?_)
  · obtain ⟨xs, ⟨i, a, L, s, rfl, _⟩, _⟩ := h
    rfl
  · obtain ⟨xs, ⟨m, a, L, st, rfl, SL, rfl⟩, k⟩ := h
    have hu := hu_of hr
    have S := SL.toStE
    refine ⟨_, (pss_cons (ps_if (pt_not (pt_val (pcD D_member_exists hr (pa_cons (pv 0) (pa_cons (pv 1) pa_nil))))) (pss_one (ps_ret (pcD0 D_not_found hr))) pss_nil) (pss_cons (ps_set (i := 2) sc_member_info.nd rfl (Or.inl rfl) (pcD D_events_of hr (pa_cons (pv 0) (pa_cons (pv 1) pa_nil)))) (pss_cons (ps_set (i := 3) sc_member_info.nd rfl (Or.inl rfl) (pe_ifExp (pt_cmpR op_gt (pe_callB call_len_seq (by rfl) T.b_len PySem.boot_len (pa_cons (pv 2) pa_nil)) pe_int (nomark _)) (pe_op op_add (fK (K := K) (ixK (K := K) (pv 2) (pe_op op_sub (pe_callB call_len_seq (by rfl) T.b_len PySem.boot_len (pa_cons (pv 2) pa_nil)) pe_int))) pe_int) pe_int)) (pss_one (ps_ret (pe_lst (pa_cons (pe_dget hu (fK (K := K) (pv 0)) (pv 1) (fun _ _ => rfl)) (pa_cons (pe_callB call_len_seq (by rfl) T.b_len PySem.boot_len (pa_cons (pv 2) pa_nil)) (pa_cons (pe_callB call_len_seq (by rfl) T.b_len PySem.boot_len (pa_cons (pcD D_items_met hr (pa_cons (pv 2) pa_nil)) pa_nil)) (pa_cons (pv 3) pa_nil)))))))))), ?_⟩
    have es : (Kp427.step (some st) (.memberInfo m)).2 = match Kp427.memberWith st m with
      | none => Kp427.single (-2)
      | some x => Kp427.natResult x.day ([(Kp427.eventsOf st m).length, (Kp427.recentItems (Kp427.eventsOf st m)).length] ++ (match (Kp427.eventsOf st m).getLast? with
        | none => [0]
        | some e => [e.time + 1])) := rfl
    rw [es] at k
    refine q_when (b := !Kp427.hasMember st m) (et_not (et_B (ev_hasMember SL (ea_cons (ev_var rfl) (ea_cons (ev_var rfl) ea_nil))))) (fun hb H1 e1 => ?_) fun hb H1 e1 => ?_
    · rw [Bool.not_eq_true'] at hb
      rw [not_member hb] at k
      exact s_retL (el_code 2) fun p H2 hp e2 h2 => k p H2 (fresh_back e1 hp) (e1.trans e2) h2
    rw [Bool.not_eq_false'] at hb
    obtain ⟨x, hx⟩ := Option.isSome_iff_exists.mp (show (Kp427.memberWith st m).isSome = true from hb)
    rw [hx] at k
    have k2 : ∀ p H', H p = none → Ex H H' → H' p = some (.lst (ansV (Kp427.natResult x.day ([(Kp427.eventsOf st m).length, (Kp427.recentItems (Kp427.eventsOf st m)).length] ++ (match (Kp427.eventsOf st m).getLast? with
        | none => [0]
        | some e => [e.time + 1]))))) → Q (.ref p) H' := k
    rw [ansV_nat] at k2
    have SL1 := SL.ex e1
    refine q_asgL (el_eventsOf SL1.toStE (ea_cons (ev_var rfl) (ea_cons (ev_var rfl) ea_nil))) fun q H2 hq e2 h2 => ?_
    have SL2 := SL1.ex e2
    have e12 := e1.trans e2
    have own := SL2.evs.filter fun e => e.2.member == m
    have eo : (L.evs.filter fun e => e.2.member == m).map (·.2) = Kp427.eventsOf st m := S.filt fun e => e.member == m
    have l200 := S.oflen fun e => e.member == m
    have v4 : Ev (tIf (tTest (tOp (rI0 fun i j => .bl (decide (j < i))) (tCB (rLenS K) (tCons (tVar 2) tNil)) (tC (.int 0)))) (tOp (rI0 fun i j => .int (i + j)) (tFld K (tOp (rIxL K) (tVar 2) (tOp (rI0 fun i j => .int (i - j)) (tCB (rLenS K) (tCons (tVar 2) tNil)) (tC (.int 1)))) "time") (tC (.int 1))) (tC (.int 0)))
        ((start n_member_info [V.ref a, nV m]).set 2 (some (.ref q))) H2 (nV (match (Kp427.eventsOf st m).getLast? with
        | none => 0
        | some e => e.time + 1)) := by
      refine ev_if (b := decide (0 < (L.evs.filter fun e => e.2.member == m).length)) (et_test (ev_op (ev_lenM (ev_var rfl) (sq_of h2)) (ev_n 0) rv_gtN)) (fun hb => ?_) fun hb => ?_
      · have h0 := of_decide_eq_true hb
        obtain ⟨y, hy⟩ : ∃ y, (L.evs.filter fun e => e.2.member == m)[(L.evs.filter fun e => e.2.member == m).length - 1]? = some y := ⟨_, List.getElem?_eq_getElem (by omega)⟩
        have my := List.mem_of_getElem? hy
        rw [← eo, List.getLast?_map, ← getLast_at _ h0, hy]
        exact ev_op (ev_time T (own y my) (ev_ixM (r := fun (e : Addr × Kp427.Event) => V.ref e.1) (ev_var rfl) (ev_op (ev_lenM (ev_var rfl) (sq_of h2)) (ev_n 1) (rv_subN (by omega))) (sq_of h2) hy)) (ev_n 1) rv_addN
      · have h0 : (L.evs.filter fun e => e.2.member == m) = [] := List.length_eq_zero_iff.mp (by have := of_decide_eq_false hb; omega)
        rw [← eo, h0]
        exact ev_n 0
    refine q_asg v4 fun H3 e3 => ?_
    have SL3 := SL2.ex e3
    refine s_retL (el_is (el_lst (ea_cons (ev_dget (K := K) (k := keyN m) (v := nV x.day) (ev_members T SL3.toStE (ev_var rfl)) (ev_var rfl) SL3.mb (by rw [valV_mb, hx]; rfl)) (ea_cons (ev_lenM (ev_var rfl) (sq_of (e3 _ _ h2))) (ea_cons (ev_lenNM (el_itemsMet st.items.length (ea_cons (ev_var rfl) ea_nil) (e3 _ _ h2) (own.ex e3) (S.ofn fun e => e.member == m) S.i63 (by omega))) (ea_cons (ev_var rfl) ea_nil))))
      (by show 4 ≤ 100000; decide)) ?_) fun p H4 hp e4 h4 => k2 p H4 (fresh_back (e12.trans e3) hp) ((e12.trans e3).trans e4) h4
    have er : (Kp427.recentItems (Kp427.eventsOf st m)).length = (metN st.items.length (Kp427.eventsOf st m)).length := recent_len (S.evn fun e => e.member == m)
    rw [eo, er]
    have el : (L.evs.filter fun e => e.2.member == m).length = (Kp427.eventsOf st m).length := by rw [← eo, List.length_map]
    rw [el]
    unfold Kp427.eventsOf
    cases (st.events.filter fun e => e.member == m).getLast? <;> rfl
abbrev s_status : Stmt := top 97
abbrev n_status : List Str := ["store", "available", "item"]
theorem sc_status : FnScope n_status ["store"] (defScope s_status) := ⟨rfl, rfl, rfl, by decide +kernel, rfl, by decide +kernel, by decide +kernel⟩
def p_status (c : Adr) (vs : List V) (H : Hp) (xs : List V) : Prop := p_ask c [] .status vs H xs
theorem d_status (T : Txt K mg c) (D_is_available : DefAt P w K mg base 1 "is_available" ["store", "item"] (rdV (p_is_available c))) (D_last_time : DefAt P w K mg base 1 "last_time" ["store"] (rdV (p_last_time c)))
    (D0 : Def0 K mg "status" s_status ["store"]) : DefAt P w K mg base 2 "status" ["store"] (rdL (p_status c)) := by
  refine DefAt.of D0 sc_status (fun vs H Q E h => ?_) (fun f cdv A outer s H vs Q E hr h => ?_)
  · obtain ⟨xs, ⟨a, L, s, rfl, _⟩, _⟩ := h
    rfl
  · obtain ⟨xs, ⟨a, L, st, rfl, SL, rfl⟩, k⟩ := h
    have S := SL.toStE
    refine ⟨_, (pss_cons (ps_setLc (i := 1) rfl sc_status.nd rfl rfl (sw_true rfl rfl rfl (by decide +kernel)) (own := [("item", 2)]) (g := gName 2) (pi_range1 rfl T.b_range (pa_cons (pe_callB call_len_seq (by rfl) T.b_len PySem.boot_len (pa_cons (fK (K := K) (pv 0)) pa_nil)) pa_nil)) (blkOk_by (own := [("item", 2)]) (N := n_status) (sc := defScope s_status) (by decide +kernel)) (fun _ _ _ _ _ => pg_name (i := 2) sc_status.nd rfl (Or.inl rfl)) (fun _ _ _ _ _ => (pts_one (pt_val (pcD D_is_available hr (pa_cons (pv 0) (pa_cons (pv 2) pa_nil)))))) (fun _ _ _ _ _ => (pv 2))) (pss_one (ps_ret (pe_lst (pa_cons (pe_callB call_len_seq (by rfl) T.b_len PySem.boot_len (pa_cons (fK (K := K) (pv 0)) pa_nil)) (pa_cons (pe_callB call_len_seq (by rfl) T.b_len PySem.boot_len (pa_cons (pv 1) pa_nil)) (pa_cons (pe_callB call_lenD (by rfl) T.b_len PySem.boot_len (pa_cons (fK (K := K) (pv 0)) pa_nil)) (pa_cons (pe_callB call_len_seq (by rfl) T.b_len PySem.boot_len (pa_cons (fK (K := K) (pv 0)) pa_nil)) (pa_cons (pcD D_last_time hr (pa_cons (pv 0) pa_nil)) pa_nil))))))))), ?_⟩
    have es : (Kp427.step (some st) .status).2 = Kp427.natResult st.items.length [(Kp427.available st).length, st.members.length, st.events.length, Kp427.lastTime st] := rfl
    rw [es, ansV_nat] at k
    have l40 := S.good.ilen
    have ln : ∀ {H1 : Hp} {σ : L2.St} {te : TE}, Ex H H1 → Ev te σ H1 (.ref L.sh) → Ev (tCB (rLenS K) (tCons te tNil)) σ H1 (nV st.items.length) := fun {H1 σ te} e h => ev_lenX h (sq_of (S.ex e).sh) (by rw [List.length_map, S.ilen])
    refine q_asgL (el_compR (fun i => !(Kp427.itemAt st i).withdrawn) nV (ln (Ex.refl H) (ev_shelf T S (ev_var rfl))) (by omega) (fun _ => rfl) (fun i H1 e hi => et_B (ev_isAvailable (S.ex e) hi (ea_cons (ev_var rfl) (ea_cons (ev_var rfl) ea_nil)))) fun i H1 e hi _ => ev_var rfl) fun q H1 hq e1 h1 => ?_
    have SL1 := SL.ex e1
    refine s_retL (el_lst (ea_cons (ln e1 (ev_shelf T SL1.toStE (ev_var rfl))) (ea_cons (ev_lenM (ev_var rfl) (sq_of h1)) (ea_cons (ev_lenD (ev_members T SL1.toStE (ev_var rfl)) SL1.mb (mbK_len st)) (ea_cons (ev_lenX (ev_events T SL1.toStE (ev_var rfl)) (sq_of SL1.ev) (by rw [List.length_map, S.elen])) (ea_cons (ev_callD (ea_cons (ev_var rfl) ea_nil) fun H2 e2 => ⟨a, L, st, rfl, SL1.toStE.ex e2, rfl⟩) ea_nil)))))
      (by show 5 ≤ 100000; decide)) fun p H4 hp e4 h4 => k p H4 (fresh_back e1 hp) (e1.trans e4) h4
end
end Shelf
end

section
set_option maxHeartbeats 4000000
namespace Shelf
open PySem PySem.Spec PyProof.Rows L2 Evl
theorem evs_rev (l : EvL') : (l.map (·.2)).reverse = l.reverse.map (·.2) := List.map_reverse.symm
/-- an opinion, event by event -/
def ratedV (l : List Kp427.Event) : V := match (l.filter fun e => e.kind == 3).getLast? with
  | some e => nV e.value
  | none => .non
def leanN (l : List Kp427.Event) : Nat := match (l.filter fun e => e.kind == 1 || e.kind == 2 || e.kind == 4).getLast? with
  | some e => if e.kind = 2 then 1 else 10
  | none => 5
theorem rated_yes {l : List Kp427.Event} {e : Kp427.Event} (h : (e.kind == 3) = true) : ratedV (l ++ [e]) = nV e.value := by
  unfold ratedV
  rw [List.filter_append, List.filter_cons, if_pos h, List.filter_nil, List.getLast?_append]
  rfl
theorem rated_no {l : List Kp427.Event} {e : Kp427.Event} (h : (e.kind == 3) = false) : ratedV (l ++ [e]) = ratedV l := by
  unfold ratedV
  rw [List.filter_append, List.filter_cons, if_neg (by rw [h]; exact Bool.false_ne_true), List.filter_nil, List.append_nil]
theorem lean_yes {l : List Kp427.Event} {e : Kp427.Event} (h : (e.kind == 1 || e.kind == 2 || e.kind == 4) = true) : leanN (l ++ [e]) = if e.kind = 2 then 1 else 10 := by
  unfold leanN
  rw [List.filter_append, List.filter_cons, if_pos h, List.filter_nil, List.getLast?_append]
  rfl
theorem lean_no {l : List Kp427.Event} {e : Kp427.Event} (h : (e.kind == 1 || e.kind == 2 || e.kind == 4) = false) : leanN (l ++ [e]) = leanN l := by
  unfold leanN
  rw [List.filter_append, List.filter_cons, if_neg (by rw [h]; exact Bool.false_ne_true), List.filter_nil, List.append_nil]
theorem opinion_is (l : List Kp427.Event) : nV (Kp427.opinion l) = if ratedV l = .non then nV (leanN l) else ratedV l := by
  unfold Kp427.opinion ratedV leanN
  cases (l.filter fun e => e.kind == 3).getLast? with
  | some e => rw [if_neg (by intro z; cases z)]
  | none =>
    rw [if_pos rfl]
    rfl
section
variable {P : Program} {w : World} {K : PySem.W.Frag} {mg : Str → Option Value} {base : Heap} {c : Adr}
abbrev s_history : Stmt := top 102
abbrev n_history : List Str := ["store", "member", "count", "met", "event", "listed"]
theorem sc_history : FnScope n_history ["store", "member", "count"] (defScope s_history) := ⟨rfl, rfl, rfl, by decide +kernel, rfl, by decide +kernel, by decide +kernel⟩
def p_history (c : Adr) (vs : List V) (H : Hp) (xs : List V) : Prop := ∃ m n, p_ask c [nV m, nV n] (.history m n) vs H xs
theorem d_history (T : Txt K mg c) (D_member_exists : DefAt P w K mg base 1 "member_exists" ["store", "member"] (rdV (p_member_exists c))) (D_not_found : DefAt P w K mg base 1 "not_found" [] (rdL (p_code 2)))
    (D_events_of : DefAt P w K mg base 1 "events_of" ["store", "member"] (rdL (p_events_of c))) (D0 : Def0 K mg "history" s_history ["store", "member", "count"]) : DefAt P w K mg base 2 "history" ["store", "member", "count"] (rdL (p_history c)) := by
  refine DefAt.of D0 sc_history (fun vs H Q E h => ?_) (fun f cdv A outer s H vs Q E hr h => ?_)
  · obtain ⟨xs, ⟨i, n, a, L, s, rfl, _⟩, _⟩ := h
    rfl
  · obtain ⟨xs, ⟨m, n, a, L, st, rfl, SL, rfl⟩, k⟩ := h
    have S := SL.toStE
    refine ⟨_, (pss_cons (ps_if (pt_not (pt_val (pcD D_member_exists hr (pa_cons (pv 0) (pa_cons (pv 1) pa_nil))))) (pss_one (ps_ret (pcD0 D_not_found hr))) pss_nil) (pss_cons (ps_set (i := 3) sc_history.nd rfl (Or.inl rfl) (pe_lst pa_nil)) (pss_cons (ps_for PassesOwn.never rfl (pi_reversed (by rfl) T.b_reversed (pa_cons (pcD D_events_of hr (pa_cons (pv 0) (pa_cons (pv 1) pa_nil))) pa_nil)) (pg_name (i := 4) sc_history.nd rfl (Or.inl rfl)) (pss_one (ps_if (ninK (K := K) (fK (K := K) (pv 4)) (pv 3)) (pss_one (ps_expr (pe_bm PySem.F.plainAttrs_list PySem.F.slot_list_append PySem.F.type_list_append mt_append (pv 3) (pa_cons (fK (K := K) (pv 4)) pa_nil)))) pss_nil))) (pss_cons (ps_set (i := 5) sc_history.nd rfl (Or.inl rfl) (pe_slice sl_list (pv 3) po_none (po_some (pv 2)))) (pss_one (ps_ret (pe_op op_cat (pe_lst (pa_cons (pe_callB call_len_seq (by rfl) T.b_len PySem.boot_len (pa_cons (pv 5) pa_nil)) pa_nil)) (pv 5)))))))), ?_⟩
    have es : (Kp427.step (some st) (.history m n)).2 = if Kp427.hasMember st m then Kp427.listResult ((Kp427.recentItems (Kp427.eventsOf st m)).take n) else Kp427.single (-2) := rfl
    rw [es] at k
    refine q_when (b := !Kp427.hasMember st m) (et_not (et_B (ev_hasMember SL (ea_cons (ev_var rfl) (ea_cons (ev_var rfl) ea_nil))))) (fun hb H1 e1 => ?_) fun hb H1 e1 => ?_
    · rw [Bool.not_eq_true'] at hb
      rw [hb] at k
      exact s_retL (el_code 2) fun p H2 hp e2 h2 => k p H2 (fresh_back e1 hp) (e1.trans e2) h2
    rw [Bool.not_eq_false'] at hb
    rw [hb, if_pos rfl, ansV_list] at k
    have S1 := S.ex e1
    have l200 := S.oflen fun e => e.member == m
    have eo : (L.evs.filter fun e => e.2.member == m).map (·.2) = Kp427.eventsOf st m := S.filt fun e => e.member == m
    refine q_asgL (el_lst ea_nil (by show 0 ≤ 100000; decide)) fun t H2 ht e2 h2 => ?_
    have S2 := S1.ex e2
    refine q_forRev (ys := L.evs.filter fun e => e.2.member == m) (r := fun e => V.ref e.1) (el_eventsOf S2 (ea_cons (ev_var rfl) (ea_cons (ev_var rfl) ea_nil)))
      (fun p i σ' H' => ∃ v u, σ' = [some (.ref a), some (nV m), some (nV n), some (.ref t), v, u] ∧ Ex H1 H' ∧ H' p = some (.lst (evV (L.evs.filter fun e => e.2.member == m))) ∧ H' t = some (.lst ((((((L.evs.filter fun e => e.2.member == m).reverse.take i).map (·.2)).map Kp427.Event.item).eraseDups).map nV)))
      (fun p H3 hp e3 h3 => ⟨none, none, rfl, e2.trans e3, h3, (e3 _ _ h2).trans rfl⟩) (fun p i σ' H' ⟨v, u, _, _, h, _⟩ => sq_of h) ?_ ?_
    · rintro p i y σ' H' hy ⟨v, u, rfl, e3, h3, h4⟩
      have my : y ∈ L.evs := (List.mem_filter.mp (List.mem_reverse.mp (List.mem_of_getElem? hy))).1
      have Sy := S1.evs y my
      have nx : ∀ b, (((((L.evs.filter fun e => e.2.member == m).reverse.take i).map (·.2)).map Kp427.Event.item).eraseDups).contains y.2.item = b → ((((L.evs.filter fun e => e.2.member == m).reverse.take (i + 1)).map (·.2)).map Kp427.Event.item).eraseDups =
          if b then (((((L.evs.filter fun e => e.2.member == m).reverse.take i).map (·.2)).map Kp427.Event.item).eraseDups) else (((((L.evs.filter fun e => e.2.member == m).reverse.take i).map (·.2)).map Kp427.Event.item).eraseDups) ++ [y.2.item] := fun b hb => by
        rw [take_map_snoc hy, List.map_append]
        show (_ ++ [y.2.item]).eraseDups = _
        rw [dups_snoc, hb]
      have lenD : ∀ l : List Nat, l.eraseDups.length ≤ l.length := fun l => nodup_le _ _ (nodup_dups _ l (Nat.le_refl _)) fun x hx => List.mem_eraseDups.mp hx
      refine s_when (b := !(((((L.evs.filter fun e => e.2.member == m).reverse.take i).map (·.2)).map Kp427.Event.item).eraseDups).contains y.2.item) (et_test (ev_nin (ev_item T (Sy.ex e3) (ev_var rfl)) (ev_var rfl) (sq_of h4))) (fun hb H4 e4 => ?_) fun hb H4 e4 => ?_
      · rw [Bool.not_eq_true'] at hb
        refine s_app (e4 _ _ h4) (ev_var rfl) (ev_item T (Sy.ex (e3.trans e4)) (ev_var rfl)) ?_ fun H5 e5 => ⟨_, _, rfl, ((e3.trans e4).trans e5).mut (fresh_back (Ex.refl H1) ht), ?_, ?_⟩
        · rw [List.length_map]
          have := lenD ((((L.evs.filter fun e => e.2.member == m).reverse.take i).map (·.2)).map Kp427.Event.item)
          rw [List.length_map, List.length_map, List.length_take, List.length_reverse] at this
          omega
        · have pt : p ≠ t := fun z => by
            rw [z, h4] at h3
            injection h3 with h3
            injection h3 with h3
            have q := congrArg List.head? h3
            have hne : evV (L.evs.filter fun e => e.2.member == m) ≠ [] := fun z => by
              have : (L.evs.filter fun e => e.2.member == m) = [] := List.map_eq_nil_iff.mp z
              rw [this] at hy
              cases hy
            cases h5 : (((((L.evs.filter fun e => e.2.member == m).reverse.take i).map (·.2)).map Kp427.Event.item).eraseDups) with
            | nil =>
              rw [h5] at h3
              exact hne h3.symm
            | cons x r =>
              rw [h5] at q
              cases h6 : (L.evs.filter fun e => e.2.member == m) with
              | nil => exact hne (by rw [h6]; rfl)
              | cons y r2 =>
                rw [h6] at q
                cases q
          rw [upd_ne pt]
          exact e5 _ _ (e4 _ _ h3)
        · rw [upd_same, nx _ hb, if_neg Bool.false_ne_true, List.map_append]
          rfl
      · rw [Bool.not_eq_false'] at hb
        refine ⟨_, _, rfl, e3.trans e4, e4 _ _ h3, ?_⟩
        rw [nx _ hb, if_pos rfl]
        exact e4 _ _ h4
    · rintro p σ' H' ⟨v, u, rfl, e3, h3, h4⟩
      have er : (((L.evs.filter fun e => e.2.member == m).reverse.take (L.evs.filter fun e => e.2.member == m).length).map (·.2)).map Kp427.Event.item = (Kp427.eventsOf st m).reverse.map Kp427.Event.item := by
        rw [List.take_of_length_le (by rw [List.length_reverse]; exact Nat.le_refl _), ← evs_rev, eo]
      rw [er] at h4
      refine q_asgL (el_is (el_sl (lo := none) (hi := some (n : Int)) (ev_var rfl) eo_none (eo_some (ev_var rfl)) (sq_of h4)) (cut_take _ n)) fun q H4 hq e4 h5 => ?_
      rw [← List.map_take] at h5
      have le1 : ((Kp427.recentItems (Kp427.eventsOf st m)).take n).length ≤ 200 := by
        have a1 : ((Kp427.recentItems (Kp427.eventsOf st m)).take n).length ≤ (Kp427.recentItems (Kp427.eventsOf st m)).length := by
          rw [List.length_take]
          omega
        have a2 : (Kp427.recentItems (Kp427.eventsOf st m)).length ≤ (Kp427.eventsOf st m).length := by
          have := nodup_le _ _ (nodup_dups _ ((Kp427.eventsOf st m).reverse.map Kp427.Event.item) (Nat.le_refl _)) fun x hx => List.mem_eraseDups.mp hx
          rw [List.length_map, List.length_reverse] at this
          exact this
        have a3 : (Kp427.eventsOf st m).length ≤ 200 := by rw [← eo, List.length_map]; exact l200
        omega
      refine s_retL (el_cat (el_lst (ea_cons (ev_lenM (ys := (Kp427.recentItems (Kp427.eventsOf st m)).take n) (r := nV) (ev_var rfl) (sq_of h5)) ea_nil) (by show 1 ≤ 100000; decide)) (ev_var rfl) h5 ?_) fun p H5 hp e5 h6 => k p H5 (fresh_back ((e1.trans e3).trans e4) hp) (((e1.trans e3).trans e4).trans e5) h6
      rw [List.length_map]
      show 1 + ((Kp427.recentItems (Kp427.eventsOf st m)).take n).length ≤ 100000
      omega
abbrev s_unseen : Stmt := top 103
abbrev n_unseen : List Str := ["store", "member", "met", "listed", "item"]
theorem sc_unseen : FnScope n_unseen ["store", "member"] (defScope s_unseen) := ⟨rfl, rfl, rfl, by decide +kernel, rfl, by decide +kernel, by decide +kernel⟩
def p_unseen (c : Adr) (vs : List V) (H : Hp) (xs : List V) : Prop := ∃ m, p_ask c [nV m] (.unseen m) vs H xs
theorem avail_len (s : Kp427.Store) (p : Nat → Bool) : ((Kp427.available s).filter p).length ≤ s.items.length := by
  refine Nat.le_trans (List.length_filter_le _ _) ?_
  unfold Kp427.available
  refine Nat.le_trans (List.length_filter_le _ _) ?_
  rw [List.length_range]
  exact Nat.le_refl _
theorem d_unseen (T : Txt K mg c) (D_member_exists : DefAt P w K mg base 1 "member_exists" ["store", "member"] (rdV (p_member_exists c))) (D_not_found : DefAt P w K mg base 1 "not_found" [] (rdL (p_code 2)))
    (D_events_of : DefAt P w K mg base 1 "events_of" ["store", "member"] (rdL (p_events_of c))) (D_items_met : DefAt P w K mg base 1 "items_met" ["events"] (rdL (p_items_met c))) (D_is_available : DefAt P w K mg base 1 "is_available" ["store", "item"] (rdV (p_is_available c)))
    (D0 : Def0 K mg "unseen" s_unseen ["store", "member"]) : DefAt P w K mg base 2 "unseen" ["store", "member"] (rdL (p_unseen c)) := by
  refine DefAt.of D0 sc_unseen (fun vs H Q E h => ?_) (fun f cdv A outer s H vs Q E hr h => ?_)
  · obtain ⟨xs, ⟨i, a, L, s, rfl, _⟩, _⟩ := h
    rfl
  · obtain ⟨xs, ⟨m, a, L, st, rfl, SL, rfl⟩, k⟩ := h
    have S := SL.toStE
    refine ⟨_, (pss_cons (ps_if (pt_not (pt_val (pcD D_member_exists hr (pa_cons (pv 0) (pa_cons (pv 1) pa_nil))))) (pss_one (ps_ret (pcD0 D_not_found hr))) pss_nil) (pss_cons (ps_set (i := 2) sc_unseen.nd rfl (Or.inr rfl) (pcD D_items_met hr (pa_cons (pcD D_events_of hr (pa_cons (pv 0) (pa_cons (pv 1) pa_nil))) pa_nil))) (pss_cons (ps_setLc (i := 3) rfl sc_unseen.nd rfl rfl (sw_true rfl rfl rfl (by decide +kernel)) (own := [("item", 4)]) (g := gName 4) (pi_range1 rfl T.b_range (pa_cons (pe_callB call_len_seq (by rfl) T.b_len PySem.boot_len (pa_cons (fK (K := K) (pv 0)) pa_nil)) pa_nil)) (blkOk_by (own := [("item", 4)]) (N := n_unseen) (sc := defScope s_unseen) (by decide +kernel)) (fun _ _ _ _ _ => pg_name (i := 4) sc_unseen.nd rfl (Or.inl rfl)) (fun _ _ _ _ _ => (pts_one (PW.pt (pw_and (pt_val (pcD D_is_available hr (pa_cons (pv 0) (pa_cons (pv 4) pa_nil)))) (pw_and1 (ninK (K := K) (pv 4) (pv 2))))))) (fun _ _ _ _ _ => (pv 4))) (pss_one (ps_ret (pe_op op_cat (pe_lst (pa_cons (pe_callB call_len_seq (by rfl) T.b_len PySem.boot_len (pa_cons (pv 3) pa_nil)) pa_nil)) (pv 3))))))), ?_⟩
    have es : (Kp427.step (some st) (.unseen m)).2 = if Kp427.hasMember st m then Kp427.listResult ((Kp427.available st).filter fun i => !(Kp427.eventsOf st m).any fun e => e.item == i) else Kp427.single (-2) := rfl
    rw [es] at k
    refine q_when (b := !Kp427.hasMember st m) (et_not (et_B (ev_hasMember SL (ea_cons (ev_var rfl) (ea_cons (ev_var rfl) ea_nil))))) (fun hb H1 e1 => ?_) fun hb H1 e1 => ?_
    · rw [Bool.not_eq_true'] at hb
      rw [hb] at k
      exact s_retL (el_code 2) fun p H2 hp e2 h2 => k p H2 (fresh_back e1 hp) (e1.trans e2) h2
    rw [Bool.not_eq_false'] at hb
    rw [hb, if_pos rfl, ansV_list] at k
    have S1 := S.ex e1
    have l200 := S.oflen fun e => e.member == m
    have l40 := S.good.ilen
    have eo : (L.evs.filter fun e => e.2.member == m).map (·.2) = Kp427.eventsOf st m := S.filt fun e => e.member == m
    refine q_asgL (el_itemsMetN st.items.length (el_eventsOf S1 (ea_cons (ev_var rfl) (ea_cons (ev_var rfl) ea_nil))) (S1.evs.filter _) (S.ofn fun e => e.member == m) S.i63 (by omega)) fun q H2 hq e2 h2 => ?_
    have S2 := S1.ex e2
    refine q_asgL (el_compR (n := st.items.length) (fun i => !(Kp427.itemAt st i).withdrawn && !(metN st.items.length ((L.evs.filter fun e => e.2.member == m).map (·.2))).contains i) nV (ev_lenX (ev_shelf T S2 (ev_var rfl)) (sq_of S2.sh) (by rw [List.length_map, S.ilen])) (by omega) (fun _ => rfl)
      (fun i H3 e3 hi => et_and (et_B (ev_isAvailable (S2.ex e3) hi (ea_cons (ev_var rfl) (ea_cons (ev_var rfl) ea_nil)))) fun _ => et_test (ev_nin (ev_var rfl) (ev_var rfl) (sq_of (e3 _ _ h2)))) fun i H3 e3 hi _ => ev_var rfl) fun r H3 hr' e3 h3 => ?_
    have el : (List.range st.items.length).filter (fun i => !(Kp427.itemAt st i).withdrawn && !(metN st.items.length ((L.evs.filter fun e => e.2.member == m).map (·.2))).contains i) = (Kp427.available st).filter fun i => !(Kp427.eventsOf st m).any fun e => e.item == i := by
      unfold Kp427.available
      rw [List.filter_filter, eo]
      refine List.filter_congr fun i hi => ?_
      rw [met_contains (List.mem_range.mp hi), Bool.and_comm]
    rw [el] at h3
    refine s_retL (el_cat (el_lst (ea_cons (ev_lenM (r := nV) (ev_var rfl) (sq_of h3)) ea_nil) (by show 1 ≤ 100000; decide)) (ev_var rfl) h3 ?_) fun p H5 hp e5 h6 => k p H5 (fresh_back ((e1.trans e2).trans e3) hp) (((e1.trans e2).trans e3).trans e5) h6
    rw [List.length_map]
    have := avail_len st fun i => !(Kp427.eventsOf st m).any fun e => e.item == i
    show 1 + _ ≤ 100000
    omega
abbrev s_opinion : Stmt := top 104
abbrev n_opinion : List Str := ["events", "rated", "leaning", "event"]
theorem sc_opinion : FnScope n_opinion ["events"] (defScope s_opinion) := ⟨rfl, rfl, rfl, by decide +kernel, rfl, by decide +kernel, by decide +kernel⟩
def p_opinion (c : Adr) (vs : List V) (H : Hp) (z : V) : Prop := ∃ (p : Addr) (es : EvL'), vs = [.ref p] ∧ H p = some (.lst (evV es)) ∧ Evs c.E H es ∧ z = nV (Kp427.opinion (es.map (·.2)))
theorem d_opinion (T : Txt K mg c) (D0 : Def0 K mg "opinion" s_opinion ["events"]) : DefAt P w K mg base 1 "opinion" ["events"] (rdV (p_opinion c)) := by
  refine DefAt.of D0 sc_opinion (fun vs H Q E h => ?_) (fun f cdv A outer s H vs Q E hr h => ?_)
  · obtain ⟨xs, ⟨i, a, rfl, _⟩, _⟩ := h
    rfl
  · obtain ⟨xs, ⟨p, es, rfl, hp, he, rfl⟩, k⟩ := h
    refine ⟨_, (pss_cons (ps_set (i := 1) sc_opinion.nd rfl (Or.inl rfl) pe_non) (pss_cons (ps_set (i := 2) sc_opinion.nd rfl (Or.inl rfl) (gI T.kUNDECIDED)) (pss_cons (ps_for PassesOwn.never rfl (piK (K := K) (pv 0)) (pg_name (i := 3) sc_opinion.nd rfl (Or.inl rfl)) (pss_cons (ps_if (pt_cmpR op_eq (fK (K := K) (pv 3)) (gI T.kRATING) (nomark _)) (pss_one (ps_set (i := 1) sc_opinion.nd rfl (Or.inl rfl) (fK (K := K) (pv 3)))) pss_nil) (pss_cons (ps_if (PW.pt (pw_or (pt_cmpR op_eq (fK (K := K) (pv 3)) (gI T.kLIKE) (nomark _)) (pw_or1 (pt_cmpR op_eq (fK (K := K) (pv 3)) (gI T.kPURCHASE) (nomark _))))) (pss_one (ps_set (i := 2) sc_opinion.nd rfl (Or.inl rfl) (gI T.kLIKED))) pss_nil) (pss_one (ps_if (pt_cmpR op_eq (fK (K := K) (pv 3)) (gI T.kDISLIKE) (nomark _)) (pss_one (ps_set (i := 2) sc_opinion.nd rfl (Or.inl rfl) (gI T.kDISLIKED))) pss_nil))))) (pss_one (ps_ret (pe_ifExp (pt_cmpR op_isN (pv 1) pe_non (nomark _)) (pv 2) (pv 1))))))), ?_⟩
    refine q_asg (v := .non) ev_c fun H1 e1 => ?_
    refine q_asg (v := nV 5) (ev_n 5) fun H2 e2 => ?_
    have e12 := e1.trans e2
    refine q_forM (ys := es) (r := fun e => V.ref e.1) (ev_var rfl) (sq_of (e12 _ _ hp)) (fun i σ' H' => ∃ v, σ' = [some (.ref p), some (ratedV ((es.take i).map (·.2))), some (nV (leanN ((es.take i).map (·.2)))), v] ∧ Ex H H')
      (fun H3 e3 => ⟨none, rfl, e12.trans e3⟩) (fun i σ' H' ⟨v, _, e⟩ => sq_of (e _ _ hp)) ?_ ?_
    · rintro i y σ' H' hy ⟨v, rfl, e⟩
      have my := List.mem_of_getElem? hy
      have Sy := (he y my).ex e
      refine q_ifAsg (v := ratedV ((es.take (i + 1)).map (·.2))) (b := y.2.kind == 3) (et_test (ev_op (ev_kind T Sy (ev_var rfl)) (ev_n 3) rv_eqN)) (fun hb => ?_) (fun hb => ?_) fun H3 e3 => ?_
      · rw [take_map_snoc hy, rated_yes hb]
        exact ev_value T Sy (ev_var rfl)
      · rw [take_map_snoc hy, rated_no hb]
        rfl
      have Sy3 := Sy.ex e3
      refine q_ifAsg (v := nV (if (y.2.kind == 1 || y.2.kind == 4) = true then 10 else leanN ((es.take i).map (·.2)))) (b := y.2.kind == 1 || y.2.kind == 4) (et_or (et_test (ev_op (ev_kind T Sy3 (ev_var rfl)) (ev_n 1) rv_eqN)) fun _ => et_test (ev_op (ev_kind T Sy3 (ev_var rfl)) (ev_n 4) rv_eqN)) (fun hb => ?_) (fun hb => ?_) fun H4 e4 => ?_
      · rw [if_pos hb]
        exact ev_n 10
      · rw [if_neg (by rw [hb]; exact Bool.false_ne_true)]
        rfl
      have Sy4 := Sy3.ex e4
      have el : leanN ((es.take (i + 1)).map (·.2)) = if y.2.kind = 2 then 1 else if (y.2.kind == 1 || y.2.kind == 4) = true then 10 else leanN ((es.take i).map (·.2)) := by
        rw [take_map_snoc hy]
        by_cases h2 : y.2.kind = 2
        · rw [if_pos h2, lean_yes (by simp [h2]), if_pos h2]
        · rw [if_neg h2]
          by_cases h14 : (y.2.kind == 1 || y.2.kind == 4) = true
          · rw [if_pos h14, lean_yes, if_neg h2]
            simp only [Bool.or_eq_true, beq_iff_eq] at h14 ⊢
            rcases h14 with z | z
            · exact Or.inl (Or.inl z)
            · exact Or.inr z
          · rw [if_neg h14, lean_no]
            simp only [Bool.or_eq_true, beq_iff_eq, Bool.or_eq_false_iff, beq_eq_false_iff_ne] at h14 ⊢
            exact ⟨⟨fun z => h14 (Or.inl z), h2⟩, fun z => h14 (Or.inr z)⟩
      refine s_ifAsg (v := nV (leanN ((es.take (i + 1)).map (·.2)))) (b := y.2.kind == 2) (et_test (ev_op (ev_kind T Sy4 (ev_var rfl)) (ev_n 2) rv_eqN)) (fun hb => ?_) (fun hb => ?_) fun H5 e5 => ⟨_, rfl, ((e.trans e3).trans e4).trans e5⟩
      · rw [el, if_pos (beq_iff_eq.mp hb)]
        exact ev_n 1
      · rw [el, if_neg (beq_eq_false_iff_ne.mp hb)]
        rfl
    · rintro σ' H' ⟨v, rfl, e⟩
      rw [List.take_length, opinion_is] at *
      refine s_ret (v := if ratedV (es.map (·.2)) = .non then nV (leanN (es.map (·.2))) else ratedV (es.map (·.2))) ?_ fun H3 e3 => k H3 (e.trans e3)
      refine ev_if (b := decide (ratedV (es.map (·.2)) = .non)) (et_test (ev_op (ev_var rfl) ev_c fun H1 _ _ q => ⟨rfl, q H1 (Ex.refl H1)⟩)) (fun hb => ?_) fun hb => ?_
      · rw [if_pos (of_decide_eq_true hb)]
        exact ev_var rfl
      · rw [if_neg (of_decide_eq_false hb)]
        exact ev_var rfl
abbrev s_opinions : Stmt := top 105
abbrev n_opinions : List Str := ["store", "member", "own", "met", "told", "item", "event"]
theorem sc_opinions : FnScope n_opinions ["store", "member"] (defScope s_opinions) := ⟨rfl, rfl, rfl, by decide +kernel, rfl, by decide +kernel, by decide +kernel⟩
def p_opinions (c : Adr) (vs : List V) (H : Hp) (xs : List V) : Prop := ∃ m, p_ask c [nV m] (.opinions m) vs H xs
theorem d_opinions (T : Txt K mg c) (D_member_exists : DefAt P w K mg base 1 "member_exists" ["store", "member"] (rdV (p_member_exists c))) (D_not_found : DefAt P w K mg base 1 "not_found" [] (rdL (p_code 2)))
    (D_events_of : DefAt P w K mg base 1 "events_of" ["store", "member"] (rdL (p_events_of c))) (D_items_met : DefAt P w K mg base 1 "items_met" ["events"] (rdL (p_items_met c))) (D_opinion : DefAt P w K mg base 1 "opinion" ["events"] (rdV (p_opinion c)))
    (D0 : Def0 K mg "opinions" s_opinions ["store", "member"]) : DefAt P w K mg base 2 "opinions" ["store", "member"] (rdL (p_opinions c)) := by
  refine DefAt.of D0 sc_opinions (fun vs H Q E h => ?_) (fun f cdv A outer s H vs Q E hr h => ?_)
  · obtain ⟨xs, ⟨i, a, L, s, rfl, _⟩, _⟩ := h
    rfl
  · obtain ⟨xs, ⟨m, a, L, st, rfl, SL, rfl⟩, k⟩ := h
    have S := SL.toStE
    refine ⟨_, (pss_cons (ps_if (pt_not (pt_val (pcD D_member_exists hr (pa_cons (pv 0) (pa_cons (pv 1) pa_nil))))) (pss_one (ps_ret (pcD0 D_not_found hr))) pss_nil) (pss_cons (ps_set (i := 2) sc_opinions.nd rfl (Or.inl rfl) (pcD D_events_of hr (pa_cons (pv 0) (pa_cons (pv 1) pa_nil)))) (pss_cons (ps_set (i := 3) sc_opinions.nd rfl (Or.inl rfl) (pcD D_items_met hr (pa_cons (pv 2) pa_nil))) (pss_cons (ps_set (i := 4) sc_opinions.nd rfl (Or.inl rfl) (pe_lst (pa_cons (pe_callB call_len_seq (by rfl) T.b_len PySem.boot_len (pa_cons (pv 3) pa_nil)) pa_nil))) (pss_cons (ps_for PassesOwn.never rfl (piK (K := K) (pv 3)) (pg_name (i := 5) sc_opinions.nd rfl (Or.inr rfl)) (pss_one (ps_expr (pe_bm PySem.F.plainAttrs_list PySem.F.slot_list_extend PySem.F.type_list_extend mt_extend (pv 4) (pa_cons (pe_lst (pa_cons (pv 5) (pa_cons (pcD D_opinion hr (pa_cons (pe_lc (own := [("event", 6)]) (g := gName 6) rfl sc_opinions.nd (piK (K := K) (pv 2)) (blkOk_by (own := [("event", 6)]) (N := n_opinions) (sc := defScope s_opinions) (by decide +kernel)) (fun _ _ _ _ _ => pg_name (i := 6) sc_opinions.nd rfl (Or.inl rfl)) (fun _ _ _ _ _ => (pts_one (pt_cmpR op_eq (fK (K := K) (pv 6)) (pv 5) (nomark _)))) (fun _ _ _ _ _ => (pv 6))) pa_nil)) pa_nil))) pa_nil))))) (pss_one (ps_ret (pv 4)))))))), ?_⟩
    have es : (Kp427.step (some st) (.opinions m)).2 = if Kp427.hasMember st m then Kp427.natResult (Kp427.opinions st m).length ((Kp427.opinions st m).flatMap fun x => [x.1, x.2]) else Kp427.single (-2) := rfl
    rw [es] at k
    refine q_when (b := !Kp427.hasMember st m) (et_not (et_B (ev_hasMember SL (ea_cons (ev_var rfl) (ea_cons (ev_var rfl) ea_nil))))) (fun hb H1 e1 => ?_) fun hb H1 e1 => ?_
    · rw [Bool.not_eq_true'] at hb
      rw [hb] at k
      exact s_retL (el_code 2) fun p H2 hp e2 h2 => k p H2 (fresh_back e1 hp) (e1.trans e2) h2
    rw [Bool.not_eq_false'] at hb
    rw [hb, if_pos rfl, ansV_nat] at k
    have S1 := S.ex e1
    have l200 := S.oflen fun e => e.member == m
    have l40 := S.good.ilen
    have eo : (L.evs.filter fun e => e.2.member == m).map (·.2) = Kp427.eventsOf st m := S.filt fun e => e.member == m
    refine q_asgL (el_eventsOf S1 (ea_cons (ev_var rfl) (ea_cons (ev_var rfl) ea_nil))) fun q H2 hq e2 h2 => ?_
    have S2 := S1.ex e2
    refine q_asgL (el_itemsMet st.items.length (ea_cons (ev_var rfl) ea_nil) h2 (S2.evs.filter _) (S.ofn fun e => e.member == m) S.i63 (by omega)) fun r H3 hr' e3 h3 => ?_
    have S3 := S2.ex e3
    rw [eo] at h3
    have em : metN st.items.length (Kp427.eventsOf st m) = (List.range st.items.length).filter fun i => (Kp427.eventsOf st m).any fun e => e.item == i := rfl
    let fo : Nat → Nat × Nat := fun i => (i, Kp427.opinion ((Kp427.eventsOf st m).filter fun e => e.item == i))
    have eop : Kp427.opinions st m = (metN st.items.length (Kp427.eventsOf st m)).map fo := rfl
    have ml := met_len st.items.length (Kp427.eventsOf st m)
    refine q_asgL (el_lst (ea_cons (ev_lenM (r := nV) (ev_var rfl) (sq_of h3)) ea_nil) (by show 1 ≤ 100000; decide)) fun t H4 ht e4 h4 => ?_
    have e14 := ((e1.trans e2).trans e3).trans e4
    have e24 := e3.trans e4
    have e13 := (e1.trans e2).trans e3
    refine q_forM (ys := metN st.items.length (Kp427.eventsOf st m)) (r := nV) (ev_var rfl) (sq_of (e4 _ _ h3)) (fun i σ' H' => ∃ v u, σ' = [some (.ref a), some (nV m), some (.ref q), some (.ref r), some (.ref t), v, u] ∧ Ex H3 H' ∧
      H' t = some (.lst (((metN st.items.length (Kp427.eventsOf st m)).length :: (((metN st.items.length (Kp427.eventsOf st m)).take i).map fo).flatMap fun x => [x.1, x.2]).map nV)))
      (fun H5 e5 => ⟨none, none, rfl, e4.trans e5, (e5 _ _ h4).trans rfl⟩) (fun i σ' H' ⟨v, u, _, e, _⟩ => sq_of (e _ _ h3)) ?_ ?_
    · rintro i y σ' H' hy ⟨v, u, rfl, e5, h5⟩
      have my := List.mem_of_getElem? hy
      have S5 := S3.ex e5
      have il : i < (metN st.items.length (Kp427.eventsOf st m)).length := (List.getElem?_eq_some_iff.mp hy).1
      have hop : ∀ {H6 : Hp}, Ex H' H6 → Ev (tCall (rdV (p_opinion c)) [] E0 (tCons (tLc (iList K (tVar 2)) (gName 6) (tTest (tOp rEq (tFld K (tVar 6) "item") (tVar 5))) (tVar 6) [6]) tNil)) [some (.ref a), some (nV m), some (.ref q), some (.ref r), some (.ref t), some (nV y), u] H6 (nV (fo y).2) := fun {H6} e6 =>
        ev_call' (ea_new (el_comp (ys := L.evs.filter fun e => e.2.member == m) (r := fun e => V.ref e.1) (fun e => e.2.item == y) (fun e => V.ref e.1) (ev_var rfl) (sq_of ((e3.trans (e5.trans e6)) _ _ h2)) (by omega) (fun _ => rfl)
          (fun z H7 e7 mz => et_test (ev_op (ev_item T ((S5.evs z (List.mem_filter.mp mz).1).ex (e6.trans e7)) (ev_var rfl)) (ev_var rfl) rv_eqN)) fun z H7 e7 mz _ => ev_var rfl)) fun vs H7 e7 ⟨p, rr, e8, hp, e9⟩ => by
            subst e9
            subst e8
            refine rdV_sp fun H8 e8 => ⟨p, _, rfl, e8 _ _ hp, ((S5.evs.ex ((e6.trans e7).trans e8)).filter _).filter _, ?_⟩
            rw [evs_filter _ (fun e => e.item == y), eo]
      refine s_extL h5 (ev_var rfl) (el_lst (ea_cons (ev_var rfl) (ea_cons (hop (Ex.refl H')) ea_nil)) (by show 2 ≤ 100000; decide)) ?_ fun H6 e6 => ⟨_, _, rfl, (e5.trans e6).mut ht, ?_⟩
      · rw [List.length_map]
        show (((((metN st.items.length (Kp427.eventsOf st m)).take i).map fo).flatMap fun x => [x.1, x.2]).length + 1) + 2 ≤ 100000
        have : ((((metN st.items.length (Kp427.eventsOf st m)).take i).map fo).flatMap fun x => [x.1, x.2]).length = 2 * ((metN st.items.length (Kp427.eventsOf st m)).take i).length := by
          rw [List.length_flatMap, List.map_map]
          generalize (metN st.items.length (Kp427.eventsOf st m)).take i = l
          induction l with
          | nil => rfl
          | cons x r ih =>
            rw [List.map_cons, List.sum_cons, ih, List.length_cons]
            show 2 + _ = _
            omega
        rw [this, List.length_take]
        omega
      · rw [upd_same, take_map_snoc hy, List.flatMap_append, ← List.cons_append, List.map_append]
        rfl
    · rintro σ' H' ⟨v, u, rfl, e5, h5⟩
      refine s_ret (ev_var rfl) fun H6 e6 => k t H6 (fresh_back e13 ht) ((e13.trans e5).trans e6) ?_
      rw [List.take_length] at h5
      rw [e6 _ _ h5, eop, List.length_map]
abbrev s_has_met : Stmt := top 106
abbrev n_has_met : List Str := ["store", "member", "item"]
theorem sc_has_met : FnScope n_has_met ["store", "member", "item"] (defScope s_has_met) := ⟨rfl, rfl, rfl, by decide +kernel, rfl, by decide +kernel, by decide +kernel⟩
def p_has_met (c : Adr) (vs : List V) (H : Hp) (z : V) : Prop := ∃ (a : Addr) (L : Lay) (s : Kp427.Store) (m i : Nat), vs = [.ref a, nV m, nV i] ∧ StE c H a L s ∧ z = .bl ((Kp427.eventsOf s m).any fun e => e.item == i)
theorem d_has_met (T : Txt K mg c) (D_events_of : DefAt P w K mg base 1 "events_of" ["store", "member"] (rdL (p_events_of c))) (D_items_met : DefAt P w K mg base 1 "items_met" ["events"] (rdL (p_items_met c)))
    (D0 : Def0 K mg "has_met" s_has_met ["store", "member", "item"]) : DefAt P w K mg base 2 "has_met" ["store", "member", "item"] (rdV (p_has_met c)) := by
  refine DefAt.of D0 sc_has_met (fun vs H Q E h => ?_) (fun f cdv A outer s H vs Q E hr h => ?_)
  · obtain ⟨xs, ⟨a, L, s, m, i, rfl, _⟩, _⟩ := h
    rfl
  · obtain ⟨xs, ⟨a, L, st, m, i, rfl, S, rfl⟩, k⟩ := h
    have l200 := S.oflen fun e => e.member == m
    have eo : (L.evs.filter fun e => e.2.member == m).map (·.2) = Kp427.eventsOf st m := S.filt fun e => e.member == m
    refine ⟨_, (pss_one (ps_ret (inVK (K := K) (pv 2) (pcD D_items_met hr (pa_cons (pcD D_events_of hr (pa_cons (pv 0) (pa_cons (pv 1) pa_nil))) pa_nil))))), s_ret (v := .bl ((Kp427.eventsOf st m).any fun e => e.item == i)) ?_ k⟩
    have ec : (metN st.items.length (Kp427.eventsOf st m)).contains i = (Kp427.eventsOf st m).any fun e => e.item == i := met_contains' (S.evn fun e => e.member == m)
    rw [← ec, ← eo]
    exact ev_isinN (ev_var rfl) (el_itemsMetN st.items.length (el_eventsOf S (ea_cons (ev_var rfl) (ea_cons (ev_var rfl) ea_nil))) (S.evs.filter _) (S.ofn fun e => e.member == m) S.i63 (by omega))
abbrev s_common_members : Stmt := top 107
abbrev n_common_members : List Str := ["store", "first", "second", "listed", "member"]
theorem sc_common_members : FnScope n_common_members ["store", "first", "second"] (defScope s_common_members) := ⟨rfl, rfl, rfl, by decide +kernel, rfl, by decide +kernel, by decide +kernel⟩
def p_common_members (c : Adr) (vs : List V) (H : Hp) (xs : List V) : Prop := ∃ i j, p_ask c [nV i, nV j] (.commonMembers i j) vs H xs
theorem StL.locked {H : Hp} {a : Addr} {L : Lay} {s : Kp427.Store} (S : StL c H a L s) (od : Obj) : StE c (upd H L.mb (.frz od (.dK (mbK s)))) a L s := by
  have k : ∀ {b o}, H b = some o → o ≠ .dK (mbK s) → upd H L.mb (.frz od (.dK (mbK s))) b = some o := fun {b o} h n => by
    rw [upd_ne (ho_ne h S.mb n)]
    exact h
  refine ⟨k S.ob (Ne.symm dK_ins), k S.wt lst_dK, k S.sh lst_dK, fun u hu => ?_, S.its, k S.ev lst_dK, fun u hu => ?_, S.eve, S.good⟩
  · obtain ⟨⟨du, ou⟩, cu⟩ := S.it u hu
    exact ⟨⟨du, k ou (Ne.symm dK_ins)⟩, k cu lst_dK⟩
  · obtain ⟨du, ou⟩ := S.evs u hu
    exact ⟨du, k ou (Ne.symm dK_ins)⟩
theorem mbK_keys (s : Kp427.Store) : (mbK s).map (·.1) = (s.members.map Kp427.Member.id).map keyN := by
  unfold mbK
  rw [List.map_map, List.map_map]
  rfl
theorem common_is (s : Kp427.Store) (i j : Nat) : Kp427.common s i j = (s.members.map Kp427.Member.id).filter fun m => ((Kp427.eventsOf s m).any fun e => e.item == i) && (Kp427.eventsOf s m).any fun e => e.item == j := by
  unfold Kp427.common Kp427.interested
  rw [List.filter_map, List.filter_filter, List.filter_map]
  congr 1
  refine List.filter_congr fun m hm => ?_
  have e : ((s.members.filter fun m => (Kp427.eventsOf s m.id).any fun e => e.item == j).map Kp427.Member.id).contains m.id = (Kp427.eventsOf s m.id).any fun e => e.item == j := by
    rw [Bool.eq_iff_iff, List.contains_iff_mem, List.mem_map]
    constructor
    · rintro ⟨y, hy, e⟩
      rw [← e]
      exact (List.mem_filter.mp hy).2
    · intro h
      exact ⟨m, List.mem_filter.mpr ⟨hm, h⟩, rfl⟩
  show (_ && _) = (_ && _)
  simp only [Function.comp]
  rw [e]
  first | rfl | exact Bool.and_comm _ _
theorem d_common_members (T : Txt K mg c) (D_item_exists : DefAt P w K mg base 1 "item_exists" ["store", "item"] (rdV (p_item_exists c))) (D_not_found : DefAt P w K mg base 1 "not_found" [] (rdL (p_code 2))) (D_has_met : DefAt P w K mg base 2 "has_met" ["store", "member", "item"] (rdV (p_has_met c)))
    (D0 : Def0 K mg "common_members" s_common_members ["store", "first", "second"]) : DefAt P w K mg base 3 "common_members" ["store", "first", "second"] (rdL (p_common_members c)) := by
  refine DefAt.of D0 sc_common_members (fun vs H Q E h => ?_) (fun f cdv A outer s H vs Q E hr h => ?_)
  · obtain ⟨xs, ⟨i, j, a, L, s, rfl, _⟩, _⟩ := h
    rfl
  · obtain ⟨xs, ⟨i, j, a, L, st, rfl, SL, rfl⟩, k⟩ := h
    have S := SL.toStE
    refine ⟨_, (pss_cons (ps_if (PW.pt (pw_or (pt_not (pt_val (pcD D_item_exists (hr.mono (by decide)) (pa_cons (pv 0) (pa_cons (pv 1) pa_nil))))) (pw_or1 (pt_not (pt_val (pcD D_item_exists (hr.mono (by decide)) (pa_cons (pv 0) (pa_cons (pv 2) pa_nil)))))))) (pss_one (ps_ret (pcD0 D_not_found (hr.mono (by decide))))) pss_nil) (pss_cons (ps_lock (ps_setLc (i := 3) rfl sc_common_members.nd rfl rfl (sw_true rfl rfl rfl (by decide +kernel)) (own := [("member", 4)]) (g := gName 4) (pi_keys (fK (K := K) (pv 0))) (blkOk_by (own := [("member", 4)]) (N := n_common_members) (sc := defScope s_common_members) (by decide +kernel)) (fun _ _ _ _ _ => pg_name (i := 4) sc_common_members.nd rfl (Or.inl rfl)) (fun _ _ _ _ _ => (pts_one (PW.pt (pw_and (pt_val (pcD D_has_met hr (pa_cons (pv 0) (pa_cons (pv 4) (pa_cons (pv 1) pa_nil))))) (pw_and1 (pt_val (pcD D_has_met hr (pa_cons (pv 0) (pa_cons (pv 4) (pa_cons (pv 2) pa_nil)))))))))) (fun _ _ _ _ _ => (pv 4)))) (pss_one (ps_ret (pe_op op_cat (pe_lst (pa_cons (pe_callB call_len_seq (by rfl) T.b_len PySem.boot_len (pa_cons (pv 3) pa_nil)) pa_nil)) (pv 3)))))), ?_⟩
    have es : (Kp427.step (some st) (.commonMembers i j)).2 = if Kp427.hasItem st i && Kp427.hasItem st j then Kp427.listResult (Kp427.common st i j) else Kp427.single (-2) := rfl
    rw [es] at k
    refine q_when (b := !Kp427.hasItem st i || !Kp427.hasItem st j) (et_or (et_not (et_B (ev_hasItem S (ea_cons (ev_var rfl) (ea_cons (ev_var rfl) ea_nil))))) fun _ => et_not (et_B (ev_hasItem S (ea_cons (ev_var rfl) (ea_cons (ev_var rfl) ea_nil))))) (fun hb H1 e1 => ?_) fun hb H1 e1 => ?_
    · rw [← Bool.not_and, Bool.not_eq_true'] at hb
      rw [hb] at k
      exact s_retL (el_code 2) fun p H2 hp e2 h2 => k p H2 (fresh_back e1 hp) (e1.trans e2) h2
    rw [← Bool.not_and, Bool.not_eq_false'] at hb
    rw [hb, if_pos rfl, ansV_list, common_is] at k
    have SL1 := SL.ex e1
    have m40 := S.good.mlen
    have hmt : ∀ (od : Obj) {H2 : Hp} {σ : L2.St} {ta : TA} {m x : Nat}, Ex (upd H1 L.mb (.frz od (.dK (mbK st)))) H2 → EvA ta σ H2 [.ref a, nV m, nV x] → Ev (tCall (rdV (p_has_met c)) [] E0 ta) σ H2 (.bl ((Kp427.eventsOf st m).any fun e => e.item == x)) := fun od {H2 σ ta m x} e2 h =>
      ev_callD h fun H3 e3 => ⟨a, L, st, m, x, rfl, (SL1.locked od).ex (e2.trans e3), rfl⟩
    refine q_lockAsg SL1.mb trivial (fun od => el_compKeys (ys := st.members.map Kp427.Member.id) (r := keyN) (fun m => ((Kp427.eventsOf st m).any fun e => e.item == i) && (Kp427.eventsOf st m).any fun e => e.item == j) nV (ev_members T (SL1.locked od) (ev_var rfl)) upd_same (mbK_keys st) (by rw [List.length_map]; omega) (fun _ => rfl)
      (fun m H2 e2 _ => et_and (et_B (hmt od e2 (ea_cons (ev_var rfl) (ea_cons (ev_var rfl) (ea_cons (ev_var rfl) ea_nil))))) fun _ => et_B (hmt od e2 (ea_cons (ev_var rfl) (ea_cons (ev_var rfl) (ea_cons (ev_var rfl) ea_nil))))) fun m H2 e2 _ _ => ev_var rfl) fun q H2 hq e2 h2 => ?_
    refine s_retL (el_cat (el_lst (ea_cons (ev_lenM (r := nV) (ev_var rfl) (sq_of h2)) ea_nil) (by show 1 ≤ 100000; decide)) (ev_var rfl) h2 ?_) fun p H5 hp e5 h6 => k p H5 (fresh_back (e1.trans e2) hp) ((e1.trans e2).trans e5) h6
    rw [List.length_map]
    have z := List.length_filter_le (fun m => ((Kp427.eventsOf st m).any fun e => e.item == i) && (Kp427.eventsOf st m).any fun e => e.item == j) (st.members.map Kp427.Member.id)
    rw [List.length_map] at z
    show 1 + _ ≤ 100000
    omega
end
end Shelf
end

section
set_option maxHeartbeats 4000000
namespace Shelf
open PySem PySem.Spec PyProof.Rows L2 Evl
section
variable {K : PySem.W.Frag} {σ : L2.St} {H H' : Hp} {ta tb te tl : TE} {a b : Nat}
/-! ### bits -/
theorem rv_shrN {k : Nat} : RV (rI (fun _ j => 0 ≤ j) fun i j => .int (i / 2 ^ j.toNat)) (nV a) (nV k) H (nV (a / 2 ^ k)) := by
  have e : nV (a / 2 ^ k) = V.int ((a : Int) / 2 ^ ((k : Int).toNat)) := congrArg V.int (by
    rw [Int.toNat_natCast, Int.natCast_ediv]
    norm_cast)
  rw [e]
  exact rv_I (Int.natCast_nonneg k)
theorem rv_andN (k : Nat) {m : Int} (h : m = 2 ^ k - 1) : RV (fun x y H Q => ∃ (i : Int) (k : Nat), x = .int i ∧ y = .int (2 ^ k - 1) ∧ Q (.int (i % 2 ^ k)) H) (nV a) (.int m) H (nV (a % 2 ^ k)) := fun H1 _ Q q => ⟨(a : Int), k, rfl, by rw [h], by
  have e : (a : Int) % 2 ^ k = ((a % 2 ^ k : Nat) : Int) := by
    rw [Int.natCast_emod]
    norm_cast
  rw [e]
  exact q H1 (Ex.refl H1)⟩
theorem rv_xorN : RV (rI0 fun i j => .int (Builtin.bitXor i j)) (nV a) (nV b) H (nV (a ^^^ b)) := by
  have e : nV (a ^^^ b) = V.int (Builtin.bitXor (a : Int) (b : Int)) := congrArg V.int (by
    rw [Bits.bitXor_pp (Int.natCast_nonneg a) (Int.natCast_nonneg b), Int.toNat_natCast, Int.toNat_natCast])
  rw [e]
  exact rv_I0
/-- for x in (a new tuple) -/
theorem s_forNT {xs : List V} {j : Nat} {D : Ends} {tu : TS} (h : EvU tl σ H xs) (W : Addr → Nat → L2.St → Hp → Prop) (h0 : ∀ p H1, H p = none → Ex H H1 → H1 p = some (.tup xs) → W p 0 σ H1) (hl : ∀ p i σ' H', i ≤ xs.length → W p i σ' H' → SqT K H' p xs)
    (hs : ∀ p i x σ' H', xs[i]? = some x → W p i σ' H' → tu { D with nx := W p (i + 1), ct := W p (i + 1), bk := D.nx } (σ'.set j (some x)) H') (hd : ∀ p σ' H', W p xs.length σ' H' → D.nx σ' H') : tFor (iTup K tl) (gName j) tu D σ H :=
  h H (Ex.refl H) _ fun p H1 hp e h1 => ⟨p, rfl, ⟨xs, st_of h1⟩, for_tup (W p) (h0 p H1 hp e h1) (hl p) (hs p) (hd p)⟩
end
/-! ### the hash -/
def hstep (h b : Nat) : Nat := (h ^^^ b) * 1099511628211 % 18446744073709551616
theorem hstep_def (h b : Nat) : (h ^^^ b) * 1099511628211 % 18446744073709551616 = hstep h b := by unfold hstep; rfl
theorem two64 : (2 : Nat) ^ 64 = 18446744073709551616 := by decide
theorem hstep_lt (h b : Nat) : hstep h b < 2 ^ 64 := by
  unfold hstep
  rw [two64]
  exact Nat.mod_lt _ (by decide)
def hstart : Nat := 14695981039346656037
theorem hstart_lt : hstart < 2 ^ 64 := by decide
def hrun (l : List Nat) : Nat := (l.flatMap Kp427.bytesOf).foldl hstep hstart
theorem hstep_fun : (fun (h b : Nat) => (h ^^^ b) * 1099511628211 % 2 ^ 64) = hstep := by
  funext h b
  rw [two64, hstep_def]
theorem hrun_is (l : List Nat) : Kp427.hash l = hrun l := by
  unfold Kp427.hash hrun hstart
  rw [hstep_fun]
theorem fold_lt : ∀ (l : List Nat) (h : Nat), h < 2 ^ 64 → l.foldl hstep h < 2 ^ 64
  | [], _, h => h
  | b :: r, h, _ => fold_lt r _ (hstep_lt h b)
theorem hrun_lt (l : List Nat) : hrun l < 2 ^ 64 := fold_lt _ _ hstart_lt
theorem hrun_snoc (l : List Nat) (n : Nat) : hrun (l ++ [n]) = (Kp427.bytesOf n).foldl hstep (hrun l) := by
  unfold hrun
  rw [List.flatMap_append, List.foldl_append]
  show ([n].flatMap Kp427.bytesOf).foldl hstep _ = _
  rw [List.flatMap_cons, List.flatMap_nil, List.append_nil]
theorem bytes_get {n i : Nat} {s : Nat} (h : ([0, 8, 16, 24] : List Nat)[i]? = some s) : (Kp427.bytesOf n).take (i + 1) = (Kp427.bytesOf n).take i ++ [n / 2 ^ s % 2 ^ 8] := by
  unfold Kp427.bytesOf
  match i, h with
  | 0, h =>
    cases h
    simp
  | 1, h =>
    cases h
    rfl
  | 2, h =>
    cases h
    rfl
  | 3, h =>
    cases h
    rfl
section
variable {P : Program} {w : World} {K : PySem.W.Frag} {mg : Str → Option Value} {base : Heap} {c : Adr}
abbrev s_hashed : Stmt := top 95
abbrev n_hashed : List Str := ["numbers", "value", "number", "shift", "byte"]
theorem sc_hashed : FnScope n_hashed ["numbers"] (defScope s_hashed) := ⟨rfl, rfl, rfl, by decide +kernel, rfl, by decide +kernel, by decide +kernel⟩
def p_hashed (vs : List V) (H : Hp) (z : V) : Prop := ∃ (p : Addr) (ns : List Nat), vs = [.ref p] ∧ H p = some (.lst (ns.map nV)) ∧ z = nV (Kp427.hash ns)
theorem d_hashed (T : Txt K mg c) (D0 : Def0 K mg "hashed" s_hashed ["numbers"]) : DefAt P w K mg base 1 "hashed" ["numbers"] (rdV p_hashed) := by
  refine DefAt.of D0 sc_hashed (fun vs H Q E h => ?_) (fun f cdv A outer s H vs Q E hr h => ?_)
  · obtain ⟨xs, ⟨i, a, rfl, _⟩, _⟩ := h
    rfl
  · obtain ⟨xs, ⟨p, ns, rfl, hp, rfl⟩, k⟩ := h
    rw [hrun_is] at k
    refine ⟨_, (pss_cons (ps_set (i := 1) sc_hashed.nd rfl (Or.inl rfl) (gI T.kHASH_START)) (pss_cons (ps_for PassesOwn.never rfl (piK (K := K) (pv 0)) (pg_name (i := 2) sc_hashed.nd rfl (Or.inl rfl)) (pss_one (ps_for PassesOwn.never rfl (pi_tup (pe_tup (pa_cons pe_int (pa_cons pe_int (pa_cons pe_int (pa_cons pe_int pa_nil)))))) (pg_name (i := 3) sc_hashed.nd rfl (Or.inl rfl)) (pss_cons (ps_set (i := 4) sc_hashed.nd rfl (Or.inl rfl) (pe_op op_andM (pe_op op_shr (pv 2) (pv 3)) pe_int)) (pss_one (ps_set (i := 1) sc_hashed.nd rfl (Or.inl rfl) (pe_op op_modN (pe_op op_mulW (pe_op op_xor (pv 1) (pv 4)) (gI T.kHASH_FACTOR)) (gI T.kHASH_RANGE)))))))) (pss_one (ps_ret (pv 1))))), ?_⟩
    refine q_asg (v := nV hstart) (ev_n 14695981039346656037) fun H1 e1 => ?_
    refine q_forM (ys := ns) (r := nV) (ev_var rfl) (sq_of (e1 _ _ hp)) (fun i σ' H' => ∃ v u x, σ' = [some (.ref p), some (nV (hrun (ns.take i))), v, u, x] ∧ Ex H H') (fun H2 e2 => ⟨none, none, none, rfl, e1.trans e2⟩) (fun i σ' H' ⟨v, u, x, _, e⟩ => sq_of (e _ _ hp)) ?_ ?_
    · rintro i y σ' H' hy ⟨v, u, x, rfl, e⟩
      refine s_forNT (K := K) (xs := ([0, 8, 16, 24] : List Nat).map nV) (eu_tup (ea_cons (ev_n 0) (ea_cons (ev_n 8) (ea_cons (ev_n 16) (ea_cons (ev_n 24) ea_nil)))) (by show 4 ≤ 100000; decide))
        (fun q j σ2 H2 => ∃ u x, σ2 = [some (.ref p), some (nV (((Kp427.bytesOf y).take j).foldl hstep (hrun (ns.take i)))), some (nV y), u, x] ∧ Ex H H2 ∧ H2 q = some (.tup (([0, 8, 16, 24] : List Nat).map nV))) (fun q H2 hq e2 h2 => ⟨u, x, rfl, e.trans e2, h2⟩) (fun q j σ2 H2 _ ⟨u, x, _, _, h⟩ => st_of h) ?_ ?_
      · rintro q j z σ2 H2 hz ⟨u, x, rfl, e2, h2⟩
        obtain ⟨s, hs, rfl⟩ := map_get hz
        refine q_asg (v := nV (y / 2 ^ s % 2 ^ 8)) (ev_op (ev_op (ev_var rfl) (ev_var rfl) rv_shrN) ev_c (rv_andN 8 (by decide))) fun H3 e3 => ?_
        have lt1 : ((Kp427.bytesOf y).take j).foldl hstep (hrun (ns.take i)) < 2 ^ 64 := fold_lt _ _ (hrun_lt _)
        have lt2 : y / 2 ^ s % 2 ^ 8 < 2 ^ 64 := Nat.lt_of_lt_of_le (Nat.mod_lt _ (by decide)) (by decide)
        refine s_asg (v := nV (hstep (((Kp427.bytesOf y).take j).foldl hstep (hrun (ns.take i))) (y / 2 ^ s % 2 ^ 8))) (ev_is (ev_op (ev_op (ev_op (ev_var rfl) (ev_var rfl) rv_xorN) (ev_n 1099511628211) (rv_mulN (p := 64) (q := 64) (Nat.xor_lt_two_pow lt1 lt2) (by decide) (by decide) (by decide) (by decide))) (ev_n 18446744073709551616) (rv_modN (by decide))) (by rw [hstep_def]))
          fun H4 e4 => ⟨some (nV s), some (nV (y / 2 ^ s % 2 ^ 8)), ?_, (e2.trans e3).trans e4, e4 _ _ (e3 _ _ h2)⟩
        rw [bytes_get hs, List.foldl_append, List.foldl_cons, List.foldl_nil]
        rfl
      · rintro q σ2 H2 ⟨u, x, rfl, e2, h2⟩
        refine ⟨some (nV y), u, x, ?_, e2⟩
        have e4 : (Kp427.bytesOf y).take (([0, 8, 16, 24] : List Nat).map nV).length = Kp427.bytesOf y := List.take_of_length_le (Nat.le_refl 4)
        rw [take_succ_get hy, hrun_snoc, e4]
    · rintro σ' H' ⟨v, u, x, rfl, e⟩
      refine s_ret (ev_var rfl) fun H2 e2 => ?_
      rw [List.take_length]
      exact k H2 (e.trans e2)
abbrev s_contents : Stmt := top 94
abbrev n_contents : List Str := ["store", "held", "item", "member", "event"]
theorem sc_contents : FnScope n_contents ["store"] (defScope s_contents) := ⟨rfl, rfl, rfl, by decide +kernel, rfl, by decide +kernel, by decide +kernel⟩
def p_contents (c : Adr) (vs : List V) (H : Hp) (xs : List V) : Prop := ∃ (a : Addr) (L : Lay) (s : Kp427.Store), vs = [.ref a] ∧ StL c H a L s ∧ xs = (Kp427.contents s).map nV
theorem len_flat {α : Type} (f : α → List Nat) (n : Nat) : ∀ l : List α, (∀ x ∈ l, (f x).length ≤ n) → (l.flatMap f).length ≤ n * l.length
  | [], _ => Nat.zero_le _
  | x :: r, h => by
    have ih := len_flat f n r fun y hy => h y (List.mem_cons_of_mem _ hy)
    have h0 := h x List.mem_cons_self
    rw [List.flatMap_cons, List.length_append, List.length_cons, Nat.mul_succ]
    omega
theorem flat_take {α : Type} (f : α → List Nat) {l : List α} {i : Nat} {x : α} (h : l[i]? = some x) : (l.take (i + 1)).flatMap f = (l.take i).flatMap f ++ f x := by
  rw [take_succ_get h, List.flatMap_append, List.flatMap_cons, List.flatMap_nil, List.append_nil]
theorem ev_dgetR {K : PySem.W.Frag} {σ : L2.St} {H : Hp} {td ty : TE} {p : Addr} {kvs : List (Key × V)} {k : Key} {v : V} {od : Obj} (hd : Ev td σ H (.ref p)) (hk : Ev ty σ H (kV k)) (h : H p = some (.frz od (.dK kvs))) (hv : valV kvs k = some v) : Ev (tDGet td ty) σ H v := fun H1 e Q q =>
  hd H1 e _ fun H2 e2 => hk H2 (e.trans e2) _ fun H3 e3 => ⟨p, v, rfl, Or.inl ⟨kvs, k, Or.inr ⟨od, ((e.trans e2).trans e3) _ _ h⟩, rfl, hv.symm⟩, q H3 (e2.trans e3)⟩
theorem valV_nodup : ∀ (l : List Kp427.Member), (l.map Kp427.Member.id).Nodup → ∀ x ∈ l, valV (l.map fun x => (keyN x.id, nV x.day)) (keyN x.id) = some (nV x.day)
  | [], _, x, hx => by cases hx
  | y :: r, nd, x, hx => by
    have nd' := List.nodup_cons.mp nd
    rw [List.map_cons]
    rcases List.mem_cons.mp hx with e | e
    · rw [e]
      exact valV_pos rfl
    · have hne : ¬ (keyN y.id : Key) = keyN x.id := fun z => nd'.1 (by
        have : y.id = x.id := Int.ofNat.inj (Sum.inl.inj z)
        rw [this]
        exact List.mem_map_of_mem e)
      rw [valV_neg hne]
      exact valV_nodup r nd'.2 x e
/-- all but the members' dict is kept: the rest of the store is read -/
theorem StL.but {H H' : Hp} {a : Addr} {L : Lay} {s : Kp427.Store} (S : StL c H a L s) (h : ∀ b o, H b = some o → b ≠ L.mb → H' b = some o) : StE c H' a L s := by
  have k : ∀ {b o}, H b = some o → o ≠ .dK (mbK s) → H' b = some o := fun {b o} hb n => h b o hb (ho_ne hb S.mb n)
  refine ⟨k S.ob (Ne.symm dK_ins), k S.wt lst_dK, k S.sh lst_dK, fun u hu => ?_, S.its, k S.ev lst_dK, fun u hu => ?_, S.eve, S.good⟩
  · obtain ⟨⟨du, ou⟩, cu⟩ := S.it u hu
    exact ⟨⟨du, k ou (Ne.symm dK_ins)⟩, k cu lst_dK⟩
  · obtain ⟨du, ou⟩ := S.evs u hu
    exact ⟨du, k ou (Ne.symm dK_ins)⟩
theorem d_contents (T : Txt K mg c) (D_item_data : DefAt P w K mg base 1 "item_data" ["store", "item"] (rdL (p_item_data c))) (D0 : Def0 K mg "contents" s_contents ["store"]) : DefAt P w K mg base 2 "contents" ["store"] (rdL (p_contents c)) := by
  refine DefAt.of D0 sc_contents (fun vs H Q E h => ?_) (fun f cdv A outer s H vs Q E hr h => ?_)
  · obtain ⟨xs, ⟨a, L, s, rfl, _⟩, _⟩ := h
    rfl
  · obtain ⟨xs, ⟨a, L, st, rfl, SL, rfl⟩, k⟩ := h
    have hu := hu_of hr
    have S := SL.toStE
    refine ⟨_, (pss_cons (ps_set (i := 1) sc_contents.nd rfl (Or.inl rfl) (pe_op op_cat (pe_lst (pa_cons (fK (K := K) (pv 0)) (pa_cons (fK (K := K) (pv 0)) pa_nil))) (fK (K := K) (pv 0)))) (pss_cons (ps_expr (pe_bm PySem.F.plainAttrs_list PySem.F.slot_list_append PySem.F.type_list_append mt_append (pv 1) (pa_cons (pe_callB call_len_seq (by rfl) T.b_len PySem.boot_len (pa_cons (fK (K := K) (pv 0)) pa_nil)) pa_nil))) (pss_cons (ps_for PassesOwn.never rfl (pi_range1 rfl T.b_range (pa_cons (pe_callB call_len_seq (by rfl) T.b_len PySem.boot_len (pa_cons (fK (K := K) (pv 0)) pa_nil)) pa_nil)) (pg_name (i := 2) sc_contents.nd rfl (Or.inl rfl)) (pss_one (ps_expr (pe_bm PySem.F.plainAttrs_list PySem.F.slot_list_extend PySem.F.type_list_extend mt_extend (pv 1) (pa_cons (pcD D_item_data hr (pa_cons (pv 0) (pa_cons (pv 2) pa_nil))) pa_nil))))) (pss_cons (ps_expr (pe_bm PySem.F.plainAttrs_list PySem.F.slot_list_append PySem.F.type_list_append mt_append (pv 1) (pa_cons (pe_callB call_lenD (by rfl) T.b_len PySem.boot_len (pa_cons (fK (K := K) (pv 0)) pa_nil)) pa_nil))) (pss_cons (ps_lock (ps_for PassesOwn.never rfl (pi_keys (fK (K := K) (pv 0))) (pg_name (i := 3) sc_contents.nd rfl (Or.inl rfl)) (pss_one (ps_expr (pe_bm PySem.F.plainAttrs_list PySem.F.slot_list_extend PySem.F.type_list_extend mt_extend (pv 1) (pa_cons (pe_lst (pa_cons (pv 3) (pa_cons (pe_dget hu (fK (K := K) (pv 0)) (pv 3) (fun _ _ => rfl)) pa_nil))) pa_nil)))))) (pss_cons (ps_expr (pe_bm PySem.F.plainAttrs_list PySem.F.slot_list_append PySem.F.type_list_append mt_append (pv 1) (pa_cons (pe_callB call_len_seq (by rfl) T.b_len PySem.boot_len (pa_cons (fK (K := K) (pv 0)) pa_nil)) pa_nil))) (pss_cons (ps_for PassesOwn.never rfl (piK (K := K) (fK (K := K) (pv 0))) (pg_name (i := 4) sc_contents.nd rfl (Or.inl rfl)) (pss_one (ps_expr (pe_bm PySem.F.plainAttrs_list PySem.F.slot_list_extend PySem.F.type_list_extend mt_extend (pv 1) (pa_cons (pe_lst (pa_cons (fK (K := K) (pv 4)) (pa_cons (fK (K := K) (pv 4)) (pa_cons (fK (K := K) (pv 4)) (pa_cons (fK (K := K) (pv 4)) (pa_cons (fK (K := K) (pv 4)) pa_nil)))))) pa_nil))))) (pss_one (ps_ret (pv 1)))))))))), ?_⟩
    -- the parts
    obtain ⟨p1, hp1⟩ : ∃ p1 : List Nat, p1 = [st.retention, st.gap] ++ st.weights := ⟨_, rfl⟩
    obtain ⟨p2, hp2⟩ : ∃ p2 : List Nat, p2 = p1 ++ st.items.length :: st.items.flatMap Kp427.itemNumbers := ⟨_, rfl⟩
    obtain ⟨fm, hfm⟩ : ∃ fm : Kp427.Member → List Nat, fm = fun m => [m.id, m.day] := ⟨_, rfl⟩
    obtain ⟨p3, hp3⟩ : ∃ p3 : List Nat, p3 = p2 ++ st.members.length :: st.members.flatMap fm := ⟨_, rfl⟩
    obtain ⟨fe, hfe⟩ : ∃ fe : Kp427.Event → List Nat, fe = fun e => [e.time, e.member, e.item, e.kind, e.value] := ⟨_, rfl⟩
    have ec : Kp427.contents st = p3 ++ st.events.length :: st.events.flatMap fe := by
      rw [hp3, hp2, hp1, hfm, hfe]
      rfl
    have i40 := S.good.ilen
    have m40 := S.good.mlen
    have e200 := S.good.elen
    have w6 := S.good.wlen
    have inl : ∀ x ∈ st.items, (Kp427.itemNumbers x).length ≤ 9 := fun x hx => by
      have := (S.good.icat x hx).1
      unfold Kp427.itemNumbers
      rw [List.length_append]
      show 5 + _ ≤ 9
      omega
    have l1 : p1.length = 8 := by rw [hp1, List.length_append, w6]; rfl
    have lit : ∀ i, ((st.items.take i).flatMap Kp427.itemNumbers).length ≤ 360 := fun i => by
      have z := len_flat Kp427.itemNumbers 9 (st.items.take i) fun x hx => inl x (List.mem_of_mem_take hx)
      rw [List.length_take] at z
      omega
    have l2 : p2.length ≤ 369 := by
      have z := lit st.items.length
      rw [List.take_length] at z
      rw [hp2, List.length_append, List.length_cons, l1]
      omega
    have lmb : ∀ i, ((st.members.take i).flatMap fm).length ≤ 80 := fun i => by
      have z := len_flat fm 2 (st.members.take i) fun x _ => by rw [hfm]; exact Nat.le_refl 2
      rw [List.length_take] at z
      omega
    have l3 : p3.length ≤ 450 := by
      have z := lmb st.members.length
      rw [List.take_length] at z
      rw [hp3, List.length_append, List.length_cons]
      omega
    have lev : ∀ i, ((st.events.take i).flatMap fe).length ≤ 1000 := fun i => by
      have z := len_flat fe 5 (st.events.take i) fun x _ => by rw [hfe]; exact Nat.le_refl 5
      rw [List.length_take] at z
      omega
    -- retention, gap, weights
    refine q_asgL (xs := p1.map nV) (el_is (el_cat (el_lst (ea_cons (ev_ret T S (ev_var rfl)) (ea_cons (ev_gap T S (ev_var rfl)) ea_nil)) (by show 2 ≤ 100000; decide)) (ev_weights T S (ev_var rfl)) S.wt (by rw [List.length_map, w6]; show 2 + 6 ≤ 100000; decide)) (by rw [hp1, List.map_append]; rfl)) fun t H1 ht e1 h1 => ?_
    have S1 := S.ex e1
    -- the items
    refine q_app h1 (ev_var rfl) (ev_lenX (n := st.items.length) (ev_shelf T S1 (ev_var rfl)) (sq_of S1.sh) (by rw [List.length_map, S.ilen])) (by rw [List.length_map]; omega) fun H2 e2 => ?_
    have e2' : Ex H (upd H2 t (.lst (p1.map nV ++ [nV st.items.length]))) := (e1.trans e2).mut ht
    have S2 := S.ex e2'
    refine q_forR1 (j := 2) (n := (st.items.length : Int)) (ea_cons (ev_lenX (n := st.items.length) (ev_shelf T S2 (ev_var rfl)) (sq_of S2.sh) (by rw [List.length_map, S.ilen])) ea_nil) ⟨by omega, by omega⟩
      (fun i σ' H' => ∃ v u x, σ' = [some (.ref a), some (.ref t), v, u, x] ∧ Ex H H' ∧ H' t = some (.lst ((p1 ++ st.items.length :: (st.items.take i).flatMap Kp427.itemNumbers).map nV))) (fun H3 e3 => ⟨none, none, none, rfl, e2'.trans e3, (e3 _ _ upd_same).trans ?_⟩) ?_ ?_
    · rw [List.map_append]
      rfl
    · rintro i σ' H' hi ⟨v, u, x, rfl, e3, h3⟩
      have S3 := S.ex e3
      have hi' : i < st.items.length := by omega
      have gi : st.items[i]? = some (Kp427.itemAt st i) := by
        unfold Kp427.itemAt
        rw [List.getD_eq_getElem?_getD, List.getElem?_eq_getElem hi']
        rfl
      have mi := List.mem_of_getElem? gi
      refine s_extL h3 (ev_var rfl) (el_callD (ea_cons (ev_var rfl) (ea_cons (ev_var rfl) ea_nil)) fun H4 e4 => ⟨a, L, st, i, rfl, S3.ex e4, hi', rfl⟩) ?_ fun H4 e4 => ⟨_, _, _, rfl, (e3.trans e4).mut ht, ?_⟩
      · have z := lit i
        have z2 := inl _ mi
        rw [List.length_map, List.length_map, List.length_append, List.length_cons, l1]
        omega
      · rw [upd_same, flat_take _ gi, ← List.map_append, List.append_assoc]
        rfl
    rintro σ' H3 ⟨v, u, x, rfl, e3, h3⟩
    rw [Int.toNat_natCast, List.take_length, ← hp2] at h3
    have S3 := SL.ex e3
    -- the members
    refine q_app h3 (ev_var rfl) (ev_lenD (n := st.members.length) (ev_members T S3.toStE (ev_var rfl)) S3.mb (mbK_len st)) (by rw [List.length_map]; omega) fun H4 e4 => ?_
    have e4' : Ex H (upd H4 t (.lst (p2.map nV ++ [nV st.members.length]))) := (e3.trans e4).mut ht
    have S4 := SL.ex e4'
    have tm : t ≠ L.mb := fun z => by
      rw [z, SL.mb] at ht
      cases ht
    refine q_forKeys S4.mb (fun od => ev_members T (S4.locked od) (ev_var rfl)) (fun od i σ' H' => ∃ v u x, σ' = [some (.ref a), some (.ref t), v, u, x] ∧ H' L.mb = some (.frz od (.dK (mbK st))) ∧ (∀ b o, H b = some o → b ≠ L.mb → H' b = some o) ∧ H' t = some (.lst ((p2 ++ st.members.length :: (st.members.take i).flatMap fm).map nV)))
      (fun od H5 e5 => ⟨_, _, _, rfl, e5 _ _ upd_same, fun b o h n => e5 _ _ (by rw [upd_ne n]; exact e4' b o h), (e5 _ _ (by rw [upd_ne tm]; exact upd_same)).trans ?_⟩) (fun od i σ' H' ⟨v, u, x, _, h, _⟩ => h) ?_ ?_
    · rw [List.map_append]
      rfl
    · rintro od i kk vv σ' H' R B hkv ⟨v, u, x, rfl, h5, k5, h6⟩
      have S5 := SL.but k5
      have hkv' : (st.members.map fun x => ((keyN x.id : Key), nV x.day))[i]? = some (kk, vv) := hkv
      rw [List.getElem?_map] at hkv'
      obtain ⟨m, hm, em⟩ := Option.map_eq_some_iff.mp hkv'
      cases em
      have mm := List.mem_of_getElem? hm
      refine s_extL h6 (ev_var rfl) (el_lst (ea_cons (ev_var rfl) (ea_cons (ev_dgetR (K := K) (k := keyN m.id) (v := nV m.day) (ev_members T S5 (ev_var rfl)) (ev_var rfl) h5 (valV_nodup st.members S.good.mnd m mm)) ea_nil)) (by show 2 ≤ 100000; decide)) ?_ fun H6 e6 => ⟨_, _, _, rfl, ?_, fun b o h n => ?_, ?_⟩
      · have z := lmb i
        rw [List.length_map, List.length_append, List.length_cons]
        show _ + 2 ≤ 100000
        omega
      · rw [upd_ne tm.symm]
        exact e6 _ _ h5
      · rw [upd_ne (ne_of_none h ht)]
        exact e6 _ _ (k5 b o h n)
      · have em : fm m = [m.id, m.day] := by rw [hfm]
        rw [upd_same, flat_take _ hm, em, ← List.cons_append, ← List.append_assoc]
        exact congrArg (fun l => some (HO.lst l)) (List.map_append (f := nV) (l₂ := [m.id, m.day])).symm
    rintro od σ' H5 ⟨v, u, x, rfl, h5, k5, h6⟩
    have e5 : Ex H (upd H5 L.mb (.dK (mbK st))) := fun b o h => by
      by_cases hb : b = L.mb
      · rw [hb, SL.mb] at h
        rw [hb, upd_same]
        exact h
      · rw [upd_ne hb]
        exact k5 b o h hb
    have h7 : upd H5 L.mb (.dK (mbK st)) t = some (.lst (p3.map nV)) := by
      rw [upd_ne tm, h6, mbK_len, List.take_length, ← hp3]
    have S6 := SL.ex e5
    -- the events
    refine q_app h7 (ev_var rfl) (ev_lenX (n := st.events.length) (ev_events T S6.toStE (ev_var rfl)) (sq_of S6.ev) (by rw [List.length_map, S.elen])) (by rw [List.length_map]; omega) fun H8 e8 => ?_
    have e8' : Ex H (upd H8 t (.lst (p3.map nV ++ [nV st.events.length]))) := (e5.trans e8).mut ht
    have S8 := SL.ex e8'
    refine q_forM (ys := L.evs) (r := fun e => V.ref e.1) (ev_events T S8.toStE (ev_var rfl)) (sq_of S8.ev) (fun i σ' H' => ∃ v u x, σ' = [some (.ref a), some (.ref t), v, u, x] ∧ Ex H H' ∧ H' t = some (.lst ((p3 ++ st.events.length :: (st.events.take i).flatMap fe).map nV)))
      (fun H9 e9 => ⟨_, _, _, rfl, e8'.trans e9, (e9 _ _ upd_same).trans ?_⟩) (fun i σ' H' ⟨v, u, x, _, e, _⟩ => sq_of (e _ _ S.ev)) ?_ ?_
    · rw [List.map_append]
      rfl
    · rintro i y σ' H' hy ⟨v, u, x, rfl, e9, h9⟩
      have my := List.mem_of_getElem? hy
      have Sy := (S.evs y my).ex e9
      have gy : st.events[i]? = some y.2 := by
        rw [S.eve, List.getElem?_map, hy]
        rfl
      refine s_extL h9 (ev_var rfl) (el_lst (ea_cons (ev_time T Sy (ev_var rfl)) (ea_cons (ev_member T Sy (ev_var rfl)) (ea_cons (ev_item T Sy (ev_var rfl)) (ea_cons (ev_kind T Sy (ev_var rfl)) (ea_cons (ev_value T Sy (ev_var rfl)) ea_nil))))) (by show 5 ≤ 100000; decide)) ?_ fun H10 e10 => ⟨_, _, _, rfl, (e9.trans e10).mut ht, ?_⟩
      · have z := lev i
        rw [List.length_map, List.length_append, List.length_cons]
        show _ + 5 ≤ 100000
        omega
      · have em : fe y.2 = [y.2.time, y.2.member, y.2.item, y.2.kind, y.2.value] := by rw [hfe]
        rw [upd_same, flat_take _ gy, em, ← List.cons_append, ← List.append_assoc]
        exact congrArg (fun l => some (HO.lst l)) (List.map_append (f := nV) (l₂ := [y.2.time, y.2.member, y.2.item, y.2.kind, y.2.value])).symm
    · rintro σ' H9 ⟨v, u, x, rfl, e9, h9⟩
      refine s_ret (ev_var rfl) fun H10 e10 => k t H10 ht (e9.trans e10) ?_
      rw [S.elen, List.take_length, ← ec] at h9
      exact e10 _ _ h9
abbrev s_digest : Stmt := top 96
abbrev n_digest : List Str := ["store", "value"]
theorem sc_digest : FnScope n_digest ["store"] (defScope s_digest) := ⟨rfl, rfl, rfl, by decide +kernel, rfl, by decide +kernel, by decide +kernel⟩
def p_digest (c : Adr) (vs : List V) (H : Hp) (xs : List V) : Prop := p_ask c [] .digest vs H xs
theorem d_digest (T : Txt K mg c) (D_contents : DefAt P w K mg base 2 "contents" ["store"] (rdL (p_contents c))) (D_hashed : DefAt P w K mg base 1 "hashed" ["numbers"] (rdV p_hashed)) (D0 : Def0 K mg "digest" s_digest ["store"]) : DefAt P w K mg base 3 "digest" ["store"] (rdL (p_digest c)) := by
  refine DefAt.of D0 sc_digest (fun vs H Q E h => ?_) (fun f cdv A outer s H vs Q E hr h => ?_)
  · obtain ⟨xs, ⟨a, L, s, rfl, _⟩, _⟩ := h
    rfl
  · obtain ⟨xs, ⟨a, L, st, rfl, SL, rfl⟩, k⟩ := h
    refine ⟨_, (pss_cons (ps_set (i := 1) sc_digest.nd rfl (Or.inl rfl) (pcD D_hashed (hr.mono (by decide)) (pa_cons (pcD D_contents hr (pa_cons (pv 0) pa_nil)) pa_nil))) (pss_one (ps_ret (pe_lst (pa_cons (pe_op op_shr (pv 1) pe_int) (pa_cons (pe_op op_andM (pv 1) pe_int) pa_nil)))))), ?_⟩
    have es : (Kp427.step (some st) .digest).2 = Kp427.natResult (Kp427.hash (Kp427.contents st) / 2 ^ 32) [Kp427.hash (Kp427.contents st) % 2 ^ 32] := rfl
    rw [es, ansV_nat] at k
    have hc : ∀ {σ : L2.St} {ta : TA}, EvA ta σ H [.ref a] → EvL (tCall (rdL (p_contents c)) [] E0 ta) σ H ((Kp427.contents st).map nV) := fun {σ ta} h => el_callD h fun H2 e2 => ⟨a, L, st, rfl, SL.ex e2, rfl⟩
    refine q_asg (v := nV (Kp427.hash (Kp427.contents st))) (ev_call' (ea_new (hc (ea_cons (ev_var rfl) ea_nil))) fun vs H2 e2 ⟨p, r, e3, hp, e4⟩ => ?_) fun H1 e1 => ?_
    · subst e4
      subst e3
      exact rdV_sp fun H3 e3 => ⟨p, _, rfl, e3 _ _ hp, rfl⟩
    exact s_retL (el_lst (ea_cons (ev_op (ev_var rfl) (ev_n 32) rv_shrN) (ea_cons (ev_op (ev_var rfl) ev_c (rv_andN 32 (by decide))) ea_nil)) (by show 2 ≤ 100000; decide)) fun p H2 hp e2 h2 => k p H2 (fresh_back e1 hp) (e1.trans e2) h2
end
end Shelf
end

section
set_option maxHeartbeats 4000000
/-! list(d.values()); d.setdefault(t, x) of a dict whose keys are tuples. -/
namespace Shelf
open PySem PySem.Spec PyProof.Rows L2 Evl
section
/-- list(d.values()) -/
def tListVals (te : TE) : TE := fun σ H Q => te σ H fun x H1 => ∃ (d : Addr) (vs : List V), x = .ref d ∧ ((∃ kvs, H1 d = some (.dK kvs) ∧ vs = kvs.map (·.2)) ∨ ∃ kvs, H1 d = some (.dT kvs) ∧ vs = kvs.map (·.2)) ∧ ∀ p, H1 p = none → Q (.ref p) (upd H1 p (.lst vs))
theorem kv_vals {κ : Type} {kvs : List (κ × V)} {vs : List (κ × Value)} (r : KV kvs vs) : Vals (kvs.map (·.2)) (vs.map (·.2)) := by
  unfold KV at r
  induction r with
  | nil => exact .nil
  | cons h t ih => exact .cons h.2 ih
theorem kt_vals {H : Hp} {kvs : List (List Key × V)} {xs : List (List Key × Addr × Value)} (r : KT H kvs xs) : Vals (kvs.map (·.2)) (xs.map (·.2.2)) := by
  induction r with
  | nil => exact .nil
  | cons h t ih => exact .cons h.2.2 ih
/-- a tracked dict, its entries as they lie -/
theorem d_raw {P : Program} {w : World} {H : Hp} {h : Heap} {d : Addr} {vs : List V} (ok : HOk P w H h) (e : (∃ kvs, H d = some (.dK kvs) ∧ vs = kvs.map (·.2)) ∨ ∃ kvs, H d = some (.dT kvs) ∧ vs = kvs.map (·.2)) :
    vs.length ≤ sizeLine ∧ (d == sysModules) = false ∧ ∃ es ep, h.DictRaw d es ep ∧ es.size = vs.length ∧ Vals vs (es.toList.map (·.val)) := by
  rcases e with ⟨kvs, e, rfl⟩ | ⟨kvs, e, rfl⟩
  · obtain ⟨z, hd, ws, rel, dd⟩ := dk_of ok e
    obtain ⟨es, ep, raw, sz, at'⟩ := dd.raw
    have eq : es.toList.map (·.val) = ws.map (·.2) := by
      refine List.ext_getElem (by simp [sz]) fun i h1 h2 => ?_
      have hi : i < es.size := by simpa using h1
      have hw : i < ws.length := by simpa using h2
      have := (at' i hi ws[i].1 ws[i].2 (List.getElem?_eq_getElem hw)).2
      simp only [List.getElem_map, Array.getElem_toList]
      exact this
    refine ⟨by rw [List.length_map]; exact z, hd, es, ep, raw, ?_, ?_⟩
    · rw [List.length_map, sz]
      exact (KV.length rel).symm
    · rw [eq]
      exact kv_vals rel
  · obtain ⟨z, hd, xs, rel, dd⟩ := dt_of ok e
    obtain ⟨es, ep, raw, sz, at'⟩ := dd.raw
    have eq : es.toList.map (·.val) = xs.map (·.2.2) := by
      refine List.ext_getElem (by simp [sz]) fun i h1 h2 => ?_
      have hi : i < es.size := by simpa using h1
      obtain ⟨y, hy, _, hv, _⟩ := at' i hi
      simp only [List.getElem_map, Array.getElem_toList]
      rw [hv]
      have := (List.getElem?_eq_some_iff.mp hy).2
      rw [← this]
    refine ⟨by rw [List.length_map]; exact z, hd, es, ep, raw, ?_, ?_⟩
    · rw [List.length_map, sz]
      exact (Paired.length rel).symm
    · rw [eq]
      exact kt_vals rel
variable {X : Cx} {e : Expr} {te : TE} {p apos cpos pos : Pos}
theorem pe_listVals (hc : X.calm = true) (he : PE X e te) (hg : Gl X "list") (hm : X.mg "list" = none) (hv : bootBuiltins "list" = some (.type "list")) (hbase : attributeBase e "values" X.env (eval e X.env) = eval e X.env := by rfl) (hline : (apos.endLine == cpos.line) = true := by rfl)
    (hs : starEach [.Call (.Attribute e "values" apos) [] [] cpos] X.env = (false, eval (.Call (.Attribute e "values" apos) [] [] cpos) X.env) :: starEach [] X.env := by rfl) :
    PE X (.Call (.Name "list" p) [.Call (.Attribute e "values" apos) [] [] cpos] [] pos) (tListVals te) := by
  refine ⟨fun pins s σ H Q I hq => ?_⟩
  refine wpAny_Call_Name_kw (ld_blt I hg hm hv ?_)
  refine PyProof.Rows.callWith_type1 ?_ hs rfl
  rw [hs]
  show wpAny _ _ (spliced ((false, eval (.Call (.Attribute e "values" apos) [] [] cpos) X.env) :: backTo pos (starEach [] X.env))) _ _ s
  refine Calls.spliced_cons ?_
  refine wpAny_Call_method (T := "dict") (id := "dict.values") hbase rfl hline F.plainAttrs_dict F.slot_dict_values F.type_dict_values (thn (he.run pins s σ H _ I hq) fun u s1 ⟨x, H1, I1, rx, d, vs, ex, hd, q⟩ => ?_)
  subst ex
  obtain rfl : u = Value.ref d := rx
  obtain ⟨hz, hs0, es, ep, raw, sz, rel⟩ := d_raw I1.hok hd
  have I2 : Inv X pins σ H1 { s1 with heap := s1.heap.push { cls := .type "dict_values", data := .fields #[.ref d] } } := I1.kept (t' := s1.toks) fun b ob q => Heap.get?_push_of_some _ q
  refine ⟨raw.typeIs, fun ob eo => ?_, ?_⟩
  · cases eo
    obtain ⟨o, ho, exd, _⟩ := raw
    exact ⟨o, ho, exd.2.1⟩
  show wpAny _ _ (callWith cpos (.builtin "dict.values") [.ref d] [] []) _ X.xe s1
  refine method_meetsIn F.slot_dict_values F.entry_dict_values rfl (PySem.evalArgs_none ⟨rfl, raw.typeIs, F.args_dict_values_1 _, _, meets_dict_values_raw d hs0, ⟨es, ep, raw⟩, ?_⟩)
  refine Calls.spliced_nil ?_
  refine PySem.W.kdl_call (KdlSrc.rawValues (r := s1.heap.objs.size) (d := d) (es := es) (ep := ep)) (I1.ok.hd hc) ⟨⟨_, Heap.get?_push_size _ rfl, rfl, rfl⟩, raw.at fun o eo => Heap.get?_push_of_some _ eo⟩ (by rw [sz]; exact hz) fun h' tk acc c hk hS hit => ?_
  have eqa : acc.toList = es.toList.map (·.val) := by
    refine List.ext_getElem (by simp [hit.1]) fun i h1 h2 => ?_
    have hi : i < acc.size := by simpa using h1
    obtain ⟨hj, hv⟩ := hit.2 i acc[i] (Array.getElem?_eq_getElem hi)
    simp only [List.getElem_map, Array.getElem_toList]
    exact hv
  have fr : H1 (s1.heap.push { cls := .type "dict_values", data := .fields #[.ref d] }).objs.size = none := I2.hok.fresh (Nat.le_refl _)
  refine ⟨.ref _, upd H1 _ (.lst vs), I2.laid (t' := tk) hk (Nat.le_refl _) ⟨hz, acc.toList, c, by rw [eqa]; exact rel, ?_⟩, rfl, q _ fr⟩
  rw [Array.toArray_toList]
  exact hS
/-- d.setdefault(t, x), the keys tuples -/
def tDSetdT (td ty tx : TE) : TE := fun σ H Q => td σ H fun x H1 => ∃ a, x = .ref a ∧ IsD H1 a ∧ ty σ H1 fun y H2 => tx σ H2 fun z H3 => ∃ (kvs : List (List Key × V)) (k : List Key) (b : Addr), H3 a = some (.dT kvs) ∧ y = .ref b ∧ H3 b = some (.tup (k.map kV)) ∧ kvs.length < sizeLine ∧
  (∀ v, valV kvs k = some v → Q v H3) ∧ (valV kvs k = none → Q z (upd H3 a (.dT (putK kvs k z))))
variable {o f : Expr} {td ty tx : TE}
theorem pe_setdT (hu : X.A.units + 1 < cLine) (ho : PE X o td) (he : PE X e ty) (hf : PE X f tx) (m : M2 X o "setdefault" apos e f cpos) : PE X (.Call (.Attribute o "setdefault" apos) [e, f] [] cpos) (tDSetdT td ty tx) := by
  refine ⟨fun pins s σ H Q I h => ?_⟩
  refine wpAny_Call_method m.base m.few m.line PySem.F.plainAttrs_dict PySem.F.slot_dict_setdefault PySem.F.type_dict_setdefault (thn (ho.run pins s σ H _ I h) fun u s1 ⟨x, H1, I1, rx, a, ex, d, q1⟩ => ?_)
  subst ex
  obtain rfl : u = Value.ref a := rx
  obtain ⟨t1, t2, _⟩ := isD_at I1 d
  refine ⟨t1, t2, ?_⟩
  rw [m.trees]
  refine Calls.callWith_builtin rfl (Calls.evalArgs_plain (Calls.spliced_cons (thn (he.run pins s1 σ H1 _ I1 q1) fun iv s2 ⟨y, H2, I2, ry, q2⟩ =>
    Calls.spliced_cons (thn (hf.run pins s2 σ H2 _ I2 q2) fun fv s3 ⟨z, H3, I3, rz, kvs, k, b, ea, ey, eb, hl, q3, q4⟩ => Calls.spliced_nil ?_))))
  subst ey
  cases (show iv = Value.ref b from ry)
  obtain ⟨zz, hd, xs, rel, dd⟩ := dt_of I3.hok ea
  have hz : xs.length ≤ sizeLine := by rw [← Paired.length rel]; exact zz
  refine call_setdefault_heap (hsz := hz) (tupleKind_room_in1 hu) (key_of I3.hok eb) hd dd (fun p hp => ?_) fun hn h' dd' hs => ?_
  · have q := rel.val k
    rw [hp] at q
    cases q0 : valV kvs k with
    | none =>
      rw [q0] at q
      exact (show False from q).elim
    | some v0 =>
      rw [q0] at q
      exact ⟨v0, _, I3.tok _, q, q3 v0 q0⟩
  · have q := rel.val k
    rw [hn] at q
    cases q0 : valV kvs k with
    | some v0 =>
      rw [q0] at q
      exact (show False from q).elim
    | none =>
      have hl2 : (putK kvs k z).length ≤ sizeLine := by
        have := length_putK kvs k z
        omega
      obtain ⟨q, es, ep, hq, h2, h3, h4, _, h5⟩ := dd'
      refine ⟨z, upd H3 a (.dT (putK kvs k z)), d_write (ob := .dT (putK kvs k z)) (t' := s3.toks + _) I3 (by rw [ea]; exact True.intro) hs ⟨q, hq⟩ ⟨hl2, hd, _, (rel.put k eb rz).keeps fun c ys ec => ?_, q, es, ep, hq, h2, h3, h4, h5⟩, rz, q4 q0⟩
      rw [upd_ne (ne_of ec ea (fun z => nomatch z))]
      exact ec
end
section
variable {σ : L2.St} {H : Hp} {td : TE} {d : Addr}
theorem el_valsK {kvs : List (Key × V)} (h : Ev td σ H (.ref d)) (hd : H d = some (.dK kvs)) : EvL (tListVals td) σ H (kvs.map (·.2)) := fun H1 e Q q =>
  h H1 e _ fun H2 e2 => ⟨d, _, rfl, Or.inl ⟨kvs, (e.trans e2) _ _ hd, rfl⟩, fun p hp => q p _ (fresh_back e2 hp) (e2.trans (Ex.new hp)) upd_same⟩
theorem el_valsT {kvs : List (List Key × V)} (h : Ev td σ H (.ref d)) (hd : H d = some (.dT kvs)) : EvL (tListVals td) σ H (kvs.map (·.2)) := fun H1 e Q q =>
  h H1 e _ fun H2 e2 => ⟨d, _, rfl, Or.inr ⟨kvs, (e.trans e2) _ _ hd, rfl⟩, fun p hp => q p _ (fresh_back e2 hp) (e2.trans (Ex.new hp)) upd_same⟩
end
end Shelf
end

section
set_option maxHeartbeats 4000000
namespace Shelf
open PySem PySem.Spec PyProof.Rows L2 Evl
/-! ### fractions -/
theorem red_nat (a b : Nat) (hb : 0 < b) : Kp427.reduce (a : Int) b = (((a / Nat.gcd a b : Nat) : Int), b / Nat.gcd a b) := by
  unfold Kp427.reduce
  have hg : Nat.gcd a b ≠ 0 := fun z => by
    have := Nat.gcd_pos_of_pos_right a hb
    omega
  simp only [Int.natAbs_natCast, if_neg hg]
  rw [Int.natCast_ediv]
theorem rv_shlN {a b : Nat} {H : Hp} (ha : a < 2 ^ 64) (hb : b ≤ 1000000) : RV (rI CPow fun i j => .int (i * 2 ^ j.toNat)) (nV a) (nV b) H (nV (a * 2 ^ b)) := by
  have e : nV (a * 2 ^ b) = V.int ((a : Int) * 2 ^ (b : Int).toNat) := congrArg V.int (by
    rw [Int.toNat_natCast, Int.natCast_mul, Int.natCast_pow]
    rfl)
  rw [e]
  exact rv_I ⟨Int.natCast_nonneg b, by omega, by simpa using ha⟩
theorem gcd_step (d r : Nat) : Nat.gcd r (d % r) = Nat.gcd d r := by
  rw [Nat.gcd_comm d r, Nat.gcd_rec r d, Nat.gcd_comm]
theorem sum_le {α : Type} (f : α → Nat) (B : Nat) : ∀ (l : List α), (∀ x ∈ l, f x ≤ B) → (l.map f).sum ≤ l.length * B
  | [], _ => Nat.zero_le _
  | x :: l, h => by
    have h1 := h x List.mem_cons_self
    have h2 := sum_le f B l fun y hy => h y (List.mem_cons_of_mem _ hy)
    rw [List.map_cons, List.sum_cons, List.length_cons, Nat.add_mul]
    omega
section
variable {P : Program} {w : World} {K : PySem.W.Frag} {mg : Str → Option Value} {base : Heap} {c : Adr}
abbrev s_lowest_terms : Stmt := top 69
abbrev n_lowest_terms : List Str := ["top", "bottom", "divisor", "rest", "following"]
theorem sc_lowest_terms : FnScope n_lowest_terms ["top", "bottom"] (defScope s_lowest_terms) := ⟨rfl, rfl, rfl, by decide +kernel, rfl, by decide +kernel, by decide +kernel⟩
def p_lowest_terms (vs : List V) (_ : Hp) (xs : List V) : Prop := ∃ (a b : Nat), vs = [nV a, nV b] ∧ 0 < b ∧ a < 2 ^ 800 ∧ b < 2 ^ 800 ∧ xs = [a / Nat.gcd a b, b / Nat.gcd a b].map nV
theorem d_lowest_terms (T : Txt K mg c) (D0 : Def0 K mg "lowest_terms" s_lowest_terms ["top", "bottom"]) : DefAt P w K mg base 1 "lowest_terms" ["top", "bottom"] (rdL p_lowest_terms) := by
  refine DefAt.of D0 sc_lowest_terms (fun vs H Q E h => ?_) (fun f cdv A outer s H vs Q E hr h => ?_)
  · obtain ⟨xs, ⟨i, a, rfl, _⟩, _⟩ := h
    rfl
  · obtain ⟨xs, ⟨a, b, rfl, h0, ha, hb, rfl⟩, k⟩ := h
    refine ⟨_, (pss_cons (ps_set (i := 2) sc_lowest_terms.nd rfl (Or.inl rfl) (pv 0)) (pss_cons (ps_set (i := 3) sc_lowest_terms.nd rfl (Or.inl rfl) (pv 1)) (pss_cons (ps_while PassesOwn.never (pt_cmpR op_ne (pv 3) pe_int (nomark _)) (pss_cons (ps_set (i := 4) sc_lowest_terms.nd rfl (Or.inl rfl) (pe_op op_modN (pv 2) (pv 3))) (pss_cons (ps_set (i := 2) sc_lowest_terms.nd rfl (Or.inl rfl) (pv 3)) (pss_one (ps_set (i := 3) sc_lowest_terms.nd rfl (Or.inl rfl) (pv 4)))))) (pss_one (ps_ret (pe_lst (pa_cons (pe_op op_fdivW (pv 0) (pv 2)) (pa_cons (pe_op op_fdivW (pv 1) (pv 2)) pa_nil)))))))), ?_⟩
    refine q_asg (v := nV a) (ev_var rfl) fun H1 e1 => ?_
    refine q_asg (v := nV b) (ev_var rfl) fun H2 e2 => ?_
    refine q_while (fun m σ' H' => ∃ d z, σ' = [some (nV a), some (nV b), some (nV d), some (nV m), z] ∧ Ex H H' ∧ Nat.gcd d m = Nat.gcd a b ∧ d < 2 ^ 800 ∧ m < 2 ^ 800) b ⟨a, none, rfl, e1.trans e2, rfl, ha, hb⟩ ?_
    rintro m σ' H' ⟨d, z, rfl, e, hg, hd, hm⟩
    refine ⟨_, et_test (ev_op (ev_var rfl) (ev_n 0) rv_neN), fun hz H3 e3 => ?_, fun hz H3 e3 => ?_⟩
    · have hm0 : m ≠ 0 := by simpa using hz
      refine ⟨fun σ2 H2 => ∃ z, σ2 = [some (nV a), some (nV b), some (nV m), some (nV (d % m)), z] ∧ Ex H H2, fun σ2 H2 ⟨z, e4, e5⟩ => ⟨d % m, Nat.mod_lt _ (Nat.pos_of_ne_zero hm0), m, z, e4, e5, by rw [gcd_step]; exact hg, hm, Nat.lt_trans (Nat.mod_lt _ (Nat.pos_of_ne_zero hm0)) hm⟩, ?_⟩
      refine q_asg (v := nV (d % m)) (ev_op (ev_var rfl) (ev_var rfl) (rv_modN hm0)) fun H4 e4 => ?_
      refine q_asg (v := nV m) (ev_var rfl) fun H5 e5 => ?_
      exact s_asg (v := nV (d % m)) (ev_var rfl) fun H6 e6 => ⟨_, rfl, (((e.trans e3).trans e4).trans e5).trans e6⟩
    · have hm0 : m = 0 := by simpa using hz
      subst hm0
      rw [Nat.gcd_zero_right] at hg
      subst hg
      have gp : 0 < Nat.gcd a b := Nat.gcd_pos_of_pos_right a h0
      exact s_retL (el_lst (ea_cons (ev_op (ev_var rfl) (ev_var rfl) (rv_divN hd gp (by decide) (by decide))) (ea_cons (ev_op (ev_var rfl) (ev_var rfl) (rv_divN hd gp (by decide) (by decide))) ea_nil)) (by show 2 ≤ 100000; decide)) fun p H4 hp e4 h4 => k p H4 (fresh_back (e.trans e3) hp) ((e.trans e3).trans e4) h4
/-! ### popularity -/
theorem pop_snoc (s : Kp427.Store) (i t h : Nat) (l : List Kp427.Event) (e : Kp427.Event) : (((l ++ [e]).filter fun e => e.item == i).map (Kp427.decayed s t h)).sum = ((l.filter fun e => e.item == i).map (Kp427.decayed s t h)).sum + if e.item == i then Kp427.decayed s t h e else 0 := by
  rw [List.filter_append, List.map_append, List.sum_append, List.filter_cons]
  split <;> simp
theorem wt_le {s : Kp427.Store} (g : Good s) (k : Nat) : s.weights.getD k 0 ≤ 1000 := by
  rw [List.getD_eq_getElem?_getD]
  by_cases h : k < s.weights.length
  · rw [List.getElem?_eq_getElem h]
    exact g.wle _ (List.getElem_mem h)
  · rw [List.getElem?_eq_none (by omega)]
    exact Nat.zero_le _
theorem wt_get {s : Kp427.Store} (g : Good s) {k : Nat} (h : k < 6) : s.weights[k]? = some (s.weights.getD k 0) := by
  have : k < s.weights.length := by rw [g.wlen]; exact h
  rw [List.getD_eq_getElem?_getD, List.getElem?_eq_getElem this]
  rfl
theorem dec_le {s : Kp427.Store} (g : Good s) (t h : Nat) (e : Kp427.Event) : Kp427.decayed s t h e ≤ 1000 * 2 ^ 40 := by
  unfold Kp427.decayed
  split
  · exact Nat.zero_le _
  · exact Nat.mul_le_mul (wt_le g _) (Nat.pow_le_pow_right (by decide) (Nat.sub_le _ _))
theorem pop_le {s : Kp427.Store} (g : Good s) (i t h : Nat) : Kp427.popularity s t h i < 2 ^ 60 := by
  have h1 := sum_le (Kp427.decayed s t h) (1000 * 2 ^ 40) (Kp427.eventsOn s i) fun x _ => dec_le g t h x
  have h2 : (Kp427.eventsOn s i).length ≤ 200 := Nat.le_trans (List.length_filter_le _ _) g.elen
  unfold Kp427.popularity
  have h3 := Nat.mul_le_mul h2 (Nat.le_refl (1000 * 2 ^ 40))
  omega
abbrev s_scaled_popularity : Stmt := top 74
abbrev n_scaled_popularity : List Str := ["store", "item", "time", "half_life", "total", "event", "halvings"]
theorem sc_scaled_popularity : FnScope n_scaled_popularity ["store", "item", "time", "half_life"] (defScope s_scaled_popularity) := ⟨rfl, rfl, rfl, by decide +kernel, rfl, by decide +kernel, by decide +kernel⟩
def p_scaled_popularity (c : Adr) (vs : List V) (H : Hp) (z : V) : Prop := ∃ a L s i t h, vs = [.ref a, nV i, nV t, nV h] ∧ StL c H a L s ∧ 0 < h ∧ h < 2 ^ 64 ∧ z = nV (Kp427.popularity s t h i)
theorem d_scaled_popularity (T : Txt K mg c) (D0 : Def0 K mg "scaled_popularity" s_scaled_popularity ["store", "item", "time", "half_life"]) : DefAt P w K mg base 1 "scaled_popularity" ["store", "item", "time", "half_life"] (rdV (p_scaled_popularity c)) := by
  refine DefAt.of D0 sc_scaled_popularity (fun vs H Q E h => ?_) (fun f cdv A outer s H vs Q E hr h => ?_)
  · obtain ⟨xs, ⟨a, L, s, i, t, h, rfl, _⟩, _⟩ := h
    rfl
  · obtain ⟨xs, ⟨a, L, st, i, t, hl, rfl, SL, h0, h64, rfl⟩, k⟩ := h
    refine ⟨_, (pss_cons (ps_set (i := 4) sc_scaled_popularity.nd rfl (Or.inl rfl) pe_int) (pss_cons (ps_for PassesOwn.never rfl (piK (K := K) (fK (K := K) (pv 0))) (pg_name (i := 5) sc_scaled_popularity.nd rfl (Or.inl rfl)) (pss_one (ps_if (PW.pt (pw_and (pt_cmpR op_eq (fK (K := K) (pv 5)) (pv 1) (nomark _)) (pw_and1 (pt_cmpR op_le (fK (K := K) (pv 5)) (pv 2) (nomark _))))) (pss_cons (ps_set (i := 6) sc_scaled_popularity.nd rfl (Or.inl rfl) (pe_op op_fdivW (pe_op op_sub (pv 2) (fK (K := K) (pv 5))) (pv 3))) (pss_one (ps_if (pt_cmpR op_le (pv 6) (gI T.kMAX_HALVINGS) (nomark _)) (pss_one (ps_aug (i := 4) sc_scaled_popularity.nd rfl (Or.inl rfl) (pe_op op_shl (ixK (K := K) (fK (K := K) (pv 0)) (fK (K := K) (pv 5))) (pe_op op_sub (gI T.kMAX_HALVINGS) (pv 6))) ip_add)) pss_nil))) pss_nil))) (pss_one (ps_ret (pv 4))))), ?_⟩
    have S := SL.toStE
    refine q_asg (v := nV 0) (ev_n 0) fun H1 e1 => ?_
    have S1 := S.ex e1
    refine q_forM (ys := L.evs) (r := fun e => V.ref e.1) (ev_events T S1 (ev_var rfl)) (sq_of S1.ev) (fun j σ' H' => ∃ v u, σ' = [some (.ref a), some (nV i), some (nV t), some (nV hl), some (nV (((((L.evs.take j).map (·.2)).filter fun e => e.item == i).map (Kp427.decayed st t hl)).sum)), v, u] ∧ Ex H H')
      (fun H2 e2 => ⟨none, none, rfl, e1.trans e2⟩) (fun j σ' H' ⟨v, u, _, e⟩ => sq_of (S.ex e).ev) ?_ ?_
    · rintro j y σ' H' hy ⟨v, u, rfl, e⟩
      have my := List.mem_of_getElem? hy
      have S2 := S.ex e
      have Sy := S2.evs y my
      have nx : ∀ n, (if y.2.item == i then Kp427.decayed st t hl y.2 else 0) = n → (((((L.evs.take (j + 1)).map (·.2)).filter fun e => e.item == i).map (Kp427.decayed st t hl)).sum) = (((((L.evs.take j).map (·.2)).filter fun e => e.item == i).map (Kp427.decayed st t hl)).sum) + n := fun n hn => by
        rw [take_map_snoc hy, pop_snoc, hn]
      refine s_when (b := y.2.item == i && decide (y.2.time ≤ t)) (et_and (et_test (ev_op (ev_item T Sy (ev_var rfl)) (ev_var rfl) rv_eqN)) fun _ => et_test (ev_op (ev_time T Sy (ev_var rfl)) (ev_var rfl) rv_leN)) (fun hb H3 e3 => ?_) fun hb H3 e3 => ?_
      · rw [Bool.and_eq_true] at hb
        obtain ⟨b1, b2⟩ := hb
        have b2 := of_decide_eq_true b2
        have S3 := S2.ex e3
        have Sy3 := Sy.ex e3
        refine q_asg (v := nV ((t - y.2.time) / hl)) (ev_op (ev_op (ev_var rfl) (ev_time T Sy3 (ev_var rfl)) (rv_subN b2)) (ev_var rfl) (rv_divN h64 h0 (by decide) (by decide))) fun H4 e4 => ?_
        have S4 := S3.ex e4
        have Sy4 := Sy3.ex e4
        refine s_when (b := decide ((t - y.2.time) / hl ≤ 40)) (et_test (ev_op (ev_var rfl) (ev_n 40) rv_leN)) (fun hb H5 e5 => ?_) fun hb H5 e5 => ?_
        · have hb := of_decide_eq_true hb
          have S5 := S4.ex e5
          have Sy5 := Sy4.ex e5
          have wl := wt_le S.good y.2.kind
          refine s_aug (a := (((((L.evs.take j).map (·.2)).filter fun e => e.item == i).map (Kp427.decayed st t hl)).sum : Nat)) (b := (st.weights.getD y.2.kind 0 * 2 ^ (40 - (t - y.2.time) / hl) : Nat)) rfl
            (ev_op (ev_ixM (r := nV) (ev_weights T S5 (ev_var rfl)) (ev_kind T Sy5 (ev_var rfl)) (sq_of S5.wt) (wt_get S.good (S.good.ekind _ (S.mem my)))) (ev_op (ev_n 40) (ev_var rfl) (rv_subN hb)) (rv_shlN (by omega) (Nat.le_trans (Nat.sub_le 40 _) (by decide)))) fun H6 e6 => ⟨some (.ref y.1), some (nV ((t - y.2.time) / hl)), ?_, (((e.trans e3).trans e4).trans e5).trans e6⟩
          rw [nx (st.weights.getD y.2.kind 0 * 2 ^ (40 - (t - y.2.time) / hl)) ?_]
          · rfl
          · rw [if_pos b1]
            unfold Kp427.decayed Kp427.halvings Kp427.maxHalvings
            rw [if_neg (by omega)]
        · have hb := of_decide_eq_false hb
          refine ⟨some (.ref y.1), some (nV ((t - y.2.time) / hl)), ?_, ((e.trans e3).trans e4).trans e5⟩
          rw [nx 0 ?_]
          · rfl
          · rw [if_pos b1]
            unfold Kp427.decayed Kp427.halvings Kp427.maxHalvings
            rw [if_pos (by omega)]
      · refine ⟨some (.ref y.1), u, ?_, e.trans e3⟩
        rw [nx 0 ?_]
        · rfl
        · split
          · rename_i b1
            rw [b1, Bool.true_and] at hb
            have hb := of_decide_eq_false hb
            unfold Kp427.decayed Kp427.halvings Kp427.maxHalvings
            rw [if_pos (by omega)]
          · rfl
    · rintro σ' H' ⟨v, u, rfl, e⟩
      rw [List.take_length, ← S.eve]
      exact s_ret (ev_var rfl) fun H2 e2 => k H2 (e.trans e2)
theorem ev_scaledPop {σ : L2.St} {H : Hp} {E : XK} {ta : TA} {a : Addr} {L : Lay} {s : Kp427.Store} {i t h : Nat} (S : StL c H a L s) (h0 : 0 < h) (h64 : h < 2 ^ 64) (hv : EvA ta σ H [.ref a, nV i, nV t, nV h]) :
    Ev (tCall (rdV (p_scaled_popularity c)) [] E ta) σ H (nV (Kp427.popularity s t h i)) := ev_callD hv fun H1 e => ⟨a, L, s, i, t, h, rfl, S.ex e, h0, h64, rfl⟩
abbrev s_popularity : Stmt := top 75
abbrev n_popularity : List Str := ["store", "item", "time", "half_life"]
theorem sc_popularity : FnScope n_popularity ["store", "item", "time", "half_life"] (defScope s_popularity) := ⟨rfl, rfl, rfl, by decide +kernel, rfl, by decide +kernel, by decide +kernel⟩
def p_popularity (c : Adr) (vs : List V) (H : Hp) (xs : List V) : Prop := ∃ i t h, h < 2 ^ 64 ∧ p_ask c [nV i, nV t, nV h] (.popularity i t h) vs H xs
theorem d_popularity (T : Txt K mg c) (D_item_exists : DefAt P w K mg base 1 "item_exists" ["store", "item"] (rdV (p_item_exists c))) (D_not_found : DefAt P w K mg base 1 "not_found" [] (rdL (p_code 2)))
    (D_time_and_span_fit : DefAt P w K mg base 1 "time_and_span_fit" ["time", "span"] (rdV p_time_and_span_fit)) (D_outside_limits : DefAt P w K mg base 1 "outside_limits" [] (rdL (p_code 22)))
    (D_lowest_terms : DefAt P w K mg base 1 "lowest_terms" ["top", "bottom"] (rdL p_lowest_terms)) (D_scaled_popularity : DefAt P w K mg base 1 "scaled_popularity" ["store", "item", "time", "half_life"] (rdV (p_scaled_popularity c)))
    (D0 : Def0 K mg "popularity" s_popularity ["store", "item", "time", "half_life"]) : DefAt P w K mg base 2 "popularity" ["store", "item", "time", "half_life"] (rdL (p_popularity c)) := by
  refine DefAt.of D0 sc_popularity (fun vs H Q E h => ?_) (fun f cdv A outer s H vs Q E hr h => ?_)
  · obtain ⟨xs, ⟨i, t, h, _, a, L, s, rfl, _⟩, _⟩ := h
    rfl
  · obtain ⟨xs, ⟨i, t, hl, h64, a, L, st, rfl, SL, rfl⟩, k⟩ := h
    have S := SL.toStE
    refine ⟨_, (pss_cons (ps_if (pt_not (pt_val (pcD D_item_exists hr (pa_cons (pv 0) (pa_cons (pv 1) pa_nil))))) (pss_one (ps_ret (pcD0 D_not_found hr))) pss_nil) (pss_cons (ps_if (pt_not (pt_val (pcD D_time_and_span_fit hr (pa_cons (pv 2) (pa_cons (pv 3) pa_nil))))) (pss_one (ps_ret (pcD0 D_outside_limits hr))) pss_nil) (pss_one (ps_ret (pe_op op_cat (pe_lst (pa_cons pe_int pa_nil)) (pcD D_lowest_terms hr (pa_cons (pcD D_scaled_popularity hr (pa_cons (pv 0) (pa_cons (pv 1) (pa_cons (pv 2) (pa_cons (pv 3) pa_nil))))) (pa_cons (pe_op op_shl pe_int (gI T.kMAX_HALVINGS)) pa_nil)))))))), ?_⟩
    have es : (Kp427.step (some st) (.popularity i t hl)).2 = if Kp427.hasItem st i = false then Kp427.single (-2) else if (Kp427.validTime t && decide (1 ≤ hl)) = false then Kp427.single (-22) else ⟨0, [(Kp427.reduce (Kp427.popularity st t hl i : Nat) (2 ^ 40)).1, ((Kp427.reduce (Kp427.popularity st t hl i : Nat) (2 ^ 40)).2 : Int)]⟩ := rfl
    rw [es] at k
    refine q_when (b := !Kp427.hasItem st i) (et_not (et_B (ev_hasItem S (ea_cons (ev_var rfl) (ea_cons (ev_var rfl) ea_nil))))) (fun hb H1 e1 => ?_) fun hb H1 e1 => ?_
    · rw [Bool.not_eq_true'] at hb
      rw [if_pos hb] at k
      exact s_retL (el_code 2) fun p H2 hp e2 h2 => k p H2 (fresh_back e1 hp) (e1.trans e2) h2
    rw [Bool.not_eq_false'] at hb
    rw [if_neg (by rw [hb]; decide)] at k
    refine q_when (b := !(Kp427.validTime t && decide (1 ≤ hl))) (et_not (et_B (ev_callD (ea_cons (ev_var rfl) (ea_cons (ev_var rfl) ea_nil)) fun H2 e2 => ⟨t, hl, rfl, rfl⟩))) (fun hb2 H2 e2 => ?_) fun hb2 H2 e2 => ?_
    · rw [Bool.not_eq_true'] at hb2
      rw [if_pos hb2] at k
      exact s_retL (el_code 22) fun p H3 hp e3 h3 => k p H3 (fresh_back (e1.trans e2) hp) ((e1.trans e2).trans e3) h3
    rw [Bool.not_eq_false'] at hb2
    rw [if_neg (by rw [hb2]; decide), red_nat _ _ (by decide)] at k
    rw [Bool.and_eq_true] at hb2
    have h1 : 0 < hl := of_decide_eq_true hb2.2
    have pl := pop_le S.good i t hl
    have e12 := e1.trans e2
    refine s_retL (el_cat2 (ys := [Kp427.popularity st t hl i / Nat.gcd (Kp427.popularity st t hl i) (2 ^ 40), 2 ^ 40 / Nat.gcd (Kp427.popularity st t hl i) (2 ^ 40)].map nV) (el_lst (ea_cons (ev_n 0) ea_nil) (by show 1 ≤ 100000; decide))
      (el_callD (vs := [nV (Kp427.popularity st t hl i), nV (1 * 2 ^ 40)]) (ea_cons (ev_scaledPop (SL.ex e12) h1 h64 (ea_cons (ev_var rfl) (ea_cons (ev_var rfl) (ea_cons (ev_var rfl) (ea_cons (ev_var rfl) ea_nil))))) (ea_cons (ev_op (ev_n 1) (ev_n 40) (rv_shlN (by decide) (by decide))) ea_nil)) fun H3 e3 => ⟨_, _, rfl, by decide, by omega, by decide, ?_⟩) (by show 1 + 2 ≤ 100000; decide)) fun p H3 hp e3 h3 => k p H3 (fresh_back e12 hp) (e12.trans e3) h3
    rw [Nat.one_mul]
end
end Shelf
end

section
set_option maxHeartbeats 4000000
namespace Shelf
open PySem PySem.Spec PyProof.Rows L2 Evl
/-! ### mathematics -/
theorem cs_step (x : Nat) : ∀ l : List Nat, 2 * x * l.sum ≤ (l.map fun y => y * y).sum + l.length * (x * x)
  | [] => Nat.zero_le _
  | y :: l => by
    have ih := cs_step x l
    have h : 2 * x * y ≤ y * y + x * x := by
      rcases Nat.le_total x y with h | h
      · obtain ⟨d, rfl⟩ := Nat.exists_eq_add_of_le h
        have e : (x + d) * (x + d) + x * x = 2 * x * (x + d) + d * d := by
          simp only [Nat.add_mul, Nat.mul_add, Nat.two_mul]
          have := Nat.mul_comm x d
          omega
        omega
      · obtain ⟨d, rfl⟩ := Nat.exists_eq_add_of_le h
        have e : y * y + (y + d) * (y + d) = 2 * (y + d) * y + d * d := by
          simp only [Nat.add_mul, Nat.mul_add, Nat.two_mul]
          have := Nat.mul_comm y d
          omega
        omega
    rw [List.map_cons, List.sum_cons, List.sum_cons, List.length_cons, Nat.mul_add, Nat.add_mul]
    omega
theorem cs_le : ∀ l : List Nat, l.sum * l.sum ≤ l.length * (l.map fun y => y * y).sum
  | [] => Nat.zero_le _
  | x :: l => by
    have ih := cs_le l
    have h := cs_step x l
    rw [List.map_cons, List.sum_cons, List.sum_cons, List.length_cons]
    simp only [Nat.add_mul, Nat.mul_add, Nat.one_mul, Nat.two_mul] at h ⊢
    have := Nat.mul_comm x l.sum
    omega
theorem sum_cast : ∀ l : List Nat, (l.map fun i : Nat => (i : Int)).sum = ((l.sum : Nat) : Int)
  | [] => rfl
  | x :: l => by
    rw [List.map_cons, List.sum_cons, List.sum_cons, sum_cast l, Int.natCast_add]
theorem fm_filter {α : Type} (g : α → Option Nat) : ∀ l : List α, l.filterMap g = (l.filter fun x => (g x).isSome).map fun x => (g x).getD 0
  | [] => rfl
  | x :: l => by
    rw [List.filterMap_cons, List.filter_cons]
    cases h : g x with
    | none =>
      rw [fm_filter g l]
      rfl
    | some v =>
      rw [fm_filter g l]
      show v :: _ = List.map _ (x :: _)
      rw [List.map_cons, h]
      rfl
theorem putK_tab {κ α : Type} [DecidableEq κ] [DecidableEq α] (key : α → κ) (inj : ∀ a b, key a = key b → a = b) (D : List α) (f : α → V) (x : α) (v : V) :
    putK (D.map fun a => (key a, f a)) (key x) v = (if x ∈ D then D else D ++ [x]).map fun a => (key a, if a = x then v else f a) := by
  unfold putK
  have e : ((D.map fun a => (key a, f a)).any fun kv => decide (kv.1 = key x)) = decide (x ∈ D) := by
    rw [List.any_map, Bool.eq_iff_iff, List.any_eq_true, decide_eq_true_iff]
    constructor
    · rintro ⟨a, ha, h⟩
      rw [← inj a x (of_decide_eq_true h)]
      exact ha
    · intro h
      exact ⟨x, h, decide_eq_true rfl⟩
  rw [e]
  by_cases h : x ∈ D
  · rw [if_pos (decide_eq_true h), if_pos h, List.map_map]
    refine List.map_congr_left fun a ha => ?_
    by_cases h2 : a = x
    · subst h2
      simp
    · have : ¬ key a = key x := fun z => h2 (inj a x z)
      simp [this, h2]
  · rw [if_neg (by rw [decide_eq_false h]; exact Bool.false_ne_true), if_neg h, List.map_append]
    congr 1
    · refine List.map_congr_left fun a ha => ?_
      have : ¬ a = x := fun z => h (z ▸ ha)
      rw [if_neg this]
    · simp
theorem valV_tab {κ α : Type} [DecidableEq κ] [DecidableEq α] (key : α → κ) (inj : ∀ a b, key a = key b → a = b) (f : α → V) (x : α) : ∀ D : List α, valV (D.map fun a => (key a, f a)) (key x) = if x ∈ D then some (f x) else none
  | [] => rfl
  | a :: D => by
    rw [List.map_cons]
    by_cases h : a = x
    · subst h
      rw [valV_pos rfl, if_pos List.mem_cons_self]
    · have : ¬ key a = key x := fun z => h (inj a x z)
      rw [valV_neg this, valV_tab key inj f x D]
      have : x ∈ a :: D ↔ x ∈ D := by
        rw [List.mem_cons]
        exact ⟨fun z => z.elim (fun z => absurd z.symm h) id, Or.inr⟩
      by_cases h2 : x ∈ D
      · rw [if_pos h2, if_pos (this.mpr h2)]
      · rw [if_neg h2, if_neg fun z => h2 (this.mp z)]
theorem keyN_inj (a b : Nat) (h : (keyN a : Key) = keyN b) : a = b := Int.ofNat.inj (Sum.inl.inj h)
/-- the latest rating of a member -/
def lastR (i : Nat) (es : List Kp427.Event) (m : Nat) : Option Nat := ((es.filter fun e => e.member == m && e.item == i && e.kind == 3).getLast?).map Kp427.Event.value
theorem lastR_snoc (i m : Nat) (es : List Kp427.Event) (e : Kp427.Event) : lastR i (es ++ [e]) m = if e.member = m ∧ (e.item == i && e.kind == 3) = true then some e.value else lastR i es m := by
  unfold lastR
  rw [List.filter_append, List.filter_cons]
  by_cases h : e.member = m ∧ (e.item == i && e.kind == 3) = true
  · rw [if_pos h, if_pos (by rw [Bool.and_assoc, h.2, h.1]; simp), List.filter_nil, List.getLast?_append]
    rfl
  · rw [if_neg h, if_neg, List.filter_nil, List.append_nil]
    intro z
    rw [Bool.and_assoc, Bool.and_eq_true] at z
    exact h ⟨by simpa using z.1, z.2⟩
theorem lastR_mem {i m : Nat} {es : List Kp427.Event} (h : (lastR i es m).isSome = true) : ∃ e ∈ es, e.member = m := by
  unfold lastR at h
  rw [Option.isSome_map] at h
  obtain ⟨e, he⟩ := Option.isSome_iff_exists.mp h
  have := List.mem_filter.mp (List.mem_of_getLast? he)
  refine ⟨e, this.1, ?_⟩
  have h2 := this.2
  simp only [Bool.and_eq_true, beq_iff_eq] at h2
  exact h2.1.1
theorem lastR_le {i m v : Nat} {es : List Kp427.Event} (B : ∀ e ∈ es, e.value ≤ 10) (h : lastR i es m = some v) : v ≤ 10 := by
  unfold lastR at h
  obtain ⟨e, he, rfl⟩ := Option.map_eq_some_iff.mp h
  exact B e (List.mem_filter.mp (List.mem_of_getLast? he)).1
theorem latest_is (s : Kp427.Store) (i : Nat) : Kp427.latestRatings s i = ((s.members.map Kp427.Member.id).filter fun m => (lastR i s.events m).isSome).map fun m => (lastR i s.events m).getD 0 := by
  rw [← fm_filter, List.filterMap_map]
  rfl
theorem latest_perm {s : Kp427.Store} (g : Good s) {i : Nat} {D : List Nat} (nd : D.Nodup) (h : ∀ m, m ∈ D ↔ (lastR i s.events m).isSome = true) : (D.map fun m => (lastR i s.events m).getD 0).Perm (Kp427.latestRatings s i) := by
  rw [latest_is]
  refine List.Perm.map _ ((List.perm_ext_iff_of_nodup nd (g.mnd.filter _)).mpr fun m => ?_)
  rw [h m, List.mem_filter]
  refine ⟨fun z => ⟨?_, z⟩, fun z => z.2⟩
  obtain ⟨e, he, rfl⟩ := lastR_mem z
  exact g.emem e he
section
variable {K : PySem.W.Frag} {σ : L2.St} {H : Hp} {ta : TA} {D : Ends} {tz : TS} {i : Nat}
theorem q_asgSp {sp : Sp} {E : XK} {vs : List V} (h : EvA ta σ H vs) (k : ∀ H1, Ex H H1 → sp vs H1 (fun v H2 => tz D (σ.set i (some v)) H2) E) : tSeq (tAsg (tCall sp [] E ta) (gName i)) tz D σ H := h H (Ex.refl H) _ fun H1 e => by
  show sp (vs ++ []) H1 _ E
  rw [List.append_nil]
  exact k H1 e
theorem q_dnewK (k : ∀ p H1, H p = none → Ex H H1 → H1 p = some (.dK []) → tz D (σ.set i (some (.ref p))) H1) : tSeq (tAsg tDNewK (gName i)) tz D σ H := fun p hp => k p _ hp (Ex.new hp) upd_same
theorem q_dnewT (k : ∀ p H1, H p = none → Ex H H1 → H1 p = some (.dT []) → tz D (σ.set i (some (.ref p))) H1) : tSeq (tAsg tDNewT (gName i)) tz D σ H := fun p hp => k p _ hp (Ex.new hp) upd_same
end
section
variable {P : Program} {w : World} {K : PySem.W.Frag} {mg : Str → Option Value} {base : Heap} {c : Adr}
abbrev s_last_ratings : Stmt := top 72
abbrev n_last_ratings : List Str := ["store", "item", "value_by_member", "event"]
theorem sc_last_ratings : FnScope n_last_ratings ["store", "item"] (defScope s_last_ratings) := ⟨rfl, rfl, rfl, by decide +kernel, rfl, by decide +kernel, by decide +kernel⟩
def sp_last_ratings (c : Adr) : Sp := fun vs H Q _ => ∃ a L s i, vs = [.ref a, nV i] ∧ StL c H a L s ∧ ∀ (ns : List Nat) p H', ns.Perm (Kp427.latestRatings s i) → H p = none → Ex H H' → H' p = some (.lst (ns.map nV)) → Q (.ref p) H'
theorem d_last_ratings (T : Txt K mg c) (D0 : Def0 K mg "last_ratings" s_last_ratings ["store", "item"]) : DefAt P w K mg base 1 "last_ratings" ["store", "item"] (sp_last_ratings c) := by
  refine DefAt.of D0 sc_last_ratings (fun vs H Q E h => ?_) (fun f cdv A outer s H vs Q E hr h => ?_)
  · obtain ⟨a, L, s, i, rfl, _⟩ := h
    rfl
  · obtain ⟨a, L, st, i, rfl, SL, k⟩ := h
    have hu := hu_of hr
    refine ⟨_, (pss_cons (ps_set (i := 2) sc_last_ratings.nd rfl (Or.inl rfl) pe_dnewK) (pss_cons (ps_for PassesOwn.never rfl (piK (K := K) (fK (K := K) (pv 0))) (pg_name (i := 3) sc_last_ratings.nd rfl (Or.inl rfl)) (pss_one (ps_if (PW.pt (pw_and (pt_cmpR op_eq (fK (K := K) (pv 3)) (pv 1) (nomark _)) (pw_and1 (pt_cmpR op_eq (fK (K := K) (pv 3)) (gI T.kRATING) (nomark _))))) (pss_one (ps_dput hu (pv 2) (fK (K := K) (pv 3)) (fK (K := K) (pv 3)) rfl)) pss_nil))) (pss_one (ps_ret (pe_listVals rfl (pv 2) rfl T.b_list (by decide +kernel)))))), ?_⟩
    have S := SL.toStE
    refine q_dnewK fun t H1 ht e1 h1 => ?_
    have S1 := S.ex e1
    refine q_forM (ys := L.evs) (r := fun e => V.ref e.1) (ev_events T S1 (ev_var rfl)) (sq_of S1.ev) (fun j σ' H' => ∃ v, σ' = [some (.ref a), some (nV i), some (.ref t), v] ∧ Ex H H' ∧ ∃ D : List Nat, D.Nodup ∧ D.length ≤ j ∧ (∀ m, m ∈ D ↔ (lastR i ((L.evs.take j).map (·.2)) m).isSome = true) ∧ H' t = some (.dK (D.map fun m => (keyN m, nV ((lastR i ((L.evs.take j).map (·.2)) m).getD 0)))))
      (fun H2 e2 => ⟨none, rfl, e1.trans e2, [], List.nodup_nil, Nat.le_refl 0, fun m => by rw [List.take_zero]; exact ⟨fun z => (by cases z), fun z => (by cases z)⟩, e2 _ _ h1⟩) (fun j σ' H' ⟨v, _, e, _⟩ => sq_of (S.ex e).ev) ?_ ?_
    · rintro j y σ' H' hy ⟨v, rfl, e, D, nd, dl, hD, h2⟩
      have my := List.mem_of_getElem? hy
      have hj := (List.getElem?_eq_some_iff.mp hy).1
      have l200 := S.elen200
      have Sy := (S.evs y my).ex e
      refine s_when (b := y.2.item == i && y.2.kind == 3) (et_and (et_test (ev_op (ev_item T Sy (ev_var rfl)) (ev_var rfl) rv_eqN)) fun _ => et_test (ev_op (ev_kind T Sy (ev_var rfl)) (ev_n 3) rv_eqN)) (fun hb H3 e3 => ?_) fun hb H3 e3 => ?_
      · refine s_dput (k := keyN y.2.member) (v := nV y.2.value) (ev_value T (Sy.ex e3) (ev_var rfl)) (ev_var rfl) (ev_member T (Sy.ex e3) (ev_var rfl)) (e3 _ _ h2) (by rw [List.length_map]; omega) fun H4 e4 => ⟨_, rfl, ((e.trans e3).trans e4).mut ht, if y.2.member ∈ D then D else D ++ [y.2.member], ?_, ?_, ?_, ?_⟩
        · split
          · exact nd
          · rename_i hn
            rw [List.nodup_append]
            exact ⟨nd, List.nodup_cons.mpr ⟨List.not_mem_nil, List.nodup_nil⟩, fun a ha b hb z => hn (by rw [List.mem_singleton] at hb; rw [← hb, ← z]; exact ha)⟩
        · split
          · omega
          · rw [List.length_append]
            show D.length + 1 ≤ j + 1
            omega
        · intro m
          have nx := lastR_snoc i m ((L.evs.take j).map (·.2)) y.2
          rw [← take_map_snoc hy] at nx
          by_cases hm : y.2.member = m
          · rw [if_pos ⟨hm, hb⟩] at nx
            rw [nx]
            subst hm
            refine ⟨fun _ => rfl, fun _ => ?_⟩
            split
            · assumption
            · exact List.mem_append.mpr (Or.inr (List.mem_singleton.mpr rfl))
          · rw [if_neg fun z => hm z.1] at nx
            rw [nx, ← hD m]
            split
            · rfl
            · rw [List.mem_append, List.mem_singleton]
              exact ⟨fun z => z.elim id fun z => absurd z.symm hm, Or.inl⟩
        · rw [upd_same, putK_tab keyN keyN_inj]
          refine congrArg (fun l => some (HO.dK l)) (List.map_congr_left fun m _ => ?_)
          have nx := lastR_snoc i m ((L.evs.take j).map (·.2)) y.2
          rw [← take_map_snoc hy] at nx
          rw [nx]
          by_cases hm : m = y.2.member
          · rw [if_pos hm, if_pos ⟨hm.symm, hb⟩]
            rfl
          · rw [if_neg hm, if_neg fun z => hm z.1.symm]
      · have eq : ∀ m, lastR i ((L.evs.take (j + 1)).map (·.2)) m = lastR i ((L.evs.take j).map (·.2)) m := fun m => by
          rw [take_map_snoc hy, lastR_snoc, if_neg fun z => by rw [hb] at z; cases z.2]
        refine ⟨_, rfl, e.trans e3, D, nd, by omega, fun m => by rw [eq]; exact hD m, ?_⟩
        simp only [eq]
        exact e3 _ _ h2
    · rintro σ' H' ⟨v, rfl, e, D, nd, dl, hD, h2⟩
      rw [List.take_length, ← S.eve] at hD h2
      have p := latest_perm S.good nd hD
      refine s_retL (el_valsK (ev_var rfl) h2) fun q H3 hq e3 h3 => k _ q H3 p (fresh_back e hq) (e.trans e3) ?_
      rw [h3, List.map_map, List.map_map]
      rfl
abbrev s_ratings : Stmt := top 73
abbrev n_ratings : List Str := ["store", "item", "given", "count", "total", "squares", "mean", "variance", "value"]
theorem sc_ratings : FnScope n_ratings ["store", "item"] (defScope s_ratings) := ⟨rfl, rfl, rfl, by decide +kernel, rfl, by decide +kernel, by decide +kernel⟩
def p_ratings (c : Adr) (vs : List V) (H : Hp) (xs : List V) : Prop := ∃ i, p_ask c [nV i] (.ratings i) vs H xs
theorem d_ratings (T : Txt K mg c) (D_item_exists : DefAt P w K mg base 1 "item_exists" ["store", "item"] (rdV (p_item_exists c))) (D_not_found : DefAt P w K mg base 1 "not_found" [] (rdL (p_code 2)))
    (D_not_possible : DefAt P w K mg base 1 "not_possible" [] (rdL (p_code 33))) (D_lowest_terms : DefAt P w K mg base 1 "lowest_terms" ["top", "bottom"] (rdL p_lowest_terms)) (D_last_ratings : DefAt P w K mg base 1 "last_ratings" ["store", "item"] (sp_last_ratings c))
    (D0 : Def0 K mg "ratings" s_ratings ["store", "item"]) : DefAt P w K mg base 2 "ratings" ["store", "item"] (rdL (p_ratings c)) := by
  refine DefAt.of D0 sc_ratings (fun vs H Q E h => ?_) (fun f cdv A outer s H vs Q E hr h => ?_)
  · obtain ⟨xs, ⟨i, a, L, s, rfl, _⟩, _⟩ := h
    rfl
  · obtain ⟨xs, ⟨i, a, L, st, rfl, SL, rfl⟩, k⟩ := h
    have S := SL.toStE
    refine ⟨_, (pss_cons (ps_if (pt_not (pt_val (pcD D_item_exists hr (pa_cons (pv 0) (pa_cons (pv 1) pa_nil))))) (pss_one (ps_ret (pcD0 D_not_found hr))) pss_nil) (pss_cons (ps_set (i := 2) sc_ratings.nd rfl (Or.inl rfl) (pcD D_last_ratings hr (pa_cons (pv 0) (pa_cons (pv 1) pa_nil)))) (pss_cons (ps_if (pt_cmpR op_eq (pe_callB call_len_seq (by rfl) T.b_len PySem.boot_len (pa_cons (pv 2) pa_nil)) pe_int (nomark _)) (pss_one (ps_ret (pcD0 D_not_possible hr))) pss_nil) (pss_cons (ps_set (i := 3) sc_ratings.nd rfl (Or.inl rfl) (pe_callB call_len_seq (by rfl) T.b_len PySem.boot_len (pa_cons (pv 2) pa_nil))) (pss_cons (ps_set (i := 4) sc_ratings.nd rfl (Or.inl rfl) (pe_callB (cr_sum rfl) (by rfl) T.b_sum (by decide +kernel) (pa_cons (pv 2) pa_nil))) (pss_cons (ps_set (i := 5) sc_ratings.nd rfl (Or.inl rfl) (pe_callB (cr_sum rfl) (by rfl) T.b_sum (by decide +kernel) (pa_cons (pe_lc (own := [("value", 8)]) (g := gName 8) (tt := tYes) rfl sc_ratings.nd (piK (K := K) (pv 2)) (blkOk_by (own := [("value", 8)]) (N := n_ratings) (sc := defScope s_ratings) (by decide +kernel)) (fun _ _ _ _ _ => pg_name (i := 8) sc_ratings.nd rfl (Or.inl rfl)) (fun _ _ _ _ _ => pts_nil) (fun _ _ _ _ _ => (pe_op op_mulW (pv 8) (pv 8)))) pa_nil))) (pss_cons (ps_set (i := 6) sc_ratings.nd rfl (Or.inl rfl) (pcD D_lowest_terms hr (pa_cons (pv 4) (pa_cons (pv 3) pa_nil)))) (pss_cons (ps_set (i := 7) sc_ratings.nd rfl (Or.inl rfl) (pcD D_lowest_terms hr (pa_cons (pe_op op_sub (pe_op op_mulW (pv 3) (pv 5)) (pe_op op_mulW (pv 4) (pv 4))) (pa_cons (pe_op op_mulW (pv 3) (pv 3)) pa_nil)))) (pss_one (ps_ret (pe_op op_cat (pe_op op_cat (pe_lst (pa_cons (pv 3) pa_nil)) (pv 6)) (pv 7)))))))))))), ?_⟩
    have es : (Kp427.step (some st) (.ratings i)).2 = if Kp427.hasItem st i = false then Kp427.single (-2) else if (Kp427.latestRatings st i).isEmpty then Kp427.single (-33) else
      ⟨((Kp427.latestRatings st i).length : Int), [(Kp427.mean (Kp427.latestRatings st i)).1, ((Kp427.mean (Kp427.latestRatings st i)).2 : Int), (Kp427.variance (Kp427.latestRatings st i)).1, ((Kp427.variance (Kp427.latestRatings st i)).2 : Int)]⟩ := rfl
    rw [es] at k
    refine q_when (b := !Kp427.hasItem st i) (et_not (et_B (ev_hasItem S (ea_cons (ev_var rfl) (ea_cons (ev_var rfl) ea_nil))))) (fun hb H1 e1 => ?_) fun hb H1 e1 => ?_
    · rw [Bool.not_eq_true'] at hb
      rw [if_pos hb] at k
      exact s_retL (el_code 2) fun p H2 hp e2 h2 => k p H2 (fresh_back e1 hp) (e1.trans e2) h2
    rw [Bool.not_eq_false'] at hb
    rw [if_neg (by rw [hb]; decide)] at k
    refine q_asgSp (ea_cons (ev_var rfl) (ea_cons (ev_var rfl) ea_nil)) fun H2 e2 => ⟨a, L, st, i, rfl, SL.ex (e1.trans e2), fun ns g H3 pm hg e3 h3 => ?_⟩
    have e13 := (e1.trans e2).trans e3
    have nl := pm.length_eq
    have ll : ns.length ≤ 40 := by
      rw [nl, latest_is, List.length_map]
      refine Nat.le_trans (List.length_filter_le _ _) ?_
      rw [List.length_map]
      exact S.good.mlen
    have lv : ∀ x ∈ ns, x ≤ 10 := fun x hx => by
      have hx := pm.mem_iff.mp hx
      rw [latest_is] at hx
      obtain ⟨m, hm, rfl⟩ := List.mem_map.mp hx
      have hm2 := (List.mem_filter.mp hm).2
      obtain ⟨v, hv⟩ := Option.isSome_iff_exists.mp hm2
      rw [hv]
      exact lastR_le S.good.eval hv
    have sl : ns.sum ≤ 400 := by
      have := sum_le id 10 ns lv
      rw [List.map_id] at this
      omega
    have ql : (ns.map fun y => y * y).sum ≤ 4000 := by
      have := sum_le (fun y => y * y) 100 ns fun x hx => by
        have := lv x hx
        exact Nat.mul_le_mul this this
      omega
    refine q_when (b := ns.length == 0) (et_test (ev_op (ev_lenM (ev_var rfl) (sq_of h3)) (ev_n 0) rv_eqN)) (fun hb2 H4 e4 => ?_) fun hb2 H4 e4 => ?_
    · have h0 : ns.length = 0 := by simpa using hb2
      rw [if_pos (by rw [List.isEmpty_iff_length_eq_zero]; omega)] at k
      exact s_retL (el_code 33) fun p H5 hp e5 h5 => k p H5 (fresh_back (e13.trans e4) hp) ((e13.trans e4).trans e5) h5
    have h0 : 0 < ns.length := by
      have : ns.length ≠ 0 := by simpa using hb2
      omega
    rw [if_neg (by rw [List.isEmpty_iff_length_eq_zero]; omega)] at k
    have cs := cs_le ns
    have em : Kp427.mean (Kp427.latestRatings st i) = (((ns.sum / Nat.gcd ns.sum ns.length : Nat) : Int), ns.length / Nat.gcd ns.sum ns.length) := by
      unfold Kp427.mean
      rw [← pm.sum_nat, ← nl, red_nat _ _ h0]
    have ev : Kp427.variance (Kp427.latestRatings st i) = ((((ns.length * (ns.map fun y => y * y).sum - ns.sum * ns.sum) / Nat.gcd (ns.length * (ns.map fun y => y * y).sum - ns.sum * ns.sum) (ns.length * ns.length) : Nat) : Int), ns.length * ns.length / Nat.gcd (ns.length * (ns.map fun y => y * y).sum - ns.sum * ns.sum) (ns.length * ns.length)) := by
      unfold Kp427.variance
      rw [← pm.sum_nat, ← nl, ← (pm.map fun x => x * x).sum_nat, ← Int.natCast_sub cs, red_nat _ _ (Nat.mul_pos h0 h0)]
    rw [em, ev] at k
    have hb1 : ns.length * (ns.map fun y => y * y).sum ≤ 40 * 4000 := Nat.mul_le_mul ll ql
    have hb3 : ns.length * ns.length ≤ 40 * 40 := Nat.mul_le_mul ll ll
    have big : 1000000 < 2 ^ 800 := by decide
    have h4 := e4 _ _ h3
    refine q_asg (v := nV ns.length) (ev_lenM (ev_var rfl) (sq_of h4)) fun H5 e5 => ?_
    have h5 := e5 _ _ h4
    refine q_asg (v := nV ns.sum) (ev_is (ev_sum (ns := ns.map fun i : Nat => (i : Int)) (ev_var rfl) (by rw [← map_nV]; exact sq_of h5)) (by rw [sum_cast])) fun H6 e6 => ?_
    have h6 := e6 _ _ h5
    refine q_asg (v := nV (ns.map fun y => y * y).sum) (ev_is (ev_sumN (ns := (ns.map fun y => y * y).map fun i : Nat => (i : Int)) (el_is (el_comp (ys := ns) (r := nV) (fun _ => true) (fun v => nV (v * v)) (ev_var rfl) (sq_of h6) (by omega) (fun _ => rfl) (fun y H1 e my => et_yes) fun y H1 e my _ => ev_op (ev_var rfl) (ev_var rfl) (rv_mulN (p := 8) (q := 8) (by have := lv y my; omega) (by have := lv y my; omega) (by decide) (by decide) (by decide))) (by rw [filter_true, ← map_nV, List.map_map]; rfl))) (by rw [sum_cast])) fun H7 e7 => ?_
    have h7 := e7 _ _ h6
    have E7 := (((e13.trans e4).trans e5).trans e6).trans e7
    refine q_asgL (xs := [ns.sum / Nat.gcd ns.sum ns.length, ns.length / Nat.gcd ns.sum ns.length].map nV) (el_callD (ea_cons (ev_var rfl) (ea_cons (ev_var rfl) ea_nil)) fun H8 e8 => ⟨_, _, rfl, h0, by omega, by omega, rfl⟩) fun q H8 hq e8 h8 => ?_
    refine q_asgL (xs := [(ns.length * (ns.map fun y => y * y).sum - ns.sum * ns.sum) / Nat.gcd (ns.length * (ns.map fun y => y * y).sum - ns.sum * ns.sum) (ns.length * ns.length), ns.length * ns.length / Nat.gcd (ns.length * (ns.map fun y => y * y).sum - ns.sum * ns.sum) (ns.length * ns.length)].map nV)
      (el_callD (ea_cons (ev_op (ev_op (ev_var rfl) (ev_var rfl) (rv_mulN (p := 16) (q := 16) (by omega) (by omega) (by decide) (by decide) (by decide))) (ev_op (ev_var rfl) (ev_var rfl) (rv_mulN (p := 16) (q := 16) (by omega) (by omega) (by decide) (by decide) (by decide))) (rv_subN cs)) (ea_cons (ev_op (ev_var rfl) (ev_var rfl) (rv_mulN (p := 16) (q := 16) (by omega) (by omega) (by decide) (by decide) (by decide))) ea_nil)) fun H9 e9 => ⟨_, _, rfl, Nat.mul_pos h0 h0, by omega, by omega, rfl⟩) fun r H9 hr' e9 h9 => ?_
    have E9 := (E7.trans e8).trans e9
    refine s_retL (el_cat (xs := nV ns.length :: [ns.sum / Nat.gcd ns.sum ns.length, ns.length / Nat.gcd ns.sum ns.length].map nV) (el_cat (el_lst (ea_cons (ev_var rfl) ea_nil) (by show 1 ≤ 100000; decide)) (ev_var rfl) (e9 _ _ h8) (by show 1 + 2 ≤ 100000; decide)) (ev_var rfl) h9 (by show 3 + 2 ≤ 100000; decide)) fun p H10 hp e10 h10 => k p H10 (fresh_back E9 hp) (E9.trans e10) ?_
    rw [h10, ← nl]
    rfl
end
end Shelf
end

section
set_option maxHeartbeats 4000000
namespace Shelf
open PySem PySem.Spec PyProof.Rows L2 Evl
/-! ### sessions, event by event -/
def appLast {α : Type} : List (List α) → α → List (List α)
  | [], x => [[x]]
  | [s], x => [s ++ [x]]
  | s :: t :: r, x => s :: appLast (t :: r) x
theorem appLast_snoc {α : Type} (l : List α) (x : α) : ∀ r : List (List α), appLast (r ++ [l]) x = r ++ [l ++ [x]]
  | [] => rfl
  | [s] => rfl
  | s :: t :: r => by
    have := appLast_snoc l x (t :: r)
    show s :: appLast (t :: r ++ [l]) x = _
    rw [this]
    rfl
/-- one event ahead of the sessions of the others -/
def consS (g : Nat) (e : Kp427.Event) : List (List Kp427.Event) → List (List Kp427.Event)
  | [] => [[e]]
  | [] :: more => [e] :: more
  | (f :: s) :: more => if f.time ≤ e.time + g then (e :: f :: s) :: more else [e] :: (f :: s) :: more
theorem sess_cons (g : Nat) (e : Kp427.Event) (r : List Kp427.Event) : Kp427.sessionsFrom g (e :: r) = consS g e (Kp427.sessionsFrom g r) := by
  rw [Kp427.sessionsFrom]
  cases Kp427.sessionsFrom g r with
  | nil => rfl
  | cons s more =>
    cases s with
    | nil => rfl
    | cons f s => rfl
theorem sess_head (g : Nat) (e : Kp427.Event) (r : List Kp427.Event) : ∃ s more, Kp427.sessionsFrom g (e :: r) = (e :: s) :: more := by
  rw [sess_cons]
  cases Kp427.sessionsFrom g r with
  | nil => exact ⟨_, _, rfl⟩
  | cons s more =>
    cases s with
    | nil => exact ⟨_, _, rfl⟩
    | cons f s =>
      show ∃ s' more', (if f.time ≤ e.time + g then (e :: f :: s) :: more else [e] :: (f :: s) :: more) = (e :: s') :: more'
      split
      · exact ⟨_, _, rfl⟩
      · exact ⟨_, _, rfl⟩
theorem sess_snoc (g : Nat) (e x : Kp427.Event) : ∀ l : List Kp427.Event, l.getLast? = some x → Kp427.sessionsFrom g (l ++ [e]) = if e.time ≤ x.time + g then appLast (Kp427.sessionsFrom g l) e else Kp427.sessionsFrom g l ++ [[e]]
  | [], h => by cases h
  | [y], h => by
    cases h
    show (if e.time ≤ y.time + g then [[y, e]] else [[y], [e]]) = if e.time ≤ y.time + g then [[y, e]] else [[y], [e]]
    rfl
  | a :: b :: r, h => by
    have ih := sess_snoc g e x (b :: r) (by rw [List.getLast?_cons_cons] at h; exact h)
    obtain ⟨s, more, hs⟩ := sess_head g b r
    show Kp427.sessionsFrom g (a :: (b :: r ++ [e])) = _
    rw [sess_cons, ih, sess_cons g a (b :: r), hs]
    by_cases h1 : e.time ≤ x.time + g
    · rw [if_pos h1, if_pos h1]
      cases more with
      | nil =>
        show (if b.time ≤ a.time + g then [a :: b :: (s ++ [e])] else [[a], b :: (s ++ [e])]) = appLast (if b.time ≤ a.time + g then [a :: b :: s] else [[a], b :: s]) e
        split <;> rfl
      | cons t q =>
        show (if b.time ≤ a.time + g then (a :: b :: s) :: appLast (t :: q) e else [a] :: (b :: s) :: appLast (t :: q) e) = appLast (if b.time ≤ a.time + g then (a :: b :: s) :: t :: q else [a] :: (b :: s) :: t :: q) e
        split <;> rfl
    · rw [if_neg h1, if_neg h1]
      show (if b.time ≤ a.time + g then (a :: b :: s) :: (more ++ [[e]]) else [a] :: (b :: s) :: (more ++ [[e]])) = (if b.time ≤ a.time + g then (a :: b :: s) :: more else [a] :: (b :: s) :: more) ++ [[e]]
      split <;> rfl
theorem sess_len_le (g : Nat) : ∀ l : List Kp427.Event, (Kp427.sessionsFrom g l).length ≤ l.length
  | [] => Nat.le_refl 0
  | e :: r => by
    have ih := sess_len_le g r
    rw [sess_cons, List.length_cons]
    cases h : Kp427.sessionsFrom g r with
    | nil => exact Nat.succ_le_succ (Nat.zero_le _)
    | cons s more =>
      rw [h, List.length_cons] at ih
      cases s with
      | nil =>
        show more.length + 1 ≤ _
        omega
      | cons f s =>
        show (if f.time ≤ e.time + g then (e :: f :: s) :: more else [e] :: (f :: s) :: more).length ≤ _
        split
        · rw [List.length_cons]
          omega
        · rw [List.length_cons, List.length_cons]
          omega
theorem sess_ne (g : Nat) : ∀ l : List Kp427.Event, ∀ x ∈ Kp427.sessionsFrom g l, x ≠ []
  | [], x, h => by cases h
  | e :: r, x, h => by
    have ih := sess_ne g r
    rw [sess_cons] at h
    cases hs : Kp427.sessionsFrom g r with
    | nil =>
      rw [hs] at h
      rw [List.mem_singleton.mp h]
      intro z
      cases z
    | cons s more =>
      rw [hs] at h ih
      have hm : ∀ y ∈ more, y ≠ [] := fun y hy => ih y (List.mem_cons_of_mem _ hy)
      cases s with
      | nil => exact absurd rfl (ih [] List.mem_cons_self)
      | cons f s =>
        have h : x ∈ (if f.time ≤ e.time + g then (e :: f :: s) :: more else [e] :: (f :: s) :: more) := h
        split at h
        · rcases List.mem_cons.mp h with z | z
          · rw [z]
            intro z
            cases z
          · exact hm x z
        · rcases List.mem_cons.mp h with z | z
          · rw [z]
            intro z
            cases z
          · rcases List.mem_cons.mp z with z | z
            · rw [z]
              intro z
              cases z
            · exact hm x z
theorem sess_next (g : Nat) (l : List Kp427.Event) (i : Nat) (hi : i < l.length) : Kp427.sessionsFrom g (l.take (i + 1)) = if i = 0 ∨ (l[i - 1]'(by omega)).time + g < l[i].time then Kp427.sessionsFrom g (l.take i) ++ [[l[i]]] else appLast (Kp427.sessionsFrom g (l.take i)) l[i] := by
  rw [take_succ_get (List.getElem?_eq_getElem hi)]
  by_cases h0 : i = 0
  · subst h0
    rw [if_pos (Or.inl rfl)]
    rfl
  · have hl : (l.take i).getLast? = some (l[i - 1]'(by omega)) := by
      rw [List.getLast?_eq_getElem?, List.length_take, Nat.min_eq_left (Nat.le_of_lt hi), List.getElem?_take, if_pos (by omega)]
      exact List.getElem?_eq_getElem _
    rw [sess_snoc g l[i] _ _ hl]
    by_cases h : l[i].time ≤ (l[i - 1]'(by omega)).time + g
    · rw [if_pos h, if_neg (by omega)]
    · rw [if_neg h, if_pos (by omega)]
theorem sess_flat (g : Nat) : ∀ l : List Kp427.Event, (Kp427.sessionsFrom g l).flatten = l
  | [] => rfl
  | e :: r => by
    have ih := sess_flat g r
    rw [sess_cons]
    cases h : Kp427.sessionsFrom g r with
    | nil =>
      rw [h] at ih
      rw [← ih]
      rfl
    | cons s more =>
      rw [h] at ih
      cases s with
      | nil =>
        rw [← ih]
        rfl
      | cons f s =>
        show (if f.time ≤ e.time + g then (e :: f :: s) :: more else [e] :: (f :: s) :: more).flatten = _
        rw [← ih]
        split <;> rfl
theorem sess_inner (g : Nat) (l x : List Kp427.Event) (h : x ∈ Kp427.sessionsFrom g l) : x.length ≤ l.length := by
  have e := congrArg List.length (sess_flat g l)
  rw [List.length_flatten] at e
  have aux : ∀ M : List (List Kp427.Event), x ∈ M → x.length ≤ (M.map List.length).sum := by
    intro M
    induction M with
    | nil =>
      intro h
      cases h
    | cons a r ih =>
      intro h
      rw [List.map_cons, List.sum_cons]
      rcases List.mem_cons.mp h with z | z
      · rw [z]
        omega
      · have := ih z
        omega
  have := aux _ h
  omega
theorem pos_of {i : Nat} (h : (i == 0) = false) : 1 ≤ i := by
  have : i ≠ 0 := by simpa using h
  omega
/-! ### a list of lists of events in the heap -/
abbrev SesL := List (Addr × EvL')
structure SesAt (H : Hp) (p : Addr) (ss : SesL) : Prop where
  out : H p = some (.lst (ss.map fun x => V.ref x.1))
  inn : ∀ x ∈ ss, H x.1 = some (.lst (evV x.2))
theorem SesAt.ex {H H' : Hp} {p : Addr} {ss : SesL} (k : Ex H H') (h : SesAt H p ss) : SesAt H' p ss := ⟨k _ _ h.out, fun x hx => k _ _ (h.inn x hx)⟩
abbrev sesV (ss : SesL) : List (List Kp427.Event) := ss.map fun x => x.2.map (·.2)
section
variable {K : PySem.W.Frag} {σ : L2.St} {H : Hp} {ta te : TE} {t : TT} {D : Ends} {tu tz : TS} {i : Nat}
theorem q_when2 {b : Bool} (M : L2.St → Hp → Prop) (h : EvT t σ H b) (h1 : (∀ σ' H', M σ' H' → tz D σ' H') → b = true → ∀ H1, Ex H H1 → tu { D with nx := tz D } σ H1) (h2 : b = false → ∀ H1, Ex H H1 → M σ H1) (k : ∀ σ' H', M σ' H' → tz D σ' H') : tSeq (tIfS t tu tNext) tz D σ H :=
  q_when h (h1 k) fun hb H1 e => k _ _ (h2 hb H1 e)
theorem c_call {sp : Sp} {E : XK} {ta : TA} {vs : List V} {Q : VK} (h : EvA ta σ H vs) (k : ∀ H1, Ex H H1 → sp vs H1 Q E) : tCall sp [] E ta σ H Q := h H (Ex.refl H) _ fun H1 e => by
  show sp (vs ++ []) H1 _ E
  rw [List.append_nil]
  exact k H1 e
theorem s_extQ {l : Addr} {xs : List V} (hl : H l = some (.lst xs)) (ha : Ev ta σ H (.ref l)) (h : ∀ H1, Ex H H1 → te σ H1 fun v H2 => rExtend (.ref l) [v] H2 fun _ H3 => D.nx σ H3) : tDrop (tBM K "list" rExtend ta (tCons te tNil)) D σ H := ha H (Ex.refl H) _ fun H1 e1 =>
  ⟨Or.inl ⟨rfl, xs, sq_of (e1 l _ hl)⟩, h H1 e1⟩
end
theorem lastD {α : Type} {l : List α} (h : l ≠ []) : ∃ r x, l = r ++ [x] := ⟨l.dropLast, l.getLast h, (List.dropLast_concat_getLast h).symm⟩
section
variable {P : Program} {w : World} {K : PySem.W.Frag} {mg : Str → Option Value} {base : Heap} {c : Adr}
abbrev s_sessions_of : Stmt := top 82
abbrev n_sessions_of : List Str := ["store", "member", "own", "found", "place"]
theorem sc_sessions_of : FnScope n_sessions_of ["store", "member"] (defScope s_sessions_of) := ⟨rfl, rfl, rfl, by decide +kernel, rfl, by decide +kernel, by decide +kernel⟩
def sp_sessions_of (c : Adr) : Sp := fun vs H Q _ => ∃ a L s m, vs = [.ref a, nV m] ∧ StE c H a L s ∧ ∀ (ss : SesL) p H', sesV ss = Kp427.sessions s m → (∀ x ∈ ss, H x.1 = none ∧ ∀ y ∈ x.2, y ∈ L.evs) → H p = none → Ex H H' → SesAt H' p ss → Q (.ref p) H'
theorem d_sessions_of (T : Txt K mg c) (D_events_of : DefAt P w K mg base 1 "events_of" ["store", "member"] (rdL (p_events_of c))) (D0 : Def0 K mg "sessions_of" s_sessions_of ["store", "member"]) : DefAt P w K mg base 2 "sessions_of" ["store", "member"] (sp_sessions_of c) := by
  refine DefAt.of D0 sc_sessions_of (fun vs H Q E h => ?_) (fun f cdv A outer s H vs Q E hr h => ?_)
  · obtain ⟨a, L, s, i, rfl, _⟩ := h
    rfl
  · obtain ⟨a, L, st, m, rfl, S, k⟩ := h
    refine ⟨_, (pss_cons (ps_set (i := 2) sc_sessions_of.nd rfl (Or.inl rfl) (pcD D_events_of hr (pa_cons (pv 0) (pa_cons (pv 1) pa_nil)))) (pss_cons (ps_set (i := 3) sc_sessions_of.nd rfl (Or.inl rfl) (pe_lst pa_nil)) (pss_cons (ps_for PassesOwn.never rfl (pi_range1 rfl T.b_range (pa_cons (pe_callB call_len_seq (by rfl) T.b_len PySem.boot_len (pa_cons (pv 2) pa_nil)) pa_nil)) (pg_name (i := 4) sc_sessions_of.nd rfl (Or.inl rfl)) (pss_cons (ps_if (PW.pt (pw_or (pt_cmpR op_eq (pv 4) pe_int (nomark _)) (pw_or1 (pt_cmpR op_gt (pe_op op_sub (fK (K := K) (ixK (K := K) (pv 2) (pv 4))) (fK (K := K) (ixK (K := K) (pv 2) (pe_op op_sub (pv 4) pe_int)))) (fK (K := K) (pv 0)) (nomark _))))) (pss_one (ps_expr (pe_bm PySem.F.plainAttrs_list PySem.F.slot_list_append PySem.F.type_list_append mt_append (pv 3) (pa_cons (pe_lst pa_nil) pa_nil)))) pss_nil) (pss_one (ps_expr (pe_bm PySem.F.plainAttrs_list PySem.F.slot_list_append PySem.F.type_list_append mt_append (ixK (K := K) (pv 3) (pe_op op_sub (pe_callB call_len_seq (by rfl) T.b_len PySem.boot_len (pa_cons (pv 3) pa_nil)) pe_int)) (pa_cons (ixK (K := K) (pv 2) (pv 4)) pa_nil)))))) (pss_one (ps_ret (pv 3)))))), ?_⟩
    refine q_asgL (el_eventsOf S (ea_cons (ev_var rfl) (ea_cons (ev_var rfl) ea_nil))) fun o H1 ho e1 h1 => ?_
    have eo : (L.evs.filter fun e => e.2.member == m).map (·.2) = Kp427.eventsOf st m := S.filt fun e => e.member == m
    have sub : ∀ y ∈ L.evs.filter (fun e => e.2.member == m), y ∈ L.evs := fun y hy => (List.mem_filter.mp hy).1
    have l200 := S.oflen fun e => e.member == m
    generalize hes : (L.evs.filter fun e => e.2.member == m) = es at h1 eo sub l200
    refine q_asgL (el_lst ea_nil (by show 0 ≤ 100000; decide)) fun t H2 ht e2 h2 => ?_
    have S1 := S.ex e1
    have e12 := e1.trans e2
    have ht0 : H t = none := fresh_back e1 ht
    have ot : o ≠ t := fun z => by
      rw [z, ht] at h1
      cases h1
    have h1' := e2 _ _ h1
    refine q_forR1 (j := 4) (n := (es.length : Int)) (ea_cons (ev_lenM (r := fun e => V.ref e.1) (ev_var rfl) (sq_of h1')) ea_nil) ⟨by omega, by omega⟩
      (fun i σ' H' => ∃ v ss, σ' = [some (.ref a), some (nV m), some (.ref o), some (.ref t), v] ∧ Ex H1 H' ∧ SesAt H' t ss ∧ (ss.map (·.1)).Nodup ∧ (∀ x ∈ ss, H1 x.1 = none ∧ x.1 ≠ t ∧ ∀ y ∈ x.2, y ∈ es) ∧ sesV ss = Kp427.sessionsFrom st.gap ((es.map (·.2)).take i))
      (fun H3 e3 => ⟨none, [], rfl, e2.trans e3, ⟨e3 _ _ h2, fun x hx => (by cases hx)⟩, List.nodup_nil, fun x hx => (by cases hx), rfl⟩) ?_ ?_
    · rintro i σ' H' hi ⟨v, ss, rfl, e3, Sg, nd, fr, val⟩
      have hi' : i < es.length := by omega
      have hj' : i - 1 < es.length := by omega
      have gi : es[i]? = some es[i] := List.getElem?_eq_getElem hi'
      have Si := S1.ex e3
      have timeOf : ∀ {σ : L2.St} {H4 : Hp} {tb : TE} {j : Nat} (hj : j < es.length), Ex H' H4 → σ[2]? = some (some (.ref o)) → Ev tb σ H4 (nV j) → Ev (tFld K (tOp (rIxL K) (tVar 2) tb) "time") σ H4 (nV es[j].2.time) := fun {σ H4 tb j} hj e4 hσ hb =>
        ev_time T ((Si.ex e4).evs _ (sub _ (List.getElem_mem hj))) (ev_ixM (r := fun e => V.ref e.1) (ev_var hσ) hb (sq_of (e4 _ _ (e3 _ _ h1))) (List.getElem?_eq_getElem hj))
      have ssl : ss.length ≤ i := by
        have := sess_len_le st.gap ((es.map (·.2)).take i)
        rw [← val, List.length_map, List.length_take] at this
        omega
      have nx := sess_next st.gap (es.map (·.2)) i (by rw [List.length_map]; exact hi')
      rw [← val] at nx
      simp only [List.getElem_map] at nx
      refine q_when2 (fun σ' H4 => ∃ init q xs, σ' = [some (.ref a), some (nV m), some (.ref o), some (.ref t), some (nV i)] ∧ Ex H1 H4 ∧ SesAt H4 t (init ++ [(q, xs)]) ∧ ((init ++ [(q, xs)]).map (·.1)).Nodup ∧ (∀ x ∈ init ++ [(q, xs)], H1 x.1 = none ∧ x.1 ≠ t ∧ ∀ y ∈ x.2, y ∈ es) ∧ (init ++ [(q, xs)]).length ≤ 50000 ∧ xs.length ≤ 50000 ∧ sesV (init ++ [(q, xs ++ [es[i]])]) = Kp427.sessionsFrom st.gap ((es.map (·.2)).take (i + 1)))
        (b := i == 0 || decide ((st.gap : Int) < (es[i].2.time : Int) - (es[i - 1].2.time : Int)))
        (et_or (et_test (ev_op (ev_var rfl) (ev_n 0) rv_eqN)) fun hz => et_test (ev_op (x := .int ((es[i].2.time : Int) - (es[i - 1].2.time : Int))) (y := nV st.gap) (ev_op (timeOf hi' (Ex.refl _) rfl (ev_var rfl)) (timeOf (j := i - 1) hj' (Ex.refl _) rfl (ev_op (ev_var rfl) (ev_n 1) (rv_subN (pos_of hz)))) rv_I0) (ev_gap T Si (ev_var rfl)) rv_gtI)) ?_ ?_ ?_
      · intro fin hb H4 e4
        refine s_appL (e4 _ _ Sg.out) (ev_var rfl) (el_lst ea_nil (by show 0 ≤ 100000; decide)) (by rw [List.length_map]; omega) fun q H5 hq e5 h5 => fin _ _ ⟨ss, q, [], rfl, ((e3.trans e4).trans e5).mut ht, ⟨?_, ?_⟩, ?_, ?_, ?_, ?_, ?_⟩
        · rw [upd_same, List.map_append]
          rfl
        · intro x hx
          rcases List.mem_append.mp hx with hx | hx
          · rw [upd_ne (fr x hx).2.1]
            exact e5 _ _ (e4 _ _ (Sg.inn x hx))
          · rw [List.mem_singleton.mp hx]
            have qt : q ≠ t := fun z => by
              rw [z, e4 _ _ Sg.out] at hq
              cases hq
            rw [upd_ne qt]
            exact h5
        · rw [List.map_append, List.nodup_append]
          refine ⟨nd, List.nodup_cons.mpr ⟨List.not_mem_nil, List.nodup_nil⟩, fun x hx y hy z => ?_⟩
          obtain ⟨u, hu, rfl⟩ := List.mem_map.mp hx
          rw [List.mem_singleton.mp hy] at z
          have := e4 _ _ (Sg.inn u hu)
          rw [show u.1 = q from z, hq] at this
          cases this
        · intro x hx
          rcases List.mem_append.mp hx with hx | hx
          · exact fr x hx
          · rw [List.mem_singleton.mp hx]
            refine ⟨fresh_back (e3.trans e4) hq, fun z => ?_, fun y hy => (by cases hy)⟩
            rw [show q = t from z, e4 _ _ Sg.out] at hq
            cases hq
        · rw [List.length_append]
          show ss.length + 1 ≤ 50000
          omega
        · exact Nat.zero_le _
        · rw [nx, if_pos (by
            rw [Bool.or_eq_true] at hb
            rcases hb with z | z
            · exact Or.inl (by simpa using z)
            · have := of_decide_eq_true z
              exact Or.inr (by omega))]
          exact List.map_append
      · intro hb
        rw [Bool.or_eq_false_iff] at hb
        have hb2 := of_decide_eq_false hb.2
        have hi0 : i ≠ 0 := by simpa using hb.1
        intro H4 e4
        have sne : ss ≠ [] := fun z => by
          rw [z] at val
          have l1 : 0 < ((es.map (·.2)).take i).length := by
            rw [List.length_take, List.length_map]
            omega
          cases hl : (es.map (·.2)).take i with
          | nil =>
            rw [hl] at l1
            cases l1
          | cons x r =>
            rw [hl] at val
            obtain ⟨s', more, hs⟩ := sess_head st.gap x r
            rw [hs] at val
            cases val
        obtain ⟨init, ⟨q, xs⟩, rfl⟩ := lastD sne
        rw [if_neg (by omega)] at nx
        refine ⟨init, q, xs, rfl, e3.trans e4, Sg.ex e4, nd, fr, by omega, ?_, ?_⟩
        · have := sess_inner st.gap ((es.map (·.2)).take i) (xs.map (·.2)) (by rw [← val]; exact List.mem_map.mpr ⟨(q, xs), List.mem_append.mpr (Or.inr List.mem_cons_self), rfl⟩)
          rw [List.length_map, List.length_take] at this
          omega
        · have a1 : sesV (init ++ [(q, xs ++ [es[i]])]) = sesV init ++ [xs.map (·.2) ++ [es[i].2]] := by
            show (init ++ [(q, xs ++ [es[i]])]).map (fun x => x.2.map (·.2)) = _
            rw [List.map_append]
            show _ ++ [(xs ++ [es[i]]).map (·.2)] = _
            rw [List.map_append]
            rfl
          have a2 : sesV (init ++ [(q, xs)]) = sesV init ++ [xs.map (·.2)] := List.map_append
          rw [nx, a1, a2, appLast_snoc]
      · rintro σ' H4 ⟨init, q, xs, rfl, e4, Sg, nd, fr, l1, l2, val⟩
        have S4 := S1.ex e4
        have mq : (q, xs) ∈ init ++ [(q, xs)] := List.mem_append.mpr (Or.inr List.mem_cons_self)
        have hq := Sg.inn _ mq
        have hl : (init ++ [(q, xs)]).length = init.length + 1 := by rw [List.length_append]; rfl
        refine s_app hq (ev_ixL (n := init.length) (ev_var rfl) (ev_op (ev_lenX (n := init.length + 1) (ev_var rfl) (sq_of Sg.out) (by rw [List.length_map, hl])) (ev_n 1) (rv_subN (Nat.le_add_left 1 _))) (sq_of Sg.out) ?_) (ev_ixM (r := fun e => V.ref e.1) (ev_var rfl) (ev_var rfl) (sq_of (e4 _ _ h1)) gi) (by rw [List.length_map]; show xs.length < 100000; omega) fun H5 e5 => ⟨_, init ++ [(q, xs ++ [es[i]])], rfl, (e4.trans e5).mut (fr _ mq).1, ⟨?_, ?_⟩, ?_, ?_, val⟩
        · rw [List.map_append, List.getElem?_append_right (by rw [List.length_map]; exact Nat.le_refl _), List.length_map, Nat.sub_self]
          rfl
        · rw [upd_ne (Ne.symm (fr _ mq).2.1), e5 _ _ Sg.out, List.map_append, List.map_append]
          rfl
        · intro x hx
          rcases List.mem_append.mp hx with hx | hx
          · have hne : x.1 ≠ q := fun z => by
              rw [List.map_append, List.nodup_append] at nd
              exact nd.2.2 x.1 (List.mem_map.mpr ⟨x, hx, rfl⟩) q List.mem_cons_self z
            rw [upd_ne hne]
            exact e5 _ _ (Sg.inn x (List.mem_append.mpr (Or.inl hx)))
          · rw [List.mem_singleton.mp hx]
            show upd H5 q _ q = some (.lst (evV (xs ++ [es[i]])))
            rw [upd_same]
            show _ = some (HO.lst ((xs ++ [es[i]]).map fun e => V.ref e.1))
            rw [List.map_append]
            rfl
        · rw [List.map_append] at nd ⊢
          exact nd
        · intro x hx
          rcases List.mem_append.mp hx with hx | hx
          · exact fr x (List.mem_append.mpr (Or.inl hx))
          · rw [List.mem_singleton.mp hx]
            refine ⟨(fr _ mq).1, (fr _ mq).2.1, fun y hy => ?_⟩
            rcases List.mem_append.mp hy with hy | hy
            · exact (fr _ mq).2.2 y hy
            · rw [List.mem_singleton.mp hy]
              exact List.getElem_mem hi'
    · rintro σ' H' ⟨v, ss, rfl, e3, Sg, nd, fr, val⟩
      rw [Int.toNat_natCast, List.take_of_length_le (by rw [List.length_map]; exact Nat.le_refl _), eo] at val
      exact s_ret (ev_var rfl) fun H4 e4 => k ss t H4 val (fun x hx => ⟨fresh_back e1 (fr x hx).1, fun y hy => sub y ((fr x hx).2.2 y hy)⟩) ht0 ((e1.trans e3).trans e4) (Sg.ex e4)
abbrev s_all_sessions : Stmt := top 83
abbrev n_all_sessions : List Str := ["store", "found", "member"]
theorem sc_all_sessions : FnScope n_all_sessions ["store"] (defScope s_all_sessions) := ⟨rfl, rfl, rfl, by decide +kernel, rfl, by decide +kernel, by decide +kernel⟩
def allS (s : Kp427.Store) : List (List Kp427.Event) := s.members.flatMap fun m => Kp427.sessions s m.id
def sp_all_sessions (c : Adr) : Sp := fun vs H Q _ => ∃ a L s, vs = [.ref a] ∧ StL c H a L s ∧ ∀ (ss : SesL) p H', sesV ss = allS s → (∀ x ∈ ss, H x.1 = none ∧ ∀ y ∈ x.2, y ∈ L.evs) → H p = none → Ex H H' → SesAt H' p ss → Q (.ref p) H'
theorem flat_len {α β : Type} (f : α → List β) (n : Nat) : ∀ l : List α, (∀ x ∈ l, (f x).length ≤ n) → (l.flatMap f).length ≤ n * l.length
  | [], _ => Nat.zero_le _
  | x :: r, h => by
    have h1 := h x List.mem_cons_self
    have h2 := flat_len f n r fun y hy => h y (List.mem_cons_of_mem _ hy)
    rw [List.flatMap_cons, List.length_append, List.length_cons, Nat.mul_add]
    omega
theorem flatM_take {α β : Type} (f : α → List β) {l : List α} {i : Nat} {x : α} (h : l[i]? = some x) : (l.take (i + 1)).flatMap f = (l.take i).flatMap f ++ f x := by
  rw [take_succ_get h, List.flatMap_append]
  simp
theorem sess_200 {s : Kp427.Store} (g : Good s) (m : Nat) : (Kp427.sessions s m).length ≤ 200 := Nat.le_trans (sess_len_le _ _) (Nat.le_trans (List.length_filter_le _ _) g.elen)
theorem d_all_sessions (T : Txt K mg c) (D_sessions_of : DefAt P w K mg base 2 "sessions_of" ["store", "member"] (sp_sessions_of c)) (D0 : Def0 K mg "all_sessions" s_all_sessions ["store"]) : DefAt P w K mg base 3 "all_sessions" ["store"] (sp_all_sessions c) := by
  refine DefAt.of D0 sc_all_sessions (fun vs H Q E h => ?_) (fun f cdv A outer s H vs Q E hr h => ?_)
  · obtain ⟨a, L, s, rfl, _⟩ := h
    rfl
  · obtain ⟨a, L, st, rfl, SL, k⟩ := h
    refine ⟨_, (pss_cons (ps_set (i := 1) sc_all_sessions.nd rfl (Or.inl rfl) (pe_lst pa_nil)) (pss_cons (ps_lock (ps_for PassesOwn.never rfl (pi_keys (fK (K := K) (pv 0))) (pg_name (i := 2) sc_all_sessions.nd rfl (Or.inl rfl)) (pss_one (ps_expr (pe_bm PySem.F.plainAttrs_list PySem.F.slot_list_extend PySem.F.type_list_extend mt_extend (pv 1) (pa_cons (pcD D_sessions_of hr (pa_cons (pv 0) (pa_cons (pv 2) pa_nil))) pa_nil)))))) (pss_one (ps_ret (pv 1))))), ?_⟩
    refine q_asgL (el_lst ea_nil (by show 0 ≤ 100000; decide)) fun t H1 ht e1 h1 => ?_
    have SL1 := SL.ex e1
    have tm : t ≠ L.mb := fun z => by
      rw [z, SL.mb] at ht
      cases ht
    have lm : ∀ i, ((st.members.take i).flatMap fun m => Kp427.sessions st m.id).length ≤ 8000 := fun i => by
      have := flat_len (fun m : Kp427.Member => Kp427.sessions st m.id) 200 (st.members.take i) fun m _ => sess_200 SL.good m.id
      rw [List.length_take] at this
      have := SL.good.mlen
      omega
    refine q_forKeys SL1.mb (fun od => ev_members T (SL1.locked od) (ev_var rfl)) (fun od i σ' H' => ∃ v ss, σ' = [some (.ref a), some (.ref t), v] ∧ H' L.mb = some (.frz od (.dK (mbK st))) ∧ (∀ b o, H b = some o → b ≠ L.mb → H' b = some o) ∧ SesAt H' t ss ∧ (∀ x ∈ ss, H x.1 = none ∧ x.1 ≠ t ∧ ∀ y ∈ x.2, y ∈ L.evs) ∧ sesV ss = (st.members.take i).flatMap fun m => Kp427.sessions st m.id)
      (fun od H5 e5 => ⟨none, [], rfl, e5 _ _ upd_same, fun b o h n => e5 _ _ (by rw [upd_ne n]; exact e1 b o h), ⟨e5 _ _ (by rw [upd_ne tm]; exact h1), fun x hx => (by cases hx)⟩, fun x hx => (by cases hx), rfl⟩) (fun od i σ' H' ⟨v, u, _, h, _⟩ => h) ?_ ?_
    · rintro od i kk vv σ' H' R B hkv ⟨v, ss, rfl, h5, k5, Sg, fr, val⟩
      have S5 := SL.but k5
      have hkv' : (st.members.map fun x => ((keyN x.id : Key), nV x.day))[i]? = some (kk, vv) := hkv
      rw [List.getElem?_map] at hkv'
      obtain ⟨m, hm, em⟩ := Option.map_eq_some_iff.mp hkv'
      cases em
      refine s_extQ Sg.out (ev_var rfl) fun H6 e6 => c_call (ea_cons (ev_var rfl) (ea_cons (ev_var rfl) ea_nil)) fun H7 e7 => ⟨a, L, st, m.id, rfl, S5.ex (e6.trans e7), fun ss2 p H8 val2 fr2 hp e8 Sg2 => ?_⟩
      have e67 := e6.trans e7
      have e68 := e67.trans e8
      have l1 : ss.length ≤ 8000 := by
        have := lm i
        rw [← val, List.length_map] at this
        exact this
      have l2 : ss2.length ≤ 200 := by
        have := sess_200 SL.good m.id
        rw [← val2, List.length_map] at this
        exact this
      have back : ∀ b, H7 b = none → H b = none := fun b hb => by
        cases hh : H b with
        | none => rfl
        | some o =>
          exfalso
          by_cases hm2 : b = L.mb
          · rw [hm2, e67 _ _ h5] at hb
            cases hb
          · rw [e67 _ _ (k5 b o hh hm2)] at hb
            cases hb
      have t7 := e67 _ _ Sg.out
      have net : ∀ x ∈ ss2, x.1 ≠ t := fun x hx z => by
        have := (fr2 x hx).1
        rw [z, t7] at this
        cases this
      refine ⟨t, p, ss.map fun x => V.ref x.1, ss2.map fun x => V.ref x.1, rfl, rfl, e8 _ _ t7, Sg2.out, sz_of (by rw [List.length_map, List.length_map]; omega), _, ss ++ ss2, rfl, ?_, fun b o h n => ?_, ⟨?_, fun x hx => ?_⟩, fun x hx => ?_, ?_⟩
      · rw [upd_ne tm.symm]
        exact e68 _ _ h5
      · rw [upd_ne (ne_of_none h ht)]
        exact e68 _ _ (k5 b o h n)
      · rw [upd_same, List.map_append]
      · rcases List.mem_append.mp hx with hx | hx
        · rw [upd_ne (fr x hx).2.1]
          exact e68 _ _ (Sg.inn x hx)
        · rw [upd_ne (net x hx)]
          exact Sg2.inn x hx
      · rcases List.mem_append.mp hx with hx | hx
        · exact fr x hx
        · exact ⟨back _ (fr2 x hx).1, net x hx, (fr2 x hx).2⟩
      · show (ss ++ ss2).map _ = _
        rw [List.map_append, flatM_take _ hm]
        exact congr (congrArg _ val) val2
    · rintro od σ' H5 ⟨v, ss, rfl, h5, k5, Sg, fr, val⟩
      have e5 : Ex H (upd H5 L.mb (.dK (mbK st))) := fun b o h => by
        by_cases hb : b = L.mb
        · rw [hb, SL.mb] at h
          rw [hb, upd_same]
          exact h
        · rw [upd_ne hb]
          exact k5 b o h hb
      have Sg5 : SesAt (upd H5 L.mb (.dK (mbK st))) t ss := ⟨by rw [upd_ne tm]; exact Sg.out, fun x hx => by
        rw [upd_ne fun z => by
          have := (fr x hx).1
          rw [z, SL.mb] at this
          cases this]
        exact Sg.inn x hx⟩
      rw [mbK_len, List.take_length] at val
      exact s_ret (ev_var rfl) fun H6 e6 => k ss t H6 val (fun x hx => ⟨(fr x hx).1, (fr x hx).2.2⟩) ht (e5.trans e6) (Sg5.ex e6)
abbrev s_sessions : Stmt := top 84
abbrev n_sessions : List Str := ["store", "member", "found", "told", "session", "end"]
theorem sc_sessions : FnScope n_sessions ["store", "member"] (defScope s_sessions) := ⟨rfl, rfl, rfl, by decide +kernel, rfl, by decide +kernel, by decide +kernel⟩
def p_sessions (c : Adr) (vs : List V) (H : Hp) (xs : List V) : Prop := ∃ m, p_ask c [nV m] (.sessions m) vs H xs
def sesN (x : List Kp427.Event) : List Nat := [(x.head?.map Kp427.Event.time).getD 0, (x.getLast?.map Kp427.Event.time).getD 0, x.length, (Kp427.sessionItems x).length]
theorem d_sessions (T : Txt K mg c) (D_member_exists : DefAt P w K mg base 1 "member_exists" ["store", "member"] (rdV (p_member_exists c))) (D_not_found : DefAt P w K mg base 1 "not_found" [] (rdL (p_code 2)))
    (D_sessions_of : DefAt P w K mg base 2 "sessions_of" ["store", "member"] (sp_sessions_of c)) (D_items_met : DefAt P w K mg base 1 "items_met" ["events"] (rdL (p_items_met c)))
    (D0 : Def0 K mg "sessions" s_sessions ["store", "member"]) : DefAt P w K mg base 3 "sessions" ["store", "member"] (rdL (p_sessions c)) := by
  refine DefAt.of D0 sc_sessions (fun vs H Q E h => ?_) (fun f cdv A outer s H vs Q E hr h => ?_)
  · obtain ⟨xs, ⟨i, a, L, s, rfl, _⟩, _⟩ := h
    rfl
  · obtain ⟨xs, ⟨m, a, L, st, rfl, SL, rfl⟩, k⟩ := h
    have S := SL.toStE
    refine ⟨_, (pss_cons (ps_if (pt_not (pt_val (pcD D_member_exists (hr.mono (by decide)) (pa_cons (pv 0) (pa_cons (pv 1) pa_nil))))) (pss_one (ps_ret (pcD0 D_not_found (hr.mono (by decide))))) pss_nil) (pss_cons (ps_set (i := 2) sc_sessions.nd rfl (Or.inl rfl) (pcD D_sessions_of hr (pa_cons (pv 0) (pa_cons (pv 1) pa_nil)))) (pss_cons (ps_set (i := 3) sc_sessions.nd rfl (Or.inl rfl) (pe_lst (pa_cons (pe_callB call_len_seq (by rfl) T.b_len PySem.boot_len (pa_cons (pv 2) pa_nil)) pa_nil))) (pss_cons (ps_for PassesOwn.never rfl (piK (K := K) (pv 2)) (pg_name (i := 4) sc_sessions.nd rfl (Or.inl rfl)) (pss_cons (ps_set (i := 5) sc_sessions.nd rfl (Or.inl rfl) (fK (K := K) (ixK (K := K) (pv 4) (pe_op op_sub (pe_callB call_len_seq (by rfl) T.b_len PySem.boot_len (pa_cons (pv 4) pa_nil)) pe_int)))) (pss_one (ps_expr (pe_bm PySem.F.plainAttrs_list PySem.F.slot_list_extend PySem.F.type_list_extend mt_extend (pv 3) (pa_cons (pe_lst (pa_cons (fK (K := K) (ixK (K := K) (pv 4) pe_int)) (pa_cons (pv 5) (pa_cons (pe_callB call_len_seq (by rfl) T.b_len PySem.boot_len (pa_cons (pv 4) pa_nil)) (pa_cons (pe_callB call_len_seq (by rfl) T.b_len PySem.boot_len (pa_cons (pcD D_items_met (hr.mono (by decide)) (pa_cons (pv 4) pa_nil)) pa_nil)) pa_nil))))) pa_nil)))))) (pss_one (ps_ret (pv 3))))))), ?_⟩
    have es : (Kp427.step (some st) (.sessions m)).2 = if Kp427.hasMember st m then Kp427.natResult (Kp427.sessions st m).length ((Kp427.sessions st m).flatMap sesN) else Kp427.single (-2) := rfl
    rw [es] at k
    refine q_when (b := !Kp427.hasMember st m) (et_not (et_B (ev_hasMember SL (ea_cons (ev_var rfl) (ea_cons (ev_var rfl) ea_nil))))) (fun hb H1 e1 => ?_) fun hb H1 e1 => ?_
    · rw [Bool.not_eq_true'] at hb
      rw [hb] at k
      exact s_retL (el_code 2) fun p H2 hp e2 h2 => k p H2 (fresh_back e1 hp) (e1.trans e2) h2
    rw [Bool.not_eq_false'] at hb
    rw [hb, if_pos rfl, ansV_nat] at k
    refine q_asgSp (ea_cons (ev_var rfl) (ea_cons (ev_var rfl) ea_nil)) fun H2 e2 => ⟨a, L, st, m, rfl, S.ex (e1.trans e2), fun ss p H3 val fr hp e3 Sg => ?_⟩
    have e13 := (e1.trans e2).trans e3
    refine q_asgL (el_lst (ea_cons (ev_lenM (r := fun x : Addr × EvL' => V.ref x.1) (ev_var rfl) (sq_of Sg.out)) ea_nil) (by show 1 ≤ 100000; decide)) fun t H4 ht e4 h4 => ?_
    have lN : ∀ i, (((Kp427.sessions st m).take i).flatMap sesN).length ≤ 800 := fun i => by
      have := flat_len sesN 4 ((Kp427.sessions st m).take i) fun _ _ => Nat.le_refl 4
      rw [List.length_take] at this
      have := sess_200 S.good m
      omega
    have lss : ss.length = (Kp427.sessions st m).length := by rw [← val, List.length_map]
    have S3 := S.ex e13
    refine q_forM (ys := ss) (r := fun x : Addr × EvL' => V.ref x.1) (ev_var rfl) (sq_of (e4 _ _ Sg.out)) (fun i σ' H' => ∃ v u, σ' = [some (.ref a), some (nV m), some (.ref p), some (.ref t), v, u] ∧ Ex H3 H' ∧ H' t = some (.lst (((Kp427.sessions st m).length :: ((Kp427.sessions st m).take i).flatMap sesN).map nV)))
      (fun H5 e5 => ⟨none, none, rfl, e4.trans e5, by rw [← lss]; exact e5 _ _ h4⟩) (fun i σ' H' ⟨v, u, _, e, _⟩ => sq_of (e _ _ Sg.out)) ?_ ?_
    · rintro i y σ' H' hy ⟨v, u, rfl, e5, h5⟩
      have my := List.mem_of_getElem? hy
      have hq := e5 _ _ (Sg.inn y my)
      have S5 := S3.ex e5
      have gv : (Kp427.sessions st m)[i]? = some (y.2.map (·.2)) := by
        rw [← val, List.getElem?_map, hy]
        rfl
      have yne : y.2 ≠ [] := fun z => by
        have := sess_ne st.gap _ _ (List.mem_of_getElem? gv)
        rw [z] at this
        exact this rfl
      obtain ⟨r, z, hrz⟩ := lastD yne
      obtain ⟨f0, r0, hf0⟩ : ∃ f0 r0, y.2 = f0 :: r0 := by
        cases hh : y.2 with
        | nil => exact absurd hh yne
        | cons f0 r0 => exact ⟨f0, r0, rfl⟩
      have yl : y.2.length ≤ 200 := by
        have := sess_inner st.gap _ _ (List.mem_of_getElem? gv)
        rw [List.length_map] at this
        exact Nat.le_trans this (Nat.le_trans (List.length_filter_le _ _) S.good.elen)
      have ym : ∀ x ∈ y.2, x ∈ L.evs := (fr y my).2
      have zl : y.2[y.2.length - 1]? = some z := by
        rw [hrz, List.length_append]
        show (r ++ [z])[r.length + 1 - 1]? = _
        rw [Nat.add_sub_cancel, List.getElem?_append_right (Nat.le_refl _), Nat.sub_self]
        rfl
      have fl : y.2[0]? = some f0 := by
        rw [hf0]
        rfl
      have n1 : 1 ≤ y.2.length := by
        rw [hf0, List.length_cons]
        omega
      refine q_asg (v := nV z.2.time) (ev_time T (S5.evs _ (ym z (List.mem_of_getElem? zl))) (ev_ixM (r := fun e : Addr × Kp427.Event => V.ref e.1) (ev_var rfl) (ev_op (ev_lenM (r := fun e : Addr × Kp427.Event => V.ref e.1) (ev_var rfl) (sq_of hq)) (ev_n 1) (rv_subN n1)) (sq_of hq) zl)) fun H6 e6 => ?_
      have hq6 := e6 _ _ hq
      have S6 := S5.ex e6
      have evm : Evs c.E H6 y.2 := fun x hx => S6.evs x (ym x hx)
      have iml : ∀ e ∈ y.2, e.2.item < st.items.length := fun e he => S.good.eitem _ (S.mem (ym e he))
      refine s_extL (e6 _ _ h5) (ev_var rfl) (el_lst (ea_cons (ev_time T (evm f0 (List.mem_of_getElem? fl)) (ev_ixM (r := fun e : Addr × Kp427.Event => V.ref e.1) (ev_var rfl) (ev_n 0) (sq_of hq6) fl)) (ea_cons (ev_var rfl) (ea_cons (ev_lenM (r := fun e : Addr × Kp427.Event => V.ref e.1) (ev_var rfl) (sq_of hq6)) (ea_cons (ev_lenNM (r := nV) (el_itemsMet st.items.length (ea_cons (ev_var rfl) ea_nil) hq6 evm iml S.i63 (by omega))) ea_nil)))) (by show 4 ≤ 100000; decide)) ?_ fun H7 e7 => ⟨_, _, rfl, ((e5.trans e6).trans e7).mut ht, ?_⟩
      · have := lN i
        rw [List.length_map, List.length_cons]
        show _ + 4 ≤ 100000
        omega
      · have sn : sesN (y.2.map (·.2)) = [f0.2.time, z.2.time, y.2.length, (metN st.items.length (y.2.map (·.2))).length] := by
          unfold sesN
          rw [sess_len (n := st.items.length) fun e he => by
            obtain ⟨x, hx, rfl⟩ := List.mem_map.mp he
            exact iml x hx, List.length_map]
          have a1 : (y.2.map (·.2)).head? = some f0.2 := by rw [hf0]; rfl
          have a2 : (y.2.map (·.2)).getLast? = some z.2 := by rw [hrz, List.map_append, List.getLast?_append]; rfl
          rw [a1, a2]
          rfl
        rw [upd_same, flatM_take _ gv, sn, ← List.cons_append]
        exact congrArg (fun l => some (HO.lst l)) (List.map_append (f := nV) (l₂ := [f0.2.time, z.2.time, y.2.length, (metN st.items.length (y.2.map (·.2))).length])).symm
    · rintro σ' H' ⟨v, u, rfl, e5, h5⟩
      rw [lss, List.take_length] at h5
      exact s_ret (ev_var rfl) fun H6 e6 => k t H6 (fresh_back e13 ht) ((e13.trans e5).trans e6) (e6 _ _ h5)
end
end Shelf
end

section
set_option maxHeartbeats 4000000
namespace Shelf
open PySem PySem.Spec PyProof.Rows L2 Evl
/-! ### matching kinds -/
theorem matched_le : ∀ (w l : List Nat), Kp427.matched w l ≤ w.length
  | [], _ => by rw [Kp427.matched]; exact Nat.zero_le _
  | _ :: _, [] => by rw [Kp427.matched]; exact Nat.zero_le _; intro z; cases z
  | w :: ws, k :: r => by
    rw [Kp427.matched]
    split
    · have := matched_le ws r
      rw [List.length_cons]
      omega
    · exact matched_le (w :: ws) r
theorem matched_nil (w : List Nat) : Kp427.matched w [] = 0 := by
  cases w with
  | nil => rw [Kp427.matched]
  | cons a r => rw [Kp427.matched]; intro z; cases z
theorem matched_snoc (k : Nat) : ∀ (w l : List Nat), Kp427.matched w (l ++ [k]) = if w[Kp427.matched w l]? = some k then Kp427.matched w l + 1 else Kp427.matched w l
  | [], l => by
    rw [Kp427.matched, Kp427.matched]
    rfl
  | x :: w, [] => by
    rw [matched_nil]
    show Kp427.matched (x :: w) [k] = if some x = some k then 0 + 1 else 0
    rw [Kp427.matched, matched_nil, matched_nil]
    by_cases h : x = k
    · rw [if_pos h, if_pos (by rw [h])]
    · rw [if_neg h, if_neg fun z => h (Option.some.inj z)]
  | x :: w, y :: l => by
    show Kp427.matched (x :: w) (y :: (l ++ [k])) = _
    rw [Kp427.matched, Kp427.matched]
    by_cases h : x = y
    · rw [if_pos h, if_pos h, matched_snoc k w l, List.getElem?_cons_succ]
      split <;> rfl
    · rw [if_neg h, if_neg h, matched_snoc k (x :: w) l]
/-- what conversion asks of a session -/
theorem conv_any (i : Nat) : ∀ x : List Kp427.Event, decide (1 ≤ Kp427.matched [0, 4] ((x.filter fun e => e.item == i).map Kp427.Event.kind)) = x.any fun e => e.item == i && e.kind == 0
  | [] => by
    show decide (1 ≤ Kp427.matched [0, 4] []) = false
    rw [matched_nil]
    rfl
  | e :: x => by
    have ih := conv_any i x
    rw [List.any_cons, List.filter_cons]
    by_cases h : (e.item == i) = true
    · rw [if_pos h, List.map_cons, Kp427.matched, h, Bool.true_and]
      by_cases h2 : 0 = e.kind
      · rw [if_pos h2, decide_eq_true (Nat.le_add_left 1 _), ← h2]
        rfl
      · rw [if_neg h2, ih, beq_eq_false_iff_ne.mpr (Ne.symm h2), Bool.false_or]
    · rw [if_neg h, ih, (Bool.eq_false_iff.mpr h : (e.item == i) = false), Bool.false_and, Bool.false_or]
theorem conv_one (i : Nat) : ∀ x : List Kp427.Event, decide (1 ≤ Kp427.matched [4] ((x.filter fun e => e.item == i).map Kp427.Event.kind)) = x.any fun e => e.item == i && e.kind == 4
  | [] => by
    show decide (1 ≤ Kp427.matched [4] []) = false
    rw [matched_nil]
    rfl
  | e :: x => by
    have ih := conv_one i x
    rw [List.any_cons, List.filter_cons]
    by_cases h : (e.item == i) = true
    · rw [if_pos h, List.map_cons, Kp427.matched, h, Bool.true_and]
      by_cases h2 : 4 = e.kind
      · rw [if_pos h2, decide_eq_true (Nat.le_add_left 1 _), ← h2]
        rfl
      · rw [if_neg h2, ih, beq_eq_false_iff_ne.mpr (Ne.symm h2), Bool.false_or]
    · rw [if_neg h, ih, (Bool.eq_false_iff.mpr h : (e.item == i) = false), Bool.false_and, Bool.false_or]
theorem conv_two (i : Nat) : ∀ x : List Kp427.Event, decide (2 ≤ Kp427.matched [0, 4] ((x.filter fun e => e.item == i).map Kp427.Event.kind)) = (x.dropWhile fun e => !(e.item == i && e.kind == 0)).any fun e => e.item == i && e.kind == 4
  | [] => by
    show decide (2 ≤ Kp427.matched [0, 4] []) = false
    rw [matched_nil]
    rfl
  | e :: x => by
    have ih := conv_two i x
    rw [List.dropWhile_cons, List.filter_cons]
    by_cases h : (e.item == i) = true
    · rw [if_pos h, List.map_cons, Kp427.matched, h, Bool.true_and]
      by_cases h2 : 0 = e.kind
      · have h3 : (e.kind == 0) = true := by rw [← h2]; rfl
        rw [if_pos h2, h3, if_neg (by decide), List.any_cons, ← h2, ← conv_one i x]
        show _ = ((e.item == i) && false || _)
        rw [Bool.and_false, Bool.false_or]
        exact decide_eq_decide.mpr (by omega)
      · rw [if_neg h2, ih, beq_eq_false_iff_ne.mpr (Ne.symm h2), if_pos (by decide)]
    · rw [if_neg h, ih, (Bool.eq_false_iff.mpr h : (e.item == i) = false), Bool.false_and, if_pos (by decide)]
theorem conv_first (s : Kp427.Store) (i : Nat) : (Kp427.conversion s i).1 = (allS s).countP fun x => decide (1 ≤ Kp427.matched [0, 4] ((x.filter fun e => e.item == i).map Kp427.Event.kind)) := by
  show ((allS s).filter _).length = _
  rw [List.countP_eq_length_filter]
  exact congrArg List.length (List.filter_congr fun x _ => (conv_any i x).symm)
theorem conv_second (s : Kp427.Store) (i : Nat) : (Kp427.conversion s i).2 = (allS s).countP fun x => decide (2 ≤ Kp427.matched [0, 4] ((x.filter fun e => e.item == i).map Kp427.Event.kind)) := by
  show (((allS s).filter fun x => x.any fun e => e.item == i && e.kind == 0).filter _).length = _
  rw [List.countP_eq_length_filter, List.filter_filter]
  refine congrArg List.length (List.filter_congr fun x _ => ?_)
  rw [← conv_two i x, ← conv_any i x]
  by_cases h : 2 ≤ Kp427.matched [0, 4] ((x.filter fun e => e.item == i).map Kp427.Event.kind)
  · rw [decide_eq_true h, decide_eq_true (by omega : 1 ≤ _)]
    rfl
  · rw [decide_eq_false h, Bool.false_and]
theorem countP_take {α : Type} {p : α → Bool} {l : List α} {i : Nat} {x : α} (h : l[i]? = some x) : (l.take (i + 1)).countP p = (l.take i).countP p + if p x = true then 1 else 0 := by
  rw [take_succ_get h, List.countP_append, List.countP_cons, List.countP_nil, Nat.zero_add]
section
variable {K : PySem.W.Frag} {σ : L2.St} {H : Hp} {te : TE} {D : Ends} {tu tz : TS} {j : Nat}
/-- for over what a call gives: the list's address and what it holds are told by the call -/
theorem s_forSp {α : Type} {r : α → V} (W : Addr → List α → Nat → L2.St → Hp → Prop) (h : ∀ R : VK, (∀ p ys H', W p ys 0 σ H' → R (.ref p) H') → te σ H R) (hl : ∀ p ys i σ' H', W p ys i σ' H' → H' p = some (.lst (ys.map r)))
    (hs : ∀ p ys i y σ' H', ys[i]? = some y → W p ys i σ' H' → tu { D with nx := W p ys (i + 1), ct := W p ys (i + 1), bk := D.nx } (σ'.set j (some (r y))) H') (hd : ∀ p ys σ' H', W p ys ys.length σ' H' → D.nx σ' H') : tFor (iList K te) (gName j) tu D σ H :=
  h _ fun p ys H' w => ⟨p, rfl, ⟨_, sq_of (hl _ _ _ _ _ w)⟩, for_list (xs := ys.map r) (W p ys) w (fun i σ' H2 _ w => sq_of (hl _ _ _ _ _ w)) (fun i x σ' H2 hi w => by
    obtain ⟨y, hy, rfl⟩ := map_get hi
    exact hs p ys i y σ' H2 hy w) fun σ' H2 w => hd p ys σ' H2 (by rw [List.length_map] at w; exact w)⟩
theorem q_forSp {α : Type} {r : α → V} (W : Addr → List α → Nat → L2.St → Hp → Prop) (h : ∀ R : VK, (∀ p ys H', W p ys 0 σ H' → R (.ref p) H') → te σ H R) (hl : ∀ p ys i σ' H', W p ys i σ' H' → H' p = some (.lst (ys.map r)))
    (hs : ∀ p ys i y σ' H', ys[i]? = some y → W p ys i σ' H' → tu { D with nx := W p ys (i + 1), ct := W p ys (i + 1), bk := tz D } (σ'.set j (some (r y))) H') (hd : ∀ p ys σ' H', W p ys ys.length σ' H' → tz D σ' H') : tSeq (tFor (iList K te) (gName j) tu) tz D σ H :=
  s_forSp (D := { D with nx := tz D }) W h hl hs hd
end
section
variable {P : Program} {w : World} {K : PySem.W.Frag} {mg : Str → Option Value} {base : Heap} {c : Adr}
abbrev s_steps_reached : Stmt := top 86
abbrev n_steps_reached : List Str := ["events", "kinds", "reached", "event"]
theorem sc_steps_reached : FnScope n_steps_reached ["events", "kinds"] (defScope s_steps_reached) := ⟨rfl, rfl, rfl, by decide +kernel, rfl, by decide +kernel, by decide +kernel⟩
def p_steps_reached (c : Adr) (vs : List V) (H : Hp) (z : V) : Prop := ∃ (p q : Addr) (es : EvL') (ks : List Nat), vs = [.ref p, .ref q] ∧ H p = some (.lst (evV es)) ∧ Evs c.E H es ∧ H q = some (.lst (ks.map nV)) ∧ z = nV (Kp427.matched ks ((es.map (·.2)).map Kp427.Event.kind))
theorem d_steps_reached (T : Txt K mg c) (D0 : Def0 K mg "steps_reached" s_steps_reached ["events", "kinds"]) : DefAt P w K mg base 1 "steps_reached" ["events", "kinds"] (rdV (p_steps_reached c)) := by
  refine DefAt.of D0 sc_steps_reached (fun vs H Q E h => ?_) (fun f cdv A outer s H vs Q E hr h => ?_)
  · obtain ⟨xs, ⟨i, a, es, ks, rfl, _⟩, _⟩ := h
    rfl
  · obtain ⟨xs, ⟨p, q, es, ks, rfl, hp, he, hq, rfl⟩, k⟩ := h
    refine ⟨_, (pss_cons (ps_set (i := 2) sc_steps_reached.nd rfl (Or.inl rfl) pe_int) (pss_cons (ps_for PassesOwn.never rfl (piK (K := K) (pv 0)) (pg_name (i := 3) sc_steps_reached.nd rfl (Or.inl rfl)) (pss_one (ps_if (PW.pt (pw_and (pt_cmpR op_lt (pv 2) (pe_callB call_len_seq (by rfl) T.b_len PySem.boot_len (pa_cons (pv 1) pa_nil)) (nomark _)) (pw_and1 (pt_cmpR op_eq (fK (K := K) (pv 3)) (ixK (K := K) (pv 1) (pv 2)) (nomark _))))) (pss_one (ps_aug (i := 2) sc_steps_reached.nd rfl (Or.inl rfl) pe_int ip_add)) pss_nil))) (pss_one (ps_ret (pv 2))))), ?_⟩
    refine q_asg (v := nV 0) (ev_n 0) fun H1 e1 => ?_
    refine q_forM (ys := es) (r := fun e => V.ref e.1) (ev_var rfl) (sq_of (e1 _ _ hp)) (fun i σ' H' => ∃ v, σ' = [some (.ref p), some (.ref q), some (nV (Kp427.matched ks (((es.take i).map (·.2)).map Kp427.Event.kind))), v] ∧ Ex H H')
      (fun H3 e3 => ⟨none, by rw [List.take_zero]; show _ = [some (.ref p), some (.ref q), some (nV (Kp427.matched ks [])), none]; rw [matched_nil]; rfl, e1.trans e3⟩) (fun i σ' H' ⟨v, _, e⟩ => sq_of (e _ _ hp)) ?_ ?_
    · rintro i y σ' H' hy ⟨v, rfl, e⟩
      have my := List.mem_of_getElem? hy
      have Sy := (he y my).ex e
      have nx := matched_snoc y.2.kind ks (((es.take i).map (·.2)).map Kp427.Event.kind)
      rw [show ((es.take i).map (·.2)).map Kp427.Event.kind ++ [y.2.kind] = ((es.take (i + 1)).map (·.2)).map Kp427.Event.kind by rw [take_map_snoc hy, List.map_append]; rfl] at nx
      generalize hr0 : Kp427.matched ks (((es.take i).map (·.2)).map Kp427.Event.kind) = r at nx
      refine s_when (b := decide (r < ks.length) && decide (ks[r]? = some y.2.kind)) (et_and (et_test (ev_op (ev_var rfl) (ev_lenM (r := nV) (ev_var rfl) (sq_of (e _ _ hq))) rv_ltN)) fun hb => ?_) (fun hb H3 e3 => ?_) fun hb H3 e3 => ?_
      · have hb := of_decide_eq_true hb
        have gk : ks[r]? = some ks[r] := List.getElem?_eq_getElem hb
        have ed : decide (ks[r]? = some y.2.kind) = (y.2.kind == ks[r]) := by
          rw [gk, Bool.eq_iff_iff, decide_eq_true_iff, beq_iff_eq]
          exact ⟨fun z => (Option.some.inj z).symm, fun z => by rw [z]⟩
        rw [ed]
        exact et_test (ev_op (ev_kind T Sy (ev_var rfl)) (ev_ixM (r := nV) (ev_var rfl) (ev_var rfl) (sq_of (e _ _ hq)) gk) rv_eqN)
      · rw [Bool.and_eq_true] at hb
        rw [if_pos (of_decide_eq_true hb.2)] at nx
        refine s_aug (a := (r : Int)) (b := 1) rfl ev_c fun H4 e4 => ⟨some (.ref y.1), ?_, (e.trans e3).trans e4⟩
        rw [nx]
        rfl
      · have hn : ¬ ks[r]? = some y.2.kind := fun z => by
          have := (List.getElem?_eq_some_iff.mp z).1
          rw [decide_eq_true this, decide_eq_true z] at hb
          cases hb
        rw [if_neg hn] at nx
        refine ⟨some (.ref y.1), ?_, e.trans e3⟩
        rw [nx]
        rfl
    · rintro σ' H' ⟨v, rfl, e⟩
      rw [List.take_length]
      exact s_ret (ev_var rfl) fun H2 e2 => k H2 (e.trans e2)
abbrev s_conversion : Stmt := top 87
abbrev n_conversion : List Str := ["store", "item", "viewed", "bought", "session", "reached", "event"]
theorem sc_conversion : FnScope n_conversion ["store", "item"] (defScope s_conversion) := ⟨rfl, rfl, rfl, by decide +kernel, rfl, by decide +kernel, by decide +kernel⟩
def p_conversion (c : Adr) (vs : List V) (H : Hp) (xs : List V) : Prop := ∃ i, p_ask c [nV i] (.conversion i) vs H xs
theorem allS_len {s : Kp427.Store} (g : Good s) : (allS s).length ≤ 8000 := by
  have := flat_len (fun m : Kp427.Member => Kp427.sessions s m.id) 200 s.members fun m _ => sess_200 g m.id
  have := g.mlen
  show (s.members.flatMap _).length ≤ _
  omega
theorem d_conversion (T : Txt K mg c) (D_item_exists : DefAt P w K mg base 1 "item_exists" ["store", "item"] (rdV (p_item_exists c))) (D_not_found : DefAt P w K mg base 1 "not_found" [] (rdL (p_code 2)))
    (D_not_possible : DefAt P w K mg base 1 "not_possible" [] (rdL (p_code 33))) (D_lowest_terms : DefAt P w K mg base 1 "lowest_terms" ["top", "bottom"] (rdL p_lowest_terms)) (D_all_sessions : DefAt P w K mg base 3 "all_sessions" ["store"] (sp_all_sessions c))
    (D_steps_reached : DefAt P w K mg base 1 "steps_reached" ["events", "kinds"] (rdV (p_steps_reached c)))
    (D0 : Def0 K mg "conversion" s_conversion ["store", "item"]) : DefAt P w K mg base 4 "conversion" ["store", "item"] (rdL (p_conversion c)) := by
  refine DefAt.of D0 sc_conversion (fun vs H Q E h => ?_) (fun f cdv A outer s H vs Q E hr h => ?_)
  · obtain ⟨xs, ⟨i, a, L, s, rfl, _⟩, _⟩ := h
    rfl
  · obtain ⟨xs, ⟨i, a, L, st, rfl, SL, rfl⟩, k⟩ := h
    have S := SL.toStE
    refine ⟨_, (pss_cons (ps_if (pt_not (pt_val (pcD D_item_exists (hr.mono (by decide)) (pa_cons (pv 0) (pa_cons (pv 1) pa_nil))))) (pss_one (ps_ret (pcD0 D_not_found (hr.mono (by decide))))) pss_nil) (pss_cons (ps_set (i := 2) sc_conversion.nd rfl (Or.inl rfl) pe_int) (pss_cons (ps_set (i := 3) sc_conversion.nd rfl (Or.inl rfl) pe_int) (pss_cons (ps_for PassesOwn.never rfl (piK (K := K) (pcD D_all_sessions hr (pa_cons (pv 0) pa_nil))) (pg_name (i := 4) sc_conversion.nd rfl (Or.inl rfl)) (pss_cons (ps_set (i := 5) sc_conversion.nd rfl (Or.inl rfl) (pcD D_steps_reached (hr.mono (by decide)) (pa_cons (pe_lc (own := [("event", 6)]) (g := gName 6) rfl sc_conversion.nd (piK (K := K) (pv 4)) (blkOk_by (own := [("event", 6)]) (N := n_conversion) (sc := defScope s_conversion) (by decide +kernel)) (fun _ _ _ _ _ => pg_name (i := 6) sc_conversion.nd rfl (Or.inl rfl)) (fun _ _ _ _ _ => (pts_one (pt_cmpR op_eq (fK (K := K) (pv 6)) (pv 1) (nomark _)))) (fun _ _ _ _ _ => (pv 6))) (pa_cons (pe_lst (pa_cons (gI T.kVIEW) (pa_cons (gI T.kPURCHASE) pa_nil))) pa_nil)))) (pss_cons (ps_if (pt_cmpR op_ge (pv 5) pe_int (nomark _)) (pss_one (ps_aug (i := 2) sc_conversion.nd rfl (Or.inl rfl) pe_int ip_add)) pss_nil) (pss_one (ps_if (pt_cmpR op_ge (pv 5) pe_int (nomark _)) (pss_one (ps_aug (i := 3) sc_conversion.nd rfl (Or.inl rfl) pe_int ip_add)) pss_nil))))) (pss_cons (ps_if (pt_cmpR op_eq (pv 2) pe_int (nomark _)) (pss_one (ps_ret (pcD0 D_not_possible (hr.mono (by decide))))) pss_nil) (pss_one (ps_ret (pe_op op_cat (pe_lst (pa_cons pe_int pa_nil)) (pcD D_lowest_terms (hr.mono (by decide)) (pa_cons (pv 3) (pa_cons (pv 2) pa_nil))))))))))), ?_⟩
    have es : (Kp427.step (some st) (.conversion i)).2 = if Kp427.hasItem st i = false then Kp427.single (-2) else if (Kp427.conversion st i).1 = 0 then Kp427.single (-33) else
      ⟨0, [(Kp427.reduce ((Kp427.conversion st i).2 : Nat) (Kp427.conversion st i).1).1, ((Kp427.reduce ((Kp427.conversion st i).2 : Nat) (Kp427.conversion st i).1).2 : Int)]⟩ := rfl
    rw [es] at k
    refine q_when (b := !Kp427.hasItem st i) (et_not (et_B (ev_hasItem S (ea_cons (ev_var rfl) (ea_cons (ev_var rfl) ea_nil))))) (fun hb H1 e1 => ?_) fun hb H1 e1 => ?_
    · rw [Bool.not_eq_true'] at hb
      rw [if_pos hb] at k
      exact s_retL (el_code 2) fun p H2 hp e2 h2 => k p H2 (fresh_back e1 hp) (e1.trans e2) h2
    rw [Bool.not_eq_false'] at hb
    rw [if_neg (by rw [hb]; decide)] at k
    refine q_asg (v := nV 0) (ev_n 0) fun H2 e2 => ?_
    refine q_asg (v := nV 0) (ev_n 0) fun H3 e3 => ?_
    have e13 := (e1.trans e2).trans e3
    have al := allS_len S.good
    rw [conv_first, conv_second] at k
    refine q_forSp (r := fun x : Addr × EvL' => V.ref x.1) (fun p ss i' σ' H' => sesV ss = allS st ∧ (∀ x ∈ ss, ∀ y ∈ x.2, y ∈ L.evs) ∧ SesAt H' p ss ∧ ∃ v u e0, σ' = [some (.ref a), some (nV i), some (nV (((allS st).take i').countP fun x => decide (1 ≤ Kp427.matched [0, 4] ((x.filter fun e => e.item == i).map Kp427.Event.kind)))), some (nV (((allS st).take i').countP fun x => decide (2 ≤ Kp427.matched [0, 4] ((x.filter fun e => e.item == i).map Kp427.Event.kind)))), v, u, e0] ∧ Ex H H')
      (fun R hN => c_call (ea_cons (ev_var rfl) ea_nil) fun H4 e4 => ⟨a, L, st, rfl, SL.ex (e13.trans e4), fun ss p H5 val fr hp e5 Sg => hN p ss H5 ⟨val, fun x hx => (fr x hx).2, Sg, none, none, none, rfl, (e13.trans e4).trans e5⟩⟩)
      (fun p ss i' σ' H' w => w.2.2.1.out) ?_ ?_
    · rintro p ss i' y σ' H' hy ⟨val, fr, Sg, v, u, e0, rfl, e5⟩
      have my := List.mem_of_getElem? hy
      have gv : (allS st)[i']? = some (y.2.map (·.2)) := by
        rw [← val, List.getElem?_map, hy]
        rfl
      have hq := Sg.inn y my
      have S5 := S.ex e5
      have yl : y.2.length ≤ 8000 := by
        have : (y.2.map (·.2)) ∈ allS st := List.mem_of_getElem? gv
        obtain ⟨m, _, hm⟩ := List.mem_flatMap.mp this
        have := sess_inner st.gap _ _ hm
        rw [List.length_map] at this
        have := Nat.le_trans this (Nat.le_trans (List.length_filter_le _ _) S.good.elen)
        omega
      have ff : (y.2.filter fun e => e.2.item == i).map (·.2) = (y.2.map (·.2)).filter fun e => e.item == i := evs_filter y.2 fun e => e.item == i
      refine q_asg (v := nV (Kp427.matched [0, 4] (((y.2.map (·.2)).filter fun e => e.item == i).map Kp427.Event.kind))) (ev_call' (ea_L (el_is (el_comp (ys := y.2) (r := fun e => V.ref e.1) (fun e => e.2.item == i) (fun e => V.ref e.1) (ev_var rfl) (sq_of hq) (by omega) (fun _ => rfl) (fun z H1 e mz => et_test (ev_op (ev_item T ((S5.evs z (fr y my z mz)).ex e) (ev_var rfl)) (ev_var rfl) rv_eqN)) fun z H1 e mz _ => ev_var rfl) rfl) (ea_new (el_lst (ea_cons (ev_n 0) (ea_cons (ev_n 4) ea_nil)) (by show 2 ≤ 100000; decide)))) ?_) fun H6 e6 => ?_
      · rintro vs H6 e6 ⟨q, r, rfl, hq2, q2, r2, rfl, hk2, rfl⟩
        exact rdV_sp fun H7 e7 => ⟨q, q2, y.2.filter fun e => e.2.item == i, [0, 4], rfl, e7 _ _ hq2, fun z hz => (S5.evs z (fr y my z (List.mem_filter.mp hz).1)).ex (e6.trans e7), e7 _ _ hk2, by rw [ff]⟩
      have c1 := countP_take (p := fun x => decide (1 ≤ Kp427.matched [0, 4] ((x.filter fun e => e.item == i).map Kp427.Event.kind))) gv
      have c2 := countP_take (p := fun x => decide (2 ≤ Kp427.matched [0, 4] ((x.filter fun e => e.item == i).map Kp427.Event.kind))) gv
      generalize hM : Kp427.matched [0, 4] (((y.2.map (·.2)).filter fun e => e.item == i).map Kp427.Event.kind) = M at c1 c2
      generalize ((allS st).take i').countP (fun x => decide (1 ≤ Kp427.matched [0, 4] ((x.filter fun e => e.item == i).map Kp427.Event.kind))) = A1 at c1
      generalize ((allS st).take i').countP (fun x => decide (2 ≤ Kp427.matched [0, 4] ((x.filter fun e => e.item == i).map Kp427.Event.kind))) = A2 at c2
      refine q_when2 (fun σ' H7 => σ' = [some (.ref a), some (nV i), some (nV (A1 + if decide (1 ≤ M) = true then 1 else 0)), some (nV A2), some (.ref y.1), some (nV M), e0] ∧ Ex H' H7) (b := decide (1 ≤ M)) (et_test (ev_op (ev_var rfl) (ev_n 1) rv_geN)) ?_ ?_ ?_
      · intro fin hb H7 e7
        rw [hb] at fin
        exact s_aug (a := (A1 : Int)) (b := 1) rfl ev_c fun H8 e8 => fin _ _ ⟨rfl, (e6.trans e7).trans e8⟩
      · intro hb H7 e7
        rw [hb]
        exact ⟨rfl, e6.trans e7⟩
      · rintro σ' H7 ⟨rfl, e7⟩
        refine s_when (b := decide (2 ≤ M)) (et_test (ev_op (ev_var rfl) (ev_n 2) rv_geN)) (fun hb H8 e8 => ?_) fun hb H8 e8 => ?_
        · refine s_aug (a := (A2 : Int)) (b := 1) rfl ev_c fun H9 e9 => ⟨val, fr, Sg.ex ((e7.trans e8).trans e9), some (.ref y.1), some (nV M), e0, ?_, e5.trans ((e7.trans e8).trans e9)⟩
          rw [c1, c2, hb]
          rfl
        · refine ⟨val, fr, Sg.ex (e7.trans e8), some (.ref y.1), some (nV M), e0, ?_, e5.trans (e7.trans e8)⟩
          rw [c1, c2, hb]
          rfl
    · rintro p ss σ' H' ⟨val, fr, Sg, v, u, e0, rfl, e5⟩
      have lss : ss.length = (allS st).length := by rw [← val, List.length_map]
      rw [lss, List.take_length]
      have b1 := List.countP_le_length (p := fun x => decide (1 ≤ Kp427.matched [0, 4] ((x.filter fun e => e.item == i).map Kp427.Event.kind))) (l := allS st)
      have b2 := List.countP_le_length (p := fun x => decide (2 ≤ Kp427.matched [0, 4] ((x.filter fun e => e.item == i).map Kp427.Event.kind))) (l := allS st)
      generalize (allS st).countP (fun x => decide (1 ≤ Kp427.matched [0, 4] ((x.filter fun e => e.item == i).map Kp427.Event.kind))) = A1 at k b1
      generalize (allS st).countP (fun x => decide (2 ≤ Kp427.matched [0, 4] ((x.filter fun e => e.item == i).map Kp427.Event.kind))) = A2 at k b2
      refine q_when (b := A1 == 0) (et_test (ev_op (ev_var rfl) (ev_n 0) rv_eqN)) (fun hb2 H6 e6 => ?_) fun hb2 H6 e6 => ?_
      · have : A1 = 0 := by simpa using hb2
        rw [if_pos this] at k
        exact s_retL (el_code 33) fun p H7 hp e7 h7 => k p H7 (fresh_back (e5.trans e6) hp) ((e5.trans e6).trans e7) h7
      have hA : A1 ≠ 0 := by simpa using hb2
      rw [if_neg hA, red_nat _ _ (Nat.pos_of_ne_zero hA)] at k
      have big : 1000000 < 2 ^ 800 := by decide
      exact s_retL (el_cat2 (ys := [A2 / Nat.gcd A2 A1, A1 / Nat.gcd A2 A1].map nV) (el_lst (ea_cons (ev_n 0) ea_nil) (by show 1 ≤ 100000; decide)) (el_callD (ea_cons (ev_var rfl) (ea_cons (ev_var rfl) ea_nil)) fun H7 e7 => ⟨_, _, rfl, Nat.pos_of_ne_zero hA, by omega, by omega, rfl⟩) (by show 1 + 2 ≤ 100000; decide)) fun p H7 hp e7 h7 => k p H7 (fresh_back (e5.trans e6) hp) ((e5.trans e6).trans e7) h7
end
end Shelf
end

section
set_option maxHeartbeats 4000000
namespace Shelf
open PySem PySem.Spec PyProof.Rows L2 Evl
/-! ### events by pairs -/
def pairOf (e : Kp427.Event) : Nat × Nat := (e.member, e.item)
def keyP (a : Nat × Nat) : List Key := [keyN a.1, keyN a.2]
theorem keyP_inj (a b : Nat × Nat) (h : keyP a = keyP b) : a = b := by
  obtain ⟨a1, a2⟩ := a
  obtain ⟨b1, b2⟩ := b
  unfold keyP at h
  injection h with h1 h2
  injection h2 with h2 h3
  have h1 := keyN_inj a1 b1 h1
  have h2 := keyN_inj a2 b2 h2
  rw [h1, h2]
def byPair (es : EvL') (a : Nat × Nat) : EvL' := es.filter fun e => decide (pairOf e.2 = a)
theorem byPair_snoc (es : EvL') (y : Addr × Kp427.Event) (a : Nat × Nat) : byPair (es ++ [y]) a = if pairOf y.2 = a then byPair es a ++ [y] else byPair es a := by
  unfold byPair
  rw [List.filter_append, List.filter_cons]
  by_cases h : pairOf y.2 = a
  · rw [if_pos (decide_eq_true h), if_pos h]
    rfl
  · rw [if_neg (by rw [decide_eq_false h]; exact Bool.false_ne_true), if_neg h]
    exact List.append_nil _
section
variable {K : PySem.W.Frag} {σ : L2.St} {H : Hp} {te to td ty tx : TE} {ta : TA} {D : Ends} {v : V} {Q : VK}
theorem ev_go (h : Ev te σ H v) (k : ∀ H2, Ex H H2 → Q v H2) : te σ H Q := h H (Ex.refl H) Q k
theorem el_go {xs : List V} (h : EvL te σ H xs) (k : ∀ p H2, H p = none → Ex H H2 → H2 p = some (.lst xs) → Q (.ref p) H2) : te σ H Q := h H (Ex.refl H) Q k
theorem eu_go {xs : List V} (h : EvU te σ H xs) (k : ∀ p H2, H p = none → Ex H H2 → H2 p = some (.tup xs) → Q (.ref p) H2) : te σ H Q := h H (Ex.refl H) Q k
theorem s_bmQ {T : String} {r : V → List V → Hp → VK → Prop} (h : to σ H fun x H1 => tyV K T x H1 ∧ ta σ H1 fun xs H2 => r x xs H2 fun _ H3 => D.nx σ H3) : tDrop (tBM K T r to ta) D σ H := h
theorem c_setdT (h : td σ H fun x H1 => ∃ a, x = .ref a ∧ IsD H1 a ∧ ty σ H1 fun y H2 => tx σ H2 fun z H3 => ∃ (kvs : List (List Key × V)) (k : List Key) (b : Addr), H3 a = some (.dT kvs) ∧ y = .ref b ∧ H3 b = some (.tup (k.map kV)) ∧ kvs.length < sizeLine ∧
  (∀ v, valV kvs k = some v → Q v H3) ∧ (valV kvs k = none → Q z (upd H3 a (.dT (putK kvs k z))))) : tDSetdT td ty tx σ H Q := h
end
section
variable {P : Program} {w : World} {K : PySem.W.Frag} {mg : Str → Option Value} {base : Heap} {c : Adr}
abbrev s_events_of_pairs : Stmt := top 88
abbrev n_events_of_pairs : List Str := ["events", "found", "event"]
theorem sc_events_of_pairs : FnScope n_events_of_pairs ["events"] (defScope s_events_of_pairs) := ⟨rfl, rfl, rfl, by decide +kernel, rfl, by decide +kernel, by decide +kernel⟩
def sp_events_of_pairs (c : Adr) : Sp := fun vs H Q _ => ∃ (p : Addr) (es : EvL'), vs = [.ref p] ∧ H p = some (.lst (evV es)) ∧ Evs c.E H es ∧ es.length ≤ 50000 ∧ ∀ (D : List (Nat × Nat)) (ad : Nat × Nat → Addr) (q : Addr) (H' : Hp), D.Nodup → (∀ a, a ∈ D ↔ ∃ e ∈ es, pairOf e.2 = a) → H q = none → Ex H H' → H' q = some (.lst (D.map fun a => V.ref (ad a))) →
  (∀ a ∈ D, H (ad a) = none ∧ H' (ad a) = some (.lst (evV (byPair es a)))) → Q (.ref q) H'
theorem d_events_of_pairs (T : Txt K mg c) (D0 : Def0 K mg "events_of_pairs" s_events_of_pairs ["events"]) : DefAt P w K mg base 1 "events_of_pairs" ["events"] (sp_events_of_pairs c) := by
  refine DefAt.of D0 sc_events_of_pairs (fun vs H Q E h => ?_) (fun f cdv A outer s H vs Q E hr h => ?_)
  · obtain ⟨a, L, rfl, _⟩ := h
    rfl
  · obtain ⟨p, es, rfl, hp, he, hl, k⟩ := h
    have hu := hu_of hr
    refine ⟨_, (pss_cons (ps_set (i := 1) sc_events_of_pairs.nd rfl (Or.inl rfl) pe_dnewT) (pss_cons (ps_for PassesOwn.never rfl (piK (K := K) (pv 0)) (pg_name (i := 2) sc_events_of_pairs.nd rfl (Or.inl rfl)) (pss_one (ps_expr (pe_bm PySem.F.plainAttrs_list PySem.F.slot_list_append PySem.F.type_list_append mt_append (pe_setdT hu (pv 1) (pe_tup (pa_cons (fK (K := K) (pv 2)) (pa_cons (fK (K := K) (pv 2)) pa_nil))) (pe_lst pa_nil) (by exact ⟨rfl, rfl, rfl, rfl⟩)) (pa_cons (pv 2) pa_nil))))) (pss_one (ps_ret (pe_listVals rfl (pv 1) rfl T.b_list (by decide +kernel)))))), ?_⟩
    refine q_dnewT fun t H1 ht e1 h1 => ?_
    refine q_forM (ys := es) (r := fun e => V.ref e.1) (ev_var rfl) (sq_of (e1 _ _ hp)) (fun j σ' H' => ∃ v, σ' = [some (.ref p), some (.ref t), v] ∧ Ex H H' ∧ ∃ (D : List (Nat × Nat)) (ad : Nat × Nat → Addr), D.Nodup ∧ D.length ≤ j ∧ (∀ a, a ∈ D ↔ ∃ e ∈ es.take j, pairOf e.2 = a) ∧ H' t = some (.dT (D.map fun a => (keyP a, V.ref (ad a)))) ∧
      (∀ a ∈ D, H (ad a) = none ∧ ad a ≠ t ∧ H' (ad a) = some (.lst (evV (byPair (es.take j) a)))) ∧ ∀ a ∈ D, ∀ b ∈ D, ad a = ad b → a = b)
      (fun H2 e2 => ⟨none, rfl, e1.trans e2, [], fun _ => t, List.nodup_nil, Nat.le_refl 0, fun a => ⟨fun z => (by cases z), fun ⟨e, z, _⟩ => (by rw [List.take_zero] at z; cases z)⟩, e2 _ _ h1, fun a z => (by cases z), fun a z => (by cases z)⟩) (fun j σ' H' ⟨v, _, e, _⟩ => sq_of (e _ _ hp)) ?_ ?_
    · rintro j y σ' H' hy ⟨v, rfl, e, D, ad, nd, dl, hD, h2, hA, inj⟩
      have my := List.mem_of_getElem? hy
      have hj := (List.getElem?_eq_some_iff.mp hy).1
      have Sy := (he y my).ex e
      have ty : es.take (j + 1) = es.take j ++ [y] := take_succ_get hy
      have mem' : ∀ a, (∃ e ∈ es.take (j + 1), pairOf e.2 = a) ↔ a ∈ D ∨ a = pairOf y.2 := fun a => by
        rw [ty, hD a]
        constructor
        · rintro ⟨z, hz, rfl⟩
          rcases List.mem_append.mp hz with hz | hz
          · exact Or.inl ⟨z, hz, rfl⟩
          · rw [List.mem_singleton.mp hz]
            exact Or.inr rfl
        · rintro (⟨z, hz, rfl⟩ | rfl)
          · exact ⟨z, List.mem_append.mpr (Or.inl hz), rfl⟩
          · exact ⟨y, List.mem_append.mpr (Or.inr List.mem_cons_self), rfl⟩
      refine s_bmQ (c_setdT (ev_go (v := .ref t) (ev_var rfl) fun H2 e2 => ⟨t, rfl, .inr ⟨_, .inl (e2 _ _ h2)⟩, eu_go (eu_tup (ea_cons (ev_member T (Sy.ex e2) (ev_var rfl)) (ea_cons (ev_item T (Sy.ex e2) (ev_var rfl)) ea_nil)) (by show 2 ≤ 100000; decide)) fun b H3 hb e3 h3 =>
        el_go (el_lst ea_nil (by show 0 ≤ 100000; decide)) fun q H4 hq e4 h4 => ⟨D.map fun a => (keyP a, V.ref (ad a)), keyP (pairOf y.2), b, (e3.trans e4) _ _ (e2 _ _ h2), rfl, e4 _ _ h3, sz_lt (by rw [List.length_map]; omega), fun v hv => ?_, fun hn => ?_⟩⟩))
      · rw [valV_tab keyP keyP_inj] at hv
        have e24 := (e2.trans e3).trans e4
        split at hv
        · rename_i hm
          cases hv
          obtain ⟨n1, n2, n3⟩ := hA _ hm
          have l4 := e24 _ _ n3
          refine ⟨Or.inl ⟨rfl, _, sq_of l4⟩, ev_go (v := .ref y.1) (ev_var rfl) fun H5 e5 => ⟨ad (pairOf y.2), _, _, rfl, rfl, e5 _ _ l4, sz_lt ?_, _, rfl, ((e.trans e24).trans e5).mut n1, D, ad, nd, by omega, fun a => ?_, ?_, fun a ha => ?_, inj⟩⟩
          · rw [List.length_map]
            have := List.length_filter_le (fun e : Addr × Kp427.Event => decide (pairOf e.2 = pairOf y.2)) (es.take j)
            rw [List.length_take] at this
            show (List.filter _ _).length < 100000
            omega
          · rw [mem' a]
            exact ⟨Or.inl, fun z => z.elim id fun z => z ▸ hm⟩
          · rw [upd_ne (Ne.symm n2)]
            exact e5 _ _ (e24 _ _ h2)
          · obtain ⟨m1, m2, m3⟩ := hA a ha
            refine ⟨m1, m2, ?_⟩
            rw [ty, byPair_snoc]
            by_cases hx : pairOf y.2 = a
            · subst hx
              rw [if_pos rfl, upd_same]
              show _ = some (HO.lst ((byPair (es.take j) (pairOf y.2) ++ [y]).map fun e => V.ref e.1))
              rw [List.map_append]
              rfl
            · rw [if_neg hx, upd_ne fun z => hx (inj _ hm _ ha z.symm)]
              exact e5 _ _ (e24 _ _ m3)
        · cases hv
      · rw [valV_tab keyP keyP_inj] at hn
        have e24 := (e2.trans e3).trans e4
        split at hn
        · cases hn
        · rename_i hm
          have hq0 : H q = none := fresh_back (e.trans (e2.trans e3)) hq
          have qt : q ≠ t := fun z => by
            rw [z, (e2.trans e3) _ _ h2] at hq
            cases hq
          have l4 : upd H4 t (.dT (putK (D.map fun a => (keyP a, V.ref (ad a))) (keyP (pairOf y.2)) (V.ref q))) q = some (.lst []) := by
            rw [upd_ne qt]
            exact h4
          have eT : Ex H (upd H4 t (.dT (putK (D.map fun a => (keyP a, V.ref (ad a))) (keyP (pairOf y.2)) (V.ref q)))) := (e.trans e24).mut ht
          refine ⟨Or.inl ⟨rfl, _, sq_of l4⟩, ev_go (v := .ref y.1) (ev_var rfl) fun H5 e5 => ⟨q, [], _, rfl, rfl, e5 _ _ l4, sz_lt (by show 0 < 100000; decide), _, rfl, (eT.trans e5).mut hq0, D ++ [pairOf y.2], fun a => if a = pairOf y.2 then q else ad a, ?_, ?_, fun a => ?_, ?_, fun a ha => ?_, ?_⟩⟩
          · rw [List.nodup_append]
            exact ⟨nd, List.nodup_cons.mpr ⟨List.not_mem_nil, List.nodup_nil⟩, fun a ha b hb z => hm (by rw [List.mem_singleton] at hb; rw [← hb, ← z]; exact ha)⟩
          · rw [List.length_append]
            show D.length + 1 ≤ j + 1
            omega
          · rw [mem' a, List.mem_append, List.mem_singleton]
          · rw [upd_ne (Ne.symm qt), e5 _ _ upd_same, putK_tab keyP keyP_inj, if_neg hm]
            refine congrArg (fun l => some (HO.dT l)) (List.map_congr_left fun a _ => ?_)
            show (keyP a, if a = pairOf y.2 then V.ref q else V.ref (ad a)) = (keyP a, V.ref (if a = pairOf y.2 then q else ad a))
            by_cases hx : a = pairOf y.2
            · rw [if_pos hx, if_pos hx]
            · rw [if_neg hx, if_neg hx]
          · by_cases hx : a = pairOf y.2
            · show H (if a = pairOf y.2 then q else ad a) = none ∧ (if a = pairOf y.2 then q else ad a) ≠ t ∧ upd H5 q _ (if a = pairOf y.2 then q else ad a) = _
              rw [if_pos hx]
              refine ⟨hq0, qt, ?_⟩
              have em : byPair (es.take j) a = [] := List.filter_eq_nil_iff.mpr fun z hz hw => hm (by
                rw [hD]
                exact ⟨z, hz, by rw [← hx]; exact of_decide_eq_true hw⟩)
              rw [upd_same, ty, byPair_snoc, if_pos hx.symm, em]
              rfl
            · show H (if a = pairOf y.2 then q else ad a) = none ∧ (if a = pairOf y.2 then q else ad a) ≠ t ∧ upd H5 q _ (if a = pairOf y.2 then q else ad a) = _
              rw [if_neg hx]
              have ha' : a ∈ D := (List.mem_append.mp ha).elim id fun z => absurd (List.mem_singleton.mp z) hx
              obtain ⟨m1, m2, m3⟩ := hA a ha'
              have m4 := (e2.trans e3) _ _ m3
              refine ⟨m1, m2, ?_⟩
              rw [ty, byPair_snoc, if_neg (Ne.symm hx), upd_ne fun z => by
                rw [z, hq] at m4
                cases m4]
              exact e5 _ _ (by rw [upd_ne m2]; exact e24 _ _ m3)
          · have neq : ∀ a ∈ D, ad a ≠ q := fun a ha z => by
              have := (e2.trans e3) _ _ (hA a ha).2.2
              rw [z, hq] at this
              cases this
            intro a ha b hb z
            have z : (if a = pairOf y.2 then q else ad a) = if b = pairOf y.2 then q else ad b := z
            have inD : ∀ a, a ∈ D ++ [pairOf y.2] → ¬ a = pairOf y.2 → a ∈ D := fun a ha hx => (List.mem_append.mp ha).elim id fun z => absurd (List.mem_singleton.mp z) hx
            by_cases hx : a = pairOf y.2 <;> by_cases hz : b = pairOf y.2
            · rw [hx, hz]
            · rw [if_pos hx, if_neg hz] at z
              exact absurd z.symm (neq b (inD b hb hz))
            · rw [if_neg hx, if_pos hz] at z
              exact absurd z (neq a (inD a ha hx))
            · rw [if_neg hx, if_neg hz] at z
              exact inj a (inD a ha hx) b (inD b hb hz) z
    · rintro σ' H' ⟨v, rfl, e, D, ad, nd, dl, hD, h2, hA, inj⟩
      rw [List.take_length] at hD hA
      refine s_retL (el_is (el_valsT (ev_var rfl) h2) (by rw [List.map_map]; rfl)) fun q H3 hq e3 h3 => k D ad q H3 nd hD (fresh_back e hq) (e.trans e3) h3 fun a ha => ⟨(hA a ha).1, e3 _ _ (hA a ha).2.2⟩
end
end Shelf
end

section
set_option maxHeartbeats 4000000
namespace Shelf
open PySem PySem.Spec PyProof.Rows L2 Evl
/-! ### funnels -/
def reachP (w : List Nat) (es : List Kp427.Event) (a : Nat × Nat) : Nat := Kp427.matched w ((es.filter fun e => decide (pairOf e = a)).map Kp427.Event.kind)
def allPairs (s : Kp427.Store) : List (Nat × Nat) := s.members.flatMap fun m => (List.range s.items.length).map fun i => (m.id, i)
theorem allPairs_nodup {s : Kp427.Store} (g : Good s) : (allPairs s).Nodup := by
  unfold allPairs List.Nodup
  rw [List.pairwise_flatMap]
  refine ⟨fun m _ => ?_, ?_⟩
  · rw [List.pairwise_map]
    exact List.Pairwise.imp (fun {a b} h z => h (congrArg Prod.snd z)) List.nodup_range
  · have := g.mnd
    unfold List.Nodup at this
    rw [List.pairwise_map] at this
    refine List.Pairwise.imp (fun {m n} h x hx y hy z => h ?_) this
    obtain ⟨i, _, rfl⟩ := List.mem_map.mp hx
    obtain ⟨j, _, rfl⟩ := List.mem_map.mp hy
    exact congrArg Prod.fst z
theorem mem_allPairs {s : Kp427.Store} {e : Kp427.Event} (g : Good s) (h : e ∈ s.events) : pairOf e ∈ allPairs s := by
  obtain ⟨m, hm, e1⟩ := List.mem_map.mp (g.emem e h)
  exact List.mem_flatMap.mpr ⟨m, hm, List.mem_map.mpr ⟨e.item, List.mem_range.mpr (g.eitem e h), by rw [e1]; rfl⟩⟩
theorem funnel_at {s : Kp427.Store} (g : Good s) (lo hi : Nat) (w : List Nat) {D : List (Nat × Nat)} (nd : D.Nodup) (hD : ∀ a, a ∈ D ↔ ∃ e ∈ s.events.filter (Kp427.isBetween lo hi), pairOf e = a) (k : Nat) :
    (s.members.flatMap fun m => (List.range s.items.length).map fun i => Kp427.matched w (((Kp427.eventsOf s m.id).filter fun e => e.item == i && Kp427.isBetween lo hi e).map Kp427.Event.kind)).countP (fun n => decide (k < n)) = D.countP fun a => decide (k < reachP w (s.events.filter (Kp427.isBetween lo hi)) a) := by
  have e1 : (s.members.flatMap fun m => (List.range s.items.length).map fun i => Kp427.matched w (((Kp427.eventsOf s m.id).filter fun e => e.item == i && Kp427.isBetween lo hi e).map Kp427.Event.kind)) = (allPairs s).map (reachP w (s.events.filter (Kp427.isBetween lo hi))) := by
    unfold allPairs
    rw [List.map_flatMap]
    refine congrArg (fun f => s.members.flatMap f) (funext fun m => ?_)
    rw [List.map_map]
    refine List.map_congr_left fun i _ => ?_
    show Kp427.matched w _ = Kp427.matched w _
    unfold Kp427.eventsOf
    rw [List.filter_filter, List.filter_filter]
    refine congrArg (fun l => Kp427.matched w (l.map Kp427.Event.kind)) (List.filter_congr fun e _ => ?_)
    have : decide (pairOf e = (m.id, i)) = (e.member == m.id && e.item == i) := by
      rw [Bool.eq_iff_iff, decide_eq_true_iff, Bool.and_eq_true, beq_iff_eq, beq_iff_eq]
      exact ⟨fun z => ⟨congrArg Prod.fst z, congrArg Prod.snd z⟩, fun z => by rw [← z.1, ← z.2]; rfl⟩
    rw [this]
    cases e.member == m.id <;> cases e.item == i <;> cases Kp427.isBetween lo hi e <;> rfl
  rw [e1, List.countP_map, List.countP_eq_length_filter, List.countP_eq_length_filter]
  refine List.Perm.length_eq ((List.perm_ext_iff_of_nodup ((allPairs_nodup g).filter _) (nd.filter _)).mpr fun a => ?_)
  rw [List.mem_filter, List.mem_filter]
  have key : k < reachP w (s.events.filter (Kp427.isBetween lo hi)) a → ∃ e ∈ s.events.filter (Kp427.isBetween lo hi), pairOf e = a := fun h => by
    cases hf : (s.events.filter (Kp427.isBetween lo hi)).filter (fun e => decide (pairOf e = a)) with
    | nil =>
      unfold reachP at h
      rw [hf] at h
      have h : k < Kp427.matched w [] := h
      rw [matched_nil] at h
      omega
    | cons e r =>
      have : e ∈ (s.events.filter (Kp427.isBetween lo hi)).filter (fun e => decide (pairOf e = a)) := by rw [hf]; exact List.mem_cons_self
      exact ⟨e, (List.mem_filter.mp this).1, of_decide_eq_true (List.mem_filter.mp this).2⟩
  constructor
  · rintro ⟨_, h⟩
    exact ⟨(hD a).mpr (key (of_decide_eq_true h)), h⟩
  · rintro ⟨_, h⟩
    obtain ⟨e, he, rfl⟩ := key (of_decide_eq_true h)
    exact ⟨mem_allPairs g (List.mem_filter.mp he).1, h⟩
section
variable {σ : L2.St} {H : Hp} {ta : TA} {Q : VK} {sp : Sp} {E : XK}
theorem c_call' {Pr : List V → Hp → Prop} (h : EvA' ta σ H Pr) (k : ∀ vs H1, Ex H H1 → Pr vs H1 → sp vs H1 Q E) : tCall sp [] E ta σ H Q := h H (Ex.refl H) _ fun vs H1 e p => by
  show sp (vs ++ []) H1 _ E
  rw [List.append_nil]
  exact k vs H1 e p
end
theorem tab_step {n s : Nat} (C : Nat → Nat) (h : s < n) : (((List.range n).map fun k => C k + if k < s then 1 else 0).map nV).set s (nV ((C s + if s < s then 1 else 0) + 1)) = ((List.range n).map fun k => C k + if k < s + 1 then 1 else 0).map nV := by
  rw [← List.map_set]
  have := tab_set (n := n) (j := s) (f := fun k => C k + if k < s then 1 else 0) (g := fun k => C k + if k < s + 1 then 1 else 0) fun k hk => by
    show C k + (if k < s + 1 then 1 else 0) = C k + if k < s then 1 else 0
    by_cases h1 : k < s
    · rw [if_pos h1, if_pos (by omega)]
    · rw [if_neg h1, if_neg (by omega)]
  rw [← this]
  congr 2
  show _ = C s + if s < s + 1 then 1 else 0
  rw [if_neg (Nat.lt_irrefl s), if_pos (Nat.lt_succ_self s)]
section
variable {P : Program} {w : World} {K : PySem.W.Frag} {mg : Str → Option Value} {base : Heap} {c : Adr}
abbrev s_funnel : Stmt := top 89
abbrev n_funnel : List Str := ["store", "low", "high", "kinds", "tally", "events", "step"]
theorem sc_funnel : FnScope n_funnel ["store", "low", "high", "kinds"] (defScope s_funnel) := ⟨rfl, rfl, rfl, by decide +kernel, rfl, by decide +kernel, by decide +kernel⟩
def p_funnel (c : Adr) (vs : List V) (H : Hp) (xs : List V) : Prop := ∃ (a q : Addr) (L : Lay) (s : Kp427.Store) (lo hi : Nat) (ks : List Nat), vs = [.ref a, nV lo, nV hi, .ref q] ∧ StL c H a L s ∧ H q = some (.lst (ks.map nV)) ∧ ks.length ≤ 1000 ∧ xs = ansV (Kp427.step (some s) (.funnel lo hi ks)).2
theorem d_funnel (T : Txt K mg c) (D_kinds_fit : DefAt P w K mg base 1 "kinds_fit" ["kinds"] (rdV p_kinds_fit)) (D_outside_limits : DefAt P w K mg base 1 "outside_limits" [] (rdL (p_code 22)))
    (D_events_of_pairs : DefAt P w K mg base 1 "events_of_pairs" ["events"] (sp_events_of_pairs c)) (D_events_between : DefAt P w K mg base 1 "events_between" ["store", "low", "high"] (rdL (p_events_between c)))
    (D_steps_reached : DefAt P w K mg base 1 "steps_reached" ["events", "kinds"] (rdV (p_steps_reached c)))
    (D0 : Def0 K mg "funnel" s_funnel ["store", "low", "high", "kinds"]) : DefAt P w K mg base 2 "funnel" ["store", "low", "high", "kinds"] (rdL (p_funnel c)) := by
  refine DefAt.of D0 sc_funnel (fun vs H Q E h => ?_) (fun f cdv A outer s H vs Q E hr h => ?_)
  · obtain ⟨xs, ⟨a, q, L, s, lo, hi, ks, rfl, _⟩, _⟩ := h
    rfl
  · obtain ⟨xs, ⟨a, q, L, st, lo, hi, ks, rfl, SL, hq, hk, rfl⟩, k⟩ := h
    have S := SL.toStE
    refine ⟨_, (pss_cons (ps_if (pt_not (pt_val (pcD D_kinds_fit hr (pa_cons (pv 3) pa_nil)))) (pss_one (ps_ret (pcD0 D_outside_limits hr))) pss_nil) (pss_cons (ps_set (i := 4) sc_funnel.nd rfl (Or.inl rfl) (pe_op op_rep (pe_lst (pa_cons pe_int pa_nil)) (pe_callB call_len_seq (by rfl) T.b_len PySem.boot_len (pa_cons (pv 3) pa_nil)))) (pss_cons (ps_for PassesOwn.never rfl (piK (K := K) (pcD D_events_of_pairs hr (pa_cons (pcD D_events_between hr (pa_cons (pv 0) (pa_cons (pv 1) (pa_cons (pv 2) pa_nil)))) pa_nil))) (pg_name (i := 5) sc_funnel.nd rfl (Or.inl rfl)) (pss_one (ps_for PassesOwn.never rfl (pi_range1 rfl T.b_range (pa_cons (pcD D_steps_reached hr (pa_cons (pv 5) (pa_cons (pv 3) pa_nil))) pa_nil)) (pg_name (i := 6) sc_funnel.nd rfl (Or.inl rfl)) (pss_one (ps_augS (pv 4) (pv 6) get_list pe_int ip_add set_list))))) (pss_one (ps_ret (pe_op op_cat (pe_lst (pa_cons (pe_callB call_len_seq (by rfl) T.b_len PySem.boot_len (pa_cons (pv 3) pa_nil)) pa_nil)) (pv 4))))))), ?_⟩
    have es : (Kp427.step (some st) (.funnel lo hi ks)).2 = if (decide (1 ≤ ks.length) && decide (ks.length ≤ 6) && ks.all fun k => decide (k < 6)) = false then Kp427.single (-22) else Kp427.listResult (Kp427.funnel st lo hi ks) := rfl
    rw [es, Bool.and_assoc] at k
    refine q_when (b := !(decide (1 ≤ ks.length) && (decide (ks.length ≤ 6) && ks.all fun w => decide (w < 6)))) (et_not (et_B (ev_callD (ea_cons (ev_var rfl) ea_nil) fun H2 e2 => ⟨q, ks, rfl, e2 _ _ hq, hk, rfl⟩))) (fun hb H1 e1 => ?_) fun hb H1 e1 => ?_
    · rw [Bool.not_eq_true'] at hb
      rw [if_pos hb] at k
      exact s_retL (el_code 22) fun p H2 hp e2 h2 => k p H2 (fresh_back e1 hp) (e1.trans e2) h2
    rw [Bool.not_eq_false'] at hb
    rw [if_neg (by rw [hb]; decide), ansV_list] at k
    have fl : (Kp427.funnel st lo hi ks).length = ks.length := by
      show ((List.range ks.length).map _).length = _
      rw [List.length_map, List.length_range]
    have l6 : ks.length ≤ 6 := by
      rw [Bool.and_eq_true, Bool.and_eq_true] at hb
      exact of_decide_eq_true hb.2.1
    have S1 := S.ex e1
    refine q_asgL (el_rep (x := nV 0) (n := ks.length) (el_lst (ea_cons (ev_n 0) ea_nil) (by show 1 ≤ 100000; decide)) (ev_lenM (r := nV) (ev_var rfl) (sq_of (e1 _ _ hq))) (by omega)) fun t H2 ht e2 h2 => ?_
    have S2 := S1.ex e2
    have bt : (L.evs.filter fun e => Kp427.isBetween lo hi e.2).map (·.2) = st.events.filter (Kp427.isBetween lo hi) := S.filt (Kp427.isBetween lo hi)
    have lbt := S.oflen (Kp427.isBetween lo hi)
    have evb : Evs c.E H2 (L.evs.filter fun e => Kp427.isBetween lo hi e.2) := S2.evs.filter _
    generalize hbs : (L.evs.filter fun e => Kp427.isBetween lo hi e.2) = bs at bt lbt evb
    have rp : ∀ a, Kp427.matched ks (((byPair bs a).map (·.2)).map Kp427.Event.kind) = reachP ks (st.events.filter (Kp427.isBetween lo hi)) a := fun a => by
      unfold byPair reachP
      rw [evs_filter bs fun e => decide (pairOf e = a), bt]
    refine q_forSp (r := fun x : Addr × (Nat × Nat) => V.ref x.1) (fun p ys j σ' H' => (ys.map (·.2)).Nodup ∧ (∀ a, a ∈ ys.map (·.2) ↔ ∃ e ∈ bs, pairOf e.2 = a) ∧ p ≠ t ∧ H' p = some (.lst (ys.map fun x => V.ref x.1)) ∧ (∀ x ∈ ys, x.1 ≠ t ∧ H' x.1 = some (.lst (evV (byPair bs x.2)))) ∧ ∃ v u, σ' = [some (.ref a), some (nV lo), some (nV hi), some (.ref q), some (.ref t), v, u] ∧ Ex H1 H' ∧
      H' t = some (.lst (((List.range ks.length).map fun k => ((ys.take j).map (·.2)).countP fun a => decide (k < reachP ks (st.events.filter (Kp427.isBetween lo hi)) a)).map nV)))
      ?_ (fun p ys j σ' H' w => w.2.2.2.1) ?_ ?_
    · intro R hR
      refine c_call' (ea_new (el_between S2 (ea_cons (ev_var rfl) (ea_cons (ev_var rfl) (ea_cons (ev_var rfl) ea_nil))))) ?_
      rw [hbs]
      rintro vs H3 e3 ⟨b, r, rfl, hb3, rfl⟩
      refine ⟨b, bs, rfl, hb3, evb.ex e3, by omega, fun D ad p H4 nd hD hp e4 h4 hA => hR p (D.map fun a => (ad a, a)) H4 ⟨?_, ?_, ?_, ?_, ?_, none, none, rfl, (e2.trans e3).trans e4, ?_⟩⟩
      · rw [List.map_map, show ((fun x : Addr × (Nat × Nat) => x.2) ∘ fun a => (ad a, a)) = id from rfl, List.map_id]
        exact nd
      · intro a
        rw [List.map_map, show ((fun x : Addr × (Nat × Nat) => x.2) ∘ fun a => (ad a, a)) = id from rfl, List.map_id]
        exact hD a
      · intro z
        rw [z, e3 _ _ h2] at hp
        cases hp
      · rw [h4, List.map_map]
        rfl
      · intro x hx
        obtain ⟨a, ha, rfl⟩ := List.mem_map.mp hx
        refine ⟨fun z => ?_, (hA a ha).2⟩
        have := (hA a ha).1
        rw [show ad a = t from z, e3 _ _ h2] at this
        cases this
      · rw [(e3.trans e4) _ _ h2, rep_tab, List.map_map]
        rfl
    · rintro p ys j y σ' H' hy ⟨nd, hD, pt, hp, hA, v, u, rfl, e3, h3⟩
      have my := List.mem_of_getElem? hy
      have nx : ∀ k, ((ys.take (j + 1)).map (·.2)).countP (fun a => decide (k < reachP ks (st.events.filter (Kp427.isBetween lo hi)) a)) = ((ys.take j).map (·.2)).countP (fun a => decide (k < reachP ks (st.events.filter (Kp427.isBetween lo hi)) a)) + if k < reachP ks (st.events.filter (Kp427.isBetween lo hi)) y.2 then 1 else 0 := fun k => by
        rw [take_map_snoc hy, List.countP_append, List.countP_cons, List.countP_nil, Nat.zero_add]
        by_cases hh : k < reachP ks (st.events.filter (Kp427.isBetween lo hi)) y.2
        · rw [if_pos hh, if_pos (decide_eq_true hh)]
        · rw [if_neg hh, if_neg (by rw [decide_eq_false hh]; exact Bool.false_ne_true)]
      simp only [nx]
      have rn : reachP ks (st.events.filter (Kp427.isBetween lo hi)) y.2 ≤ ks.length := matched_le _ _
      have rpy := rp y.2
      generalize reachP ks (st.events.filter (Kp427.isBetween lo hi)) y.2 = M at rn rpy ⊢
      generalize hC : (fun k => ((ys.take j).map (·.2)).countP fun a => decide (k < reachP ks (st.events.filter (Kp427.isBetween lo hi)) a)) = C at h3
      have S3 := S1.ex e3
      have evb3 : Evs c.E H' (byPair bs y.2) := fun z hz => by
        have : z ∈ bs := (List.mem_filter.mp hz).1
        rw [← hbs] at this
        exact S3.evs z (List.mem_filter.mp this).1
      refine s_forR1 (j := 6) (n := (M : Int)) (ea_cons (ev_callD (ea_cons (ev_var rfl) (ea_cons (ev_var rfl) ea_nil)) fun H4 e4 => ⟨y.1, q, byPair bs y.2, ks, rfl, e4 _ _ (hA y my).2, evb3.ex e4, e4 _ _ (e3 _ _ (e1 _ _ hq)), by rw [rpy]⟩) ea_nil) ⟨by omega, by omega⟩
        (fun s' σ' H4 => H4 p = some (.lst (ys.map fun x => V.ref x.1)) ∧ (∀ x ∈ ys, x.1 ≠ t ∧ H4 x.1 = some (.lst (evV (byPair bs x.2)))) ∧ ∃ u, σ' = [some (.ref a), some (nV lo), some (nV hi), some (.ref q), some (.ref t), some (.ref y.1), u] ∧ Ex H1 H4 ∧ H4 t = some (.lst (((List.range ks.length).map fun k => C k + if k < s' then 1 else 0).map nV)))
        (fun H4 e4 => ⟨e4 _ _ hp, fun x hx => ⟨(hA x hx).1, e4 _ _ (hA x hx).2⟩, u, rfl, e3.trans e4, (e4 _ _ h3).trans (by simp only [Nat.not_lt_zero, if_false, Nat.add_zero])⟩) ?_ ?_
      · rintro s' σ' H4 hs ⟨hp4, hA4, u, rfl, e4, h4⟩
        have hs' : s' < ks.length := by omega
        refine s_augL (n := s') (p := (C s' + if s' < s' then 1 else 0 : Nat)) (q := 1) h4 (ev_var rfl) (ev_var rfl) ?_ ev_c fun H5 e5 => ⟨?_, fun x hx => ⟨(hA4 x hx).1, ?_⟩, _, rfl, (e4.trans e5).mut ht, ?_⟩
        · rw [List.getElem?_map, tab_get hs']
          rfl
        · rw [upd_ne pt]
          exact e5 _ _ hp4
        · rw [upd_ne (hA4 x hx).1]
          exact e5 _ _ (hA4 x hx).2
        · rw [upd_same, ← tab_step C hs']
          rfl
      · rintro σ' H4 ⟨hp4, hA4, u, rfl, e4, h4⟩
        rw [Int.toNat_natCast] at h4
        subst hC
        exact ⟨nd, hD, pt, hp4, hA4, _, _, rfl, e4, h4⟩
    · rintro p ys σ' H' ⟨nd, hD, pt, hp, hA, v, u, rfl, e3, h3⟩
      rw [List.take_length] at h3
      have fe : (List.range ks.length).map (fun k => (ys.map (·.2)).countP fun a => decide (k < reachP ks (st.events.filter (Kp427.isBetween lo hi)) a)) = Kp427.funnel st lo hi ks := by
        show _ = (List.range ks.length).map _
        refine List.map_congr_left fun k _ => (funnel_at S.good lo hi ks nd (fun a => ?_) k).symm
        rw [hD a, ← bt]
        constructor
        · rintro ⟨e, he, rfl⟩
          exact ⟨e.2, List.mem_map.mpr ⟨e, he, rfl⟩, rfl⟩
        · rintro ⟨e, he, rfl⟩
          obtain ⟨x, hx, rfl⟩ := List.mem_map.mp he
          exact ⟨x, hx, rfl⟩
      rw [fe] at h3
      rw [fl] at k
      exact s_retL (el_cat (el_lst (ea_cons (ev_lenM (r := nV) (ev_var rfl) (sq_of (e3 _ _ (e1 _ _ hq)))) ea_nil) (by show 1 ≤ 100000; decide)) (ev_var rfl) h3 (by rw [List.length_map, fl]; show 1 + ks.length ≤ 100000; omega)) fun p H4 hp e4 h4 => k p H4 (fresh_back (e1.trans e3) hp) ((e1.trans e3).trans e4) h4
end
end Shelf
end

section
set_option maxHeartbeats 4000000
/-! sorted(xs, key=lambda item: (-scores[item], item)) -/
namespace Shelf
open PySem PySem.Spec PyProof.Rows L2 Evl LamX
/-- a greater score first, then the smaller item -/
def ordS (fs : List Nat) (a b : Nat) : Bool := decide (fs.getD b 0 < fs.getD a 0 ∨ (fs.getD a 0 = fs.getD b 0 ∧ a ≤ b))
def keyS (fs : List Nat) (n : Nat) : PyData := .tuple [.int (-(fs.getD n 0 : Int)), .int (n : Int)]
theorem le_keyS (fs : List Nat) : PySem.W.dataLe false (keyS fs) = ordS fs := by
  show PySem.W.dataLe false (fun n => PyData.tuple [.int (-(fs.getD n 0 : Int)), .int (n : Int)]) = _
  rw [PySem.W.dataLe_ii (β := Nat) (fun n => -(fs.getD n 0 : Int)) (fun n => (n : Int))]
  funext a b
  unfold ordS
  refine decide_eq_decide.mpr ?_
  omega
def tSortLam (T : List (Addr × Str)) (sl : Nat) (ta : TE) : TE := fun σ H Q => ta σ H fun x H1 => ∃ (l : Addr) (ns : List Nat) (sc : Addr) (fs : List Nat), x = .ref l ∧ H1 l = some (.lst (ns.map nV)) ∧ σ[sl]? = some (some (.ref sc)) ∧ H1 sc = some (.lst (fs.map nV)) ∧ (∀ n ∈ ns, n < fs.length) ∧ ns.length ≤ 1000 ∧ fs.length ≤ 1000 ∧ Tabs T H1 ∧
  ∀ H2 p, ExtN H1 H2 → Tabs T H2 → H2 p = none → Q (.ref p) (upd H2 p (.lst ((ns.mergeSort (ordS fs)).map nV)))
def isN (v : Value) (n : Nat) : Prop := ∃ t, v = .int (n : Int) t
theorem nat_each : ∀ {vs : List Value} {ns : List Nat}, Vals (ns.map nV) vs → PySem.W.EachIs isN vs ns
  | [], [], _ => .nil
  | v :: vs, n :: ns, .cons h t => .cons h (nat_each t)
theorem each_nat : ∀ {vs : List Value} {ns : List Nat}, PySem.W.EachIs isN vs ns → Vals (ns.map nV) vs
  | [], [], _ => .nil
  | v :: vs, n :: ns, .cons h t => .cons h (each_nat t)
/-- the lambda's scope: its parameter, one name captured -/
structure LamK (sc scope : Scope) (a x : Str) : Prop where
  kind : scope.kind = .function
  co : scope.isCoroutine = false
  gen : scope.isGenerator = false
  cell : ∀ y ∈ scope.names, y.2 ≠ .cell
  par : scope.names.lookup x = some .local
  cap : scope.names.lookup a = some .free
  free : ∀ y ∈ scope.names, y.2 = .free → sc.names.lookup y.1 = some .cell ∨ sc.names.lookup y.1 = some .free
abbrev lamBody (a x : Str) (p1 p2 p3 p4 p5 p6 : Pos) : Expr := .Tuple [.UnaryOp .USub (.Subscript (.Name a p1) (.Name x p2) p3) p4, .Name x p5] 0 p6
section
variable {prog : Program} {w : World} {A : Around} {s : Shared} {f c' ca sc : Addr} {q a x : Str} {params : Arguments} {scope esc : Scope} {cl : List (Str × Addr)} {pm ctv : Value} {p1 p2 p3 p4 p5 p6 : Pos} {its : Array Value} {k : Int} {n : Nat} {t tk0 : Tok}
/-- one turn of the key -/
theorem lam_turn (hd : A.depth < recursionLimit) (hf : s.heap.get? f = some (PySem.W.kla_obj "<lambda>" q params (lamBody a x p1 p2 p3 p4 p5 p6) scope cl pm c' ctv)) (hcr : s.heap.CodeRec (.ref c') q) (hlim : s.heap.NoLimit) (L : LamK esc scope a x) (hcl : cl.lookup a = some ca)
    (hbind : bindArgs (PySem.W.kla_fn "<lambda>" q params (lamBody a x p1 p2 p3 p4 p5 p6) scope cl pm (.ref c') ctv) ⟨[.int (n : Int) t], []⟩ = pure [(x, .int (n : Int) t)])
    (hca : s.heap.IsCell ca (some (.ref sc))) (hsc : s.heap.IsList sc its) (hit : its[n]? = some (.int k tk0)) (hn : n < 100000) (hdx : (x == ("__debug__" : Str)) = false) (hda : (a == ("__debug__" : Str)) = false) (hcd : (a == ("__classdict__" : Str)) = false) :
    wpAny (model prog w) A (call (.ref f) [.int (n : Int) t]) (PySem.W.KeyPure (.tuple [.int (-k), .int (n : Int)]) s) (fun _ _ => False) s := by
  refine wpAny_call (PySem.W.kla_callFunE hd hf rfl L.co L.gen rfl hcr ?_)
  rw [hbind]
  refine wpAny_pure (wpAny_newFunctionEnv L.cell (fun y hy => ?_) (fun h₁ hns hsb => ⟨hlim.fresh _ hsb, ?_⟩) L.kind)
  · rw [List.mem_singleton.mp hy]
    exact L.par
  show codeAny _ _ (.expr (lamBody a x p1 p2 p3 p4 p5 p6) (PySem.W.envX q scope s.heap.objs.size f (.ref c') cl)) _ _
  have kp : ∀ b o, s.heap.get? b = some o → h₁.get? b = some o := fun b o e => hsb.extBut b o (Nat.ne_of_lt (Heap.lt_size e)) (Heap.get?_push_of_some _ e)
  have ldx : ∀ {Q : Value → Shared → Prop} {E : Value → Shared → Prop} {pos : Pos} {A : Around} {tk : Nat}, Q (.int (n : Int) t) { s with heap := h₁, toks := tk } → wpAny (model prog w) A (eval (.Name x pos) (PySem.W.envX q scope s.heap.objs.size f (.ref c') cl)) Q E { s with heap := h₁, toks := tk } := fun {Q E pos A tk} hq =>
    wpAny_Name (wpAny_loadName_local L.kind L.par hns (by simp) hq) hdx
  have cell1 : h₁.IsCell ca (some (.ref sc)) := by
    obtain ⟨o, ho, r⟩ := hca
    exact ⟨o, kp _ _ ho, r⟩
  have list1 : h₁.IsList sc its := by
    obtain ⟨o, ho, r⟩ := hsc
    exact ⟨o, kp _ _ ho, r⟩
  refine PySem.W.kla_codeExpr (wpAny_Tuple_spliced (Calls.spliced_cons (UnaryOp_ (Subscript_ (wpAny_Name (wpAny_loadName_free L.kind L.cap hcl cell1 (ldx (item_listR list1 (Int.natCast_nonneg n) (by omega) (by rw [Int.toNat_natCast]; exact hit) (neg_int ?_) rfl)) hcd) hda)))))
  refine Calls.spliced_cons (ldx (Calls.spliced_nil ⟨by rw [sizeLine_eq]; show 2 ≤ 16777216; decide, ?_⟩))
  refine ⟨_, _, rfl, fun b o e => Heap.get?_push_of_some _ (kp b o e), ?_⟩
  exact Reads.tuple (as := []) (Heap.get?_push_size _ rfl) rfl rfl (.cons (as := []) (bs := []) (.int _ _) (.cons (as := []) (bs := []) (.int _ _) .nil))
end
section
variable {X : Cx} {T : List (Addr × Str)} {sl : Nat} {c P : Addr} {ea : Expr} {ta : TE} {params : Arguments} {scope : Scope} {a x : Str} {p p1 p2 p3 p4 p5 p6 lpos kpos pos : Pos}
theorem pe_sortLam (hc : X.calm = true) (hd : X.A.depth < recursionLimit) (hu : X.A.units + 100 < cLine) (TB : TabB X.base X.mg c P) (hcode : X.env.code = .ref c) (hmT : (P, X.env.qual ++ "<lambda>") ∈ T) (huT : ∀ p ∈ T, p.1 = P → p.2 = X.env.qual ++ "<lambda>") (L : LamK X.env.scope scope a x)
    (hN : X.N[sl]? = some a) (hva : X.env.scope.names.lookup a = some .cell) (hdef : defaultsOf params X.env = ([], [])) (hbind : ∀ (q : Str) (cl : List (Str × Addr)) (pm cv ctv v : Value), bindArgs (PySem.W.kla_fn "<lambda>" q params (lamBody a x p1 p2 p3 p4 p5 p6) scope cl pm cv ctv) ⟨[v], []⟩ = pure [(x, v)])
    (hdx : (x == ("__debug__" : Str)) = false) (hda : (a == ("__debug__" : Str)) = false) (hcd : (a == ("__classdict__" : Str)) = false) (ha : PE X ea ta) (hg : Gl X "sorted") (hm : X.mg "sorted" = none) (hv : bootBuiltins "sorted" = some (.builtin "sorted"))
    (he : starEach [ea] X.env = (false, eval ea X.env) :: starEach [] X.env := by rfl) :
    PE X (.Call (.Name "sorted" p) [ea] [⟨some "key", .Lambda params (lamBody a x p1 p2 p3 p4 p5 p6) scope lpos, kpos⟩] pos) (tSortLam T sl ta) := by
  refine ⟨fun pins s σ H Q I h => ?_⟩
  refine wpAny_Call_Name_kw (ld_blt I hg hm hv ?_)
  refine PyProof.Rows.callWith_kw ?_ (by rw [he]; rfl) (by rw [he]; rfl) rfl rfl
  rw [he]
  refine Calls.spliced_cons (thn (ha.run pins s σ H _ I h) fun u s1 ⟨y, H1, I1, ry, l, ns, sc, fs, ey, hl, hsl, hsc, hlt, hz, hz2, hT, q⟩ => Calls.spliced_nil ?_)
  subst ey
  cases (show u = Value.ref l from ry)
  show wpAny _ _ (evalAll [do let v ← eval (.Lambda params (lamBody a x p1 p2 p3 p4 p5 p6) scope lpos) X.env; standAt pos; pure v]) _ _ s1
  have hfree : ∀ y ∈ scope.names, y.2 = .free → ∃ c, X.env.cells.lookup y.1 = some c := fun y hy e => by
    rcases L.free y hy e with k | k
    · exact I.ok.has _ (.inl k)
    · exact I.ok.has _ (.inr k)
  refine wpAny_evalAll_cons (wpAny_bind (lam_make2 I1 TB hcode hmT huT hT hdef hfree fun f c' pm ctv H2 s2 I2 eN T2 hf hfn hfr hco => wpAny_bind (wpAny_standAt (wpAny_pure (wpAny_evalAll_nil ?_)))))
  show wpAny _ _ (call (.builtin "sorted") [.ref l] [(Str.ofString "key", .ref f)]) _ _ s2
  have hl2 := eN _ _ hl fun ps z => by cases z
  have hsc2 := eN _ _ hsc fun ps z => by cases z
  obtain ⟨its, rv, pl, _⟩ := I2.list (SqL.of hl2)
  obtain ⟨itf, rf, pf, _⟩ := I2.list (SqL.of hsc2)
  obtain ⟨m, hn, hlk⟩ := I2.loc
  obtain ⟨u2, ru, lk⟩ := hlk sl a (.ref sc) hN hsl (.inr (.inl hva))
  cases (show u2 = Value.ref sc from ru)
  have hcl : ∃ ca, X.env.cells.lookup a = some ca ∧ s2.heap.IsCell ca (some (.ref sc)) := by
    rcases lk with ⟨hk, _⟩ | ⟨_, ca, h1, h2⟩
    · have hk : X.env.scope.names.lookup a = some .local := hk
      rw [hva] at hk
      cases hk
    · exact ⟨ca, h1, h2⟩
  obtain ⟨ca, hca, hcell⟩ := hcl
  have hclo : (cloFrom X.env.cells scope.names []).lookup a = some ca := by
    have hy : (a, NameKind.free) ∈ scope.names := PySem.mem_of_lookup L.cap
    obtain ⟨c2, h2⟩ := mem_lookup (cloFrom_has (cells := X.env.cells) (acc := []) hy)
    rcases cloFrom_mem (PySem.mem_of_lookup h2) with hm2 | ⟨h3, h4⟩
    · cases hm2
    · rw [h2, h4, hca]
      rfl
  obtain ⟨⟨oc, vs2, t2, hoc, hdc, hvc⟩, _, _⟩ := I2.hok c' _ hco
  have lz : ns.length = its.length := by
    have := rv.length
    rw [List.length_map] at this
    exact this
  refine PySem.W.sorted_key_data (b := false) (R := isN) (keyS fs) pl.isList (nat_each rv) (PySem.W.AllAlike.of fun _ _ => by simp [keyS, PySem.W.alike, PySem.W.alikeAll]) (PySem.W.Sortable.tuples fun _ => ⟨_, _, rfl⟩) (by rw [sizeLine_eq]; omega) (fun n _ => ?_) (PyProof.Rows.ksk_s1 _ _) (fun _ => PyProof.Rows.ksk_l1 _ _) (fun _ => PyProof.Rows.ksk_t1 _ _)
    (fun v n hv hn2 h tk kp => ?_) fun out c2 h' tk kp hnone hD hlen eo => ?_
  · have hdp : (keyS fs n).depth = 1 := by simp [keyS, PyData.depth, PyData.depthAll]
    rw [hdp]
    omega
  · obtain ⟨t, rfl⟩ := hv
    have hnf := hlt n hn2
    have gf : (fs.map nV)[n]? = some (nV (fs.getD n 0)) := by
      rw [List.getElem?_map, List.getD_eq_getElem?_getD, List.getElem?_eq_getElem hnf]
      rfl
    obtain ⟨w', ew, rw'⟩ := rf.get gf
    obtain ⟨tk0, rfl⟩ := rw'
    have n5 : n < 100000 := by omega
    refine lam_turn (sc := sc) (s := { s2 with heap := h, toks := tk }) (A := X.A.in1.in1) hd (kp _ _ hf) ⟨c', oc, vs2, t2, rfl, kp _ _ hoc, hdc, hvc⟩ (I2.nolimit.keeps kp) L hclo (hbind _ _ _ _ _ _) ?_ ?_ (its := itf.toArray) (tk0 := tk0) (by simpa using ew) n5 hdx hda hcd
    · obtain ⟨o, ho, r⟩ := hcell
      exact ⟨o, kp _ _ ho, r⟩
    · obtain ⟨o, ho, r⟩ := pf.isList
      exact ⟨o, kp _ _ ho, r⟩
  · rw [le_keyS] at eo
    have fr : H2 (s2.heap.objs.size + 1) = none := I2.hok.fresh (Nat.le_succ _)
    have lm : ((ns.mergeSort (ordS fs)).map nV).length ≤ sizeLine := by
      rw [List.length_map, List.length_mergeSort, sizeLine_eq]
      omega
    exact ⟨.ref _, upd H2 _ (.lst ((ns.mergeSort (ordS fs)).map nV)), I2.laid (t' := tk) kp (Nat.le_succ _) ⟨lm, out, c2, each_nat eo, hD⟩, rfl, q H2 _ eN T2 fr⟩
end
end Shelf
end

section
set_option maxHeartbeats 4000000
namespace Shelf
open PySem PySem.Spec PyProof.Rows L2 Evl LamX
/-! ### the order -/
def ordK (key : Nat → Nat) (a b : Nat) : Prop := key b < key a ∨ (key a = key b ∧ a ≤ b)
theorem ordK_trans {key : Nat → Nat} {a b c : Nat} (h : ordK key a b) (g : ordK key b c) : ordK key a c := by
  unfold ordK at *
  omega
theorem ordK_total (key : Nat → Nat) (a b : Nat) : ordK key a b ∨ ordK key b a := by
  unfold ordK
  omega
theorem ordK_anti {key : Nat → Nat} {a b : Nat} (h : ordK key a b) (g : ordK key b a) : a = b := by
  unfold ordK at *
  omega
theorem ins_perm (key : Nat → Nat) (x : Nat) : ∀ l : List Nat, (Kp427.insertBy key x l).Perm (x :: l)
  | [] => List.Perm.refl _
  | y :: r => by
    rw [Kp427.insertBy]
    split
    · exact List.Perm.refl _
    · exact ((ins_perm key x r).cons y).trans (List.Perm.swap x y r)
theorem ins_ord (key : Nat → Nat) (x : Nat) : ∀ l : List Nat, l.Pairwise (ordK key) → (∀ y ∈ l, y ≤ x) → (Kp427.insertBy key x l).Pairwise (ordK key)
  | [], _, _ => List.pairwise_singleton _ _
  | y :: r, h, hl => by
    have h' := List.pairwise_cons.mp h
    rw [Kp427.insertBy]
    split
    · rename_i hk
      refine List.pairwise_cons.mpr ⟨fun z hz => ?_, h⟩
      rcases List.mem_cons.mp hz with e | hz
      · rw [e]
        exact Or.inl hk
      · exact ordK_trans (Or.inl hk) (h'.1 z hz)
    · rename_i hk
      refine List.pairwise_cons.mpr ⟨fun z hz => ?_, ins_ord key x r h'.2 fun z hz => hl z (List.mem_cons_of_mem _ hz)⟩
      rcases List.mem_cons.mp ((ins_perm key x r).mem_iff.mp hz) with e | hz
      · rw [e]
        have := hl y List.mem_cons_self
        unfold ordK
        omega
      · exact h'.1 z hz
theorem fold_perm (key : Nat → Nat) : ∀ (l m : List Nat), (l.foldl (fun m x => Kp427.insertBy key x m) m).Perm (m ++ l)
  | [], m => by rw [List.append_nil]; exact List.Perm.refl _
  | x :: l, m => by
    rw [List.foldl_cons]
    exact (fold_perm key l _).trans (((ins_perm key x m).append_right l).trans (List.perm_middle.symm))
theorem fold_ord (key : Nat → Nat) : ∀ (l m : List Nat), m.Pairwise (ordK key) → l.Pairwise (· < ·) → (∀ a ∈ m, ∀ b ∈ l, a ≤ b) → (l.foldl (fun m x => Kp427.insertBy key x m) m).Pairwise (ordK key)
  | [], m, h, _, _ => h
  | x :: l, m, h, hl, hm => by
    have hl' := List.pairwise_cons.mp hl
    rw [List.foldl_cons]
    refine fold_ord key l _ (ins_ord key x m h fun y hy => hm y hy x List.mem_cons_self) hl'.2 fun a ha b hb => ?_
    rcases List.mem_cons.mp ((ins_perm key x m).mem_iff.mp ha) with e | ha
    · rw [e]
      exact Nat.le_of_lt (hl'.1 b hb)
    · exact hm a ha b (List.mem_cons_of_mem _ hb)
theorem sort_perm (key : Nat → Nat) (l : List Nat) : (Kp427.sortBy key l).Perm l := fold_perm key l []
theorem sort_ord (key : Nat → Nat) {l : List Nat} (h : l.Pairwise (· < ·)) : (Kp427.sortBy key l).Pairwise (ordK key) := fold_ord key l [] List.Pairwise.nil h fun a ha => by cases ha
theorem ordS_iff {fs : List Nat} {a b : Nat} : ordS fs a b = true ↔ ordK (fun i => fs.getD i 0) a b := by
  unfold ordS ordK
  exact decide_eq_true_iff
theorem merge_ord (fs l : List Nat) : (l.mergeSort (ordS fs)).Pairwise (ordK fun i => fs.getD i 0) := by
  have h := List.pairwise_mergeSort (le := ordS fs) (fun a b c h g => ordS_iff.mpr (ordK_trans (ordS_iff.mp h) (ordS_iff.mp g))) (fun a b => by
    rw [Bool.or_eq_true]
    exact (ordK_total (fun i => fs.getD i 0) a b).imp ordS_iff.mpr ordS_iff.mpr) l
  exact h.imp fun h => ordS_iff.mp h
/-- a list sorted by the program, and the same by the document's insertion -/
theorem sorts_alike {key : Nat → Nat} {fs l m : List Nat} (hl : l.Pairwise (· < ·)) (hp : (l.filter fun i => decide (0 < key i)).Perm m) (hk : ∀ i ∈ m, fs.getD i 0 = key i) : (Kp427.sortBy key l).filter (fun i => decide (0 < key i)) = m.mergeSort (ordS fs) := by
  have p1 : ((Kp427.sortBy key l).filter fun i => decide (0 < key i)).Perm m := ((sort_perm key l).filter _).trans hp
  have p2 := List.mergeSort_perm m (ordS fs)
  refine List.Perm.eq_of_pairwise (le := ordK key) (fun a b _ _ h g => ordK_anti h g) (List.Pairwise.filter _ (sort_ord key hl)) ?_ (p1.trans p2.symm)
  refine List.Pairwise.imp_of_mem (fun {a b} ha hb h => ?_) (merge_ord fs m)
  have e1 := hk a (p2.mem_iff.mp ha)
  have e2 := hk b (p2.mem_iff.mp hb)
  unfold ordK at h ⊢
  simp only [e1, e2] at h
  exact h
/-! ### heaps whose tables of code objects grow -/
/-- new, or a table -/
def FrN (H : Hp) (p : Addr) : Prop := ∀ o, H p = some o → ∃ ps, o = .tbl ps
theorem FrN.of {H : Hp} {p : Addr} (h : H p = none) : FrN H p := fun o e => by
  rw [h] at e
  cases e
theorem FrN.back {H H' : Hp} {p : Addr} (e : ExtN H H') (h : H' p = none) : FrN H p := fun o ho => by
  cases o with
  | tbl ps => exact ⟨ps, rfl⟩
  | _ =>
    have := e p _ ho fun ps z => by cases z
    rw [h] at this
    cases this
theorem FrN.back' {H H' : Hp} {p : Addr} (e : ExtN H H') (h : FrN H' p) : FrN H p := fun o ho => by
  cases o with
  | tbl ps => exact ⟨ps, rfl⟩
  | _ => exact h _ (e p _ ho fun ps z => by cases z)
theorem ExtN.mut {H H' : Hp} {p : Addr} {o : HO} (e : ExtN H H') (h : FrN H p) : ExtN H (upd H' p o) := fun b u hu n => by
  by_cases hb : b = p
  · subst hb
    obtain ⟨ps, z⟩ := h u hu
    exact absurd z (n ps)
  · rw [upd_ne hb]
    exact e b u hu n
theorem ExtN.ex {H H' : Hp} (e : Ex H H') : ExtN H H' := ExtN.of e
theorem Tabs.mut {T : List (Addr × Str)} {H : Hp} {p : Addr} {o : HO} (t : Tabs T H) (h : (∃ u, H p = some u ∧ (∀ ps, u ≠ .tbl ps) ∧ ∀ φ, u ≠ .ext φ) ∨ H p = none) : Tabs T (upd H p o) := fun x hx => by
  obtain ⟨ps, h1, h2, h3⟩ := t x hx
  have ne : ∀ {b : Addr} {u : HO}, H b = some u → ((∃ ps, u = .tbl ps) ∨ ∃ φ, u = .ext φ) → b ≠ p := fun {b u} hb hu z => by
    subst z
    rcases h with ⟨u', e, n1, n2⟩ | e
    · rw [e] at hb
      cases hb
      rcases hu with ⟨ps, z⟩ | ⟨φ, z⟩
      · exact n1 ps z
      · exact n2 φ z
    · rw [e] at hb
      cases hb
  refine ⟨ps, by rw [upd_ne (ne h1 (Or.inl ⟨ps, rfl⟩))]; exact h1, h2, fun pos cv hc => ?_⟩
  obtain ⟨c, e1, e2⟩ := h3 pos cv hc
  exact ⟨c, e1, by rw [upd_ne (ne e2 (Or.inr ⟨_, rfl⟩))]; exact e2⟩
section
variable {c : Adr} {H H' : Hp} {a : Addr} {L : Lay} {s : Kp427.Store}
theorem EvAt.exN {CE x : Addr} {e : Kp427.Event} (k : ExtN H H') (h : EvAt CE H x e) : EvAt CE H' x e := by
  obtain ⟨dx, h⟩ := h
  exact ⟨dx, k _ _ h fun ps z => by cases z⟩
theorem Evs.exN {CE : Addr} {es : EvL'} (k : ExtN H H') (h : Evs CE H es) : Evs CE H' es := fun e he => (h e he).exN k
theorem ItAt.exN {t : Addr × Addr × Kp427.Item} (k : ExtN H H') (h : ItAt c H t) : ItAt c H' t := by
  obtain ⟨⟨dx, h1⟩, h2⟩ := h
  exact ⟨⟨dx, k _ _ h1 fun ps z => by cases z⟩, k _ _ h2 fun ps z => by cases z⟩
theorem lst_exN {p : Addr} {xs : List V} (k : ExtN H H') (h : H p = some (.lst xs)) : H' p = some (.lst xs) := k _ _ h fun ps z => by cases z
theorem StE.exN (k : ExtN H H') (h : StE c H a L s) : StE c H' a L s :=
  ⟨k _ _ h.ob fun ps z => (by cases z), lst_exN k h.wt, lst_exN k h.sh, fun t ht => (h.it t ht).exN k, h.its, lst_exN k h.ev, h.evs.exN k, h.eve, h.good⟩
theorem StL.exN (k : ExtN H H') (h : StL c H a L s) : StL c H' a L s := ⟨h.toStE.exN k, k _ _ h.mb fun ps z => (by cases z)⟩
end
/-- the table of the code objects made by the def «greatest» -/
def tabG (P : Addr) : List (Addr × Str) := [(P, ("greatest" : Str) ++ (".<locals>." : Str) ++ ("<lambda>" : Str))]
theorem tab_one (P : Addr) : ∀ p ∈ tabG P, p.1 = P → p.2 = ("greatest" : Str) ++ (".<locals>." : Str) ++ ("<lambda>" : Str) := fun p hp _ => by
  rw [List.mem_singleton.mp hp]
/-- a def whose own code object is known -/
structure DefC (K : PySem.W.Frag) (mg : Str → Option Value) (x : Str) (st : Stmt) (ps : List Str) (cd : Addr) : Prop where
  ex : ∃ (f : Addr) (fd : FuncData), Fun K x x st f fd ∧ mg x = some (.ref f) ∧ Binds K fd ps [] ∧ fd.code = .ref cd
theorem DefAt.ofC {P : Program} {w : World} {K : PySem.W.Frag} {mg : Str → Option Value} {base : Heap} {x : Str} {st : Stmt} {N ps : List Str} {k : Nat} {sp : Sp} {cd : Addr} (D0 : DefC K mg x st ps cd) (S : FnScope N ps (defScope st)) (len : ∀ vs H Q E, sp vs H Q E → vs.length = ps.length)
    (hbody : ∀ (f : Addr) (A : Around) (outer : List Env) (s : Shared) (H : Hp) (vs : List V) (Q : VK) (E : XK), Room k (A.deeper (envOfC x (defScope st) s.heap.objs.size f (.ref cd))) → sp vs H Q E →
      ∃ t, PSs (cxOf CX0 P w K mg base N x (defScope st) f (.ref cd) A outer s H E).nox (defBody st) t ∧ t { nx := fun _ H' => Q .non H', rt := Q } (start N vs) H) : DefAt P w K mg base (k + 1) x ps sp := by
  obtain ⟨f, fd, F, hm, hb, hcd⟩ := D0.ex
  have kp := F.kp
  obtain ⟨oc, od, kV, doc, pm, an, cdv, ct, osl, rfl, lk, hcc⟩ := F.ex
  obtain rfl : cdv = .ref cd := hcd
  refine ⟨f, _, fn_of lk hcc S len fun A outer s H vs Q E hr hsp => ?_, hm, kp, hb⟩
  obtain ⟨t, h, q⟩ := hbody f A outer s H vs Q E hr hsp
  exact ⟨t, h.nox, q⟩
def listedS (s : Kp427.Store) (fs : List Nat) : List Nat := (List.range fs.length).filter fun i => decide (0 < fs.getD i 0) && !(Kp427.itemAt s i).withdrawn
def grt (s : Kp427.Store) (fs : List Nat) (n : Nat) : List Nat := ((listedS s fs).mergeSort (ordS fs)).take n
theorem listed_len (s : Kp427.Store) (fs : List Nat) : (listedS s fs).length ≤ fs.length := by
  have h := List.length_filter_le (fun i => decide (0 < fs.getD i 0) && !(Kp427.itemAt s i).withdrawn) (List.range fs.length)
  rw [List.length_range] at h
  exact h
theorem grt_len (s : Kp427.Store) (fs : List Nat) (n : Nat) : (grt s fs n).length ≤ fs.length := by
  unfold grt
  rw [List.length_take, List.length_mergeSort]
  have := listed_len s fs
  omega
section
variable {K : PySem.W.Frag} {σ : L2.St} {H : Hp} {D : Ends} {T : List (Addr × Str)} {sl i j : Nat}
theorem s_retSort {l sc : Addr} {ns fs : List Nat} {n : Nat} (h1 : σ[i]? = some (some (.ref l))) (hl : H l = some (.lst (ns.map nV))) (h2 : σ[sl]? = some (some (.ref sc))) (hsc : H sc = some (.lst (fs.map nV))) (hlt : ∀ n ∈ ns, n < fs.length) (z1 : ns.length ≤ 1000) (z2 : fs.length ≤ 1000) (hT : Tabs T H) (h3 : σ[j]? = some (some (nV n)))
    (k : ∀ q H', FrN H q → ExtN H H' → Tabs T H' → H' q = some (.lst (((ns.mergeSort (ordS fs)).take n).map nV)) → D.rt (.ref q) H') : tRet (tSl (rSlL K) (tSortLam T sl (tVar i)) tNoPart (tPart (tVar j))) D σ H := by
  show tSortLam T sl (tVar i) σ H fun x H1 => tNoPart σ H1 fun l H2 => tPart (tVar j) σ H2 fun u H3 => rSlL K x l u H3 D.rt
  refine (ev_var h1 : Ev (tVar i) σ H (.ref l)) H (Ex.refl H) _ fun H2 e2 => ⟨l, ns, sc, fs, rfl, e2 _ _ hl, h2, e2 _ _ hsc, hlt, z1, z2, hT.ext e2, fun H3 p eN T3 hp => ?_⟩
  refine (eo_none : EvO tNoPart σ (upd H3 p (.lst ((ns.mergeSort (ordS fs)).map nV))) none) _ (Ex.refl _) _ fun H4 e4 => ?_
  refine (eo_some (ev_var h3) : EvO (tPart (tVar j)) σ H4 (some (n : Int))) _ (Ex.refl _) _ fun H5 e5 => ⟨p, _, rfl, sq_of (e5 _ _ (e4 _ _ upd_same)), fun q hq => ?_⟩
  have e35 : Ex H3 H5 := ((Ex.new hp).trans e4).trans e5
  have eH : ExtN H H5 := ((ExtN.ex e2).trans eN).trans (ExtN.ex e35)
  refine k q _ (FrN.back eH hq) (eH.trans (ExtN.ex (Ex.new hq))) ((T3.ext e35).ext (Ex.new hq)) ?_
  rw [upd_same, cut_take, ← List.map_take]
end
section
variable {P : Program} {w : World} {K : PySem.W.Frag} {mg : Str → Option Value} {base : Heap} {c : Adr} {PT cd : Addr}
abbrev s_greatest : Stmt := top 76
abbrev n_greatest : List Str := ["store", "scores", "count", "listed", "item"]
theorem sc_greatest : FnScope n_greatest ["store", "scores", "count"] (defScope s_greatest) := ⟨rfl, rfl, rfl, by decide +kernel, rfl, by decide +kernel, by decide +kernel⟩
def lamScope : Scope := { kind := .function, names := [("item", .local), ("scores", .free)], isGenerator := false, isCoroutine := false, more := [] }
theorem lk_greatest : LamK (defScope s_greatest) lamScope "scores" "item" := ⟨rfl, rfl, rfl, by decide +kernel, by decide +kernel, by decide +kernel, by decide +kernel⟩
def sp_greatest (c : Adr) (PT : Addr) : Sp := fun vs H Q _ => ∃ (a : Addr) (L : Lay) (s : Kp427.Store) (sc : Addr) (fs : List Nat) (n : Nat), vs = [.ref a, .ref sc, nV n] ∧ StE c H a L s ∧ H sc = some (.lst (fs.map nV)) ∧ fs.length = s.items.length ∧ Tabs (tabG PT) H ∧
  ∀ q H', FrN H q → ExtN H H' → Tabs (tabG PT) H' → H' q = some (.lst ((grt s fs n).map nV)) → Q (.ref q) H'
theorem d_greatest (T : Txt K mg c) (TB : TabB base mg cd PT) (D_is_available : DefAt P w K mg base 1 "is_available" ["store", "item"] (rdV (p_is_available c))) (D0 : DefC K mg "greatest" s_greatest ["store", "scores", "count"] cd) : DefAt P w K mg base 2 "greatest" ["store", "scores", "count"] (sp_greatest c PT) := by
  refine DefAt.ofC D0 sc_greatest (fun vs H Q E h => ?_) (fun f A outer s H vs Q E hr h => ?_)
  · obtain ⟨a, L, s, sc, fs, n, rfl, _⟩ := h
    rfl
  · obtain ⟨a, L, st, sc, fs, n, rfl, S, hsc, hfl, hT, k⟩ := h
    have hdp : (A.deeper (envOfC "greatest" (defScope s_greatest) s.heap.objs.size f (.ref cd))).depth < recursionLimit := by
      have := hr.dp
      omega
    have hun : (A.deeper (envOfC "greatest" (defScope s_greatest) s.heap.objs.size f (.ref cd))).units + 100 < cLine := by
      have := hr.un
      omega
    have l40 := S.good.ilen
    refine ⟨_, (pss_cons (ps_setLc (i := 3) rfl sc_greatest.nd rfl rfl (sw_true rfl rfl rfl (by decide +kernel)) (own := [("item", 4)]) (g := gName 4) (pi_range1 rfl T.b_range (pa_cons (pe_callB call_len_seq (by rfl) T.b_len PySem.boot_len (pa_cons (pv 1) pa_nil)) pa_nil)) (blkOk_by (own := [("item", 4)]) (N := n_greatest) (sc := defScope s_greatest) (by decide +kernel)) (fun _ _ _ _ _ => pg_name (i := 4) sc_greatest.nd rfl (Or.inl rfl)) (fun _ _ _ _ _ => (pts_one (PW.pt (pw_and (pt_cmpR op_gt (ixK (K := K) (pv 1) (pv 4)) pe_int (nomark _)) (pw_and1 (pt_val (pcD D_is_available hr (pa_cons (pv 0) (pa_cons (pv 4) pa_nil))))))))) (fun _ _ _ _ _ => (pv 4))) (pss_one (ps_ret (pe_slice sl_list (pe_sortLam (T := tabG PT) (sl := 1) rfl hdp hun TB rfl List.mem_cons_self (tab_one PT) lk_greatest rfl rfl rfl (fun _ _ _ _ _ _ => rfl) (by decide) (by decide) (by decide) (pv 3) rfl T.b_sorted (by decide +kernel)) po_none (po_some (pv 2)))))), ?_⟩
    refine q_asgL (el_compR (n := fs.length) (fun i => decide (0 < fs.getD i 0) && !(Kp427.itemAt st i).withdrawn) nV (ev_lenM (r := nV) (ev_var rfl) (sq_of hsc)) (by omega) (fun _ => rfl) (fun i H1 e hi => ?_) fun i H1 e hi _ => ev_var rfl) fun p H1 hp e1 h1 => ?_
    · have gi : fs[i]? = some (fs.getD i 0) := by
        rw [List.getD_eq_getElem?_getD, List.getElem?_eq_getElem hi]
        rfl
      exact et_and (et_test (ev_op (ev_ixM (r := nV) (ev_var rfl) (ev_var rfl) (sq_of (e _ _ hsc)) gi) (ev_n 0) rv_gtN)) fun _ => et_B (ev_isAvailable (S.ex e) (by omega) (ea_cons (ev_var rfl) (ea_cons (ev_var rfl) ea_nil)))
    · have ll := listed_len st fs
      exact s_retSort (ns := listedS st fs) rfl h1 rfl (e1 _ _ hsc) (fun n hn => List.mem_range.mp (List.mem_filter.mp hn).1) (by omega) (by omega) (hT.ext e1) rfl fun q H' fq eN T' hq => k q H' (FrN.back' (ExtN.ex e1) fq) ((ExtN.ex e1).trans eN) T' hq
end
end Shelf
end

section
set_option maxHeartbeats 4000000
namespace Shelf
open PySem PySem.Spec PyProof.Rows L2 Evl LamX
/-- a question that is answered by the help of greatest -/
def p_askN (c : Adr) (PT : Addr) (args : List V) (q : Kp427.Call) : Sp := fun vs H Q _ => ∃ (a : Addr) (L : Lay) (s : Kp427.Store), vs = .ref a :: args ∧ StL c H a L s ∧ Tabs (tabG PT) H ∧
  ∀ p H', FrN H p → ExtN H H' → Tabs (tabG PT) H' → H' p = some (.lst (ansV (Kp427.step (some s) q).2)) → Q (.ref p) H'
theorem avail_rise (s : Kp427.Store) : (Kp427.available s).Pairwise (· < ·) := List.Pairwise.filter _ List.pairwise_lt_range
theorem getD_tab {n i : Nat} {f : Nat → Nat} (h : i < n) : ((List.range n).map f).getD i 0 = f i := by
  rw [List.getD_eq_getElem?_getD, tab_get h]
  rfl
/-- what greatest gives for scores that are told by f -/
theorem grt_is (s : Kp427.Store) (f key : Nat → Nat) (n : Nat) {l : List Nat} (hl : l.Pairwise (· < ·)) (h1 : ∀ i, (i ∈ l ∧ 0 < key i) ↔ (i < s.items.length ∧ 0 < f i ∧ (Kp427.itemAt s i).withdrawn = false)) (h2 : ∀ i, i ∈ l → 0 < key i → f i = key i) :
    grt s ((List.range s.items.length).map f) n = ((Kp427.sortBy key l).filter fun i => decide (0 < key i)).take n := by
  unfold grt
  have nd : (l.filter fun i => decide (0 < key i)).Nodup := List.Pairwise.imp (fun {a b} h => Nat.ne_of_lt h) (List.Pairwise.filter _ hl)
  have ml : ∀ i, i ∈ listedS s ((List.range s.items.length).map f) ↔ (i < s.items.length ∧ 0 < f i ∧ (Kp427.itemAt s i).withdrawn = false) := fun i => by
    unfold listedS
    rw [List.mem_filter, List.mem_range, List.length_map, List.length_range]
    constructor
    · rintro ⟨hi, h⟩
      rw [getD_tab hi, Bool.and_eq_true, decide_eq_true_iff, Bool.not_eq_true'] at h
      exact ⟨hi, h⟩
    · rintro ⟨hi, h⟩
      refine ⟨hi, ?_⟩
      rw [getD_tab hi, Bool.and_eq_true, decide_eq_true_iff, Bool.not_eq_true']
      exact h
  have nd2 : (listedS s ((List.range s.items.length).map f)).Nodup := List.Pairwise.imp (fun {a b} h => Nat.ne_of_lt h) (List.Pairwise.filter _ List.pairwise_lt_range)
  rw [sorts_alike hl ((List.perm_ext_iff_of_nodup nd nd2).mpr fun i => ?_) fun i hi => ?_]
  · rw [List.mem_filter, decide_eq_true_iff, h1 i, ml i]
  · have := (ml i).mp hi
    rw [getD_tab this.1]
    exact h2 i ((h1 i).mpr this).1 ((h1 i).mpr this).2
theorem grt_le (s : Kp427.Store) (f : Nat → Nat) (n : Nat) : (grt s ((List.range s.items.length).map f) n).length ≤ s.items.length := by
  have := grt_len s ((List.range s.items.length).map f) n
  rw [List.length_map, List.length_range] at this
  exact this
theorem mem_avail {s : Kp427.Store} {i : Nat} : i ∈ Kp427.available s ↔ i < s.items.length ∧ (Kp427.itemAt s i).withdrawn = false := by
  unfold Kp427.available
  rw [List.mem_filter, List.mem_range, Bool.not_eq_true']
section
variable {P : Program} {w : World} {K : PySem.W.Frag} {mg : Str → Option Value} {base : Heap} {c : Adr} {PT cd : Addr}
/-- [len(top)] + top -/
theorem s_retTop {σ : L2.St} {H0 H : Hp} {D : Ends} {i : Nat} {p : Addr} {T : List (Addr × Str)} {xs : List Nat} (hσ : σ[i]? = some (some (.ref p))) (hp : H p = some (.lst (xs.map nV))) (hz : xs.length ≤ 1000) (e : ExtN H0 H) (hT : Tabs T H)
    (k : ∀ q H', FrN H0 q → ExtN H0 H' → Tabs T H' → H' q = some (.lst ((xs.length :: xs).map nV)) → D.rt (.ref q) H') : tRet (tOp rCat (tLst (tCons (tCB (rLenS K) (tCons (tVar i) tNil)) tNil)) (tVar i)) D σ H :=
  s_retL (el_cat (el_lst (ea_cons (ev_lenM (r := nV) (ev_var hσ) (sq_of hp)) ea_nil) (by show 1 ≤ 100000; decide)) (ev_var hσ) hp (by rw [List.length_map]; show 1 + xs.length ≤ 100000; omega)) fun q H' hq e2 h2 => k q H' (FrN.back' e (FrN.of hq)) (e.trans (ExtN.ex e2)) (hT.ext e2) h2
/-- a refusal -/
theorem s_refuse {σ : L2.St} {H0 H : Hp} {D : Ends} {T : List (Addr × Str)} {E : XK} {n : Int} (e : Ex H0 H) (hT : Tabs T H0) (k : ∀ q H', FrN H0 q → ExtN H0 H' → Tabs T H' → H' q = some (.lst [.int (-n)]) → D.rt (.ref q) H') : tRet (tCall (rdL (p_code n)) [] E tNil) D σ H :=
  s_retL (el_code n) fun q H' hq e2 h2 => k q H' (FrN.of (fresh_back e hq)) (ExtN.ex (e.trans e2)) (hT.ext (e.trans e2)) h2
abbrev s_top_items : Stmt := top 77
abbrev n_top_items : List Str := ["store", "time", "half_life", "count", "scores", "top", "item"]
theorem sc_top_items : FnScope n_top_items ["store", "time", "half_life", "count"] (defScope s_top_items) := ⟨rfl, rfl, rfl, by decide +kernel, rfl, by decide +kernel, by decide +kernel⟩
def sp_top_items (c : Adr) (PT : Addr) : Sp := fun vs H Q E => ∃ t h n, h < 2 ^ 64 ∧ p_askN c PT [nV t, nV h, nV n] (.topItems t h n) vs H Q E
theorem d_top_items (T : Txt K mg c) (D_time_and_span_fit : DefAt P w K mg base 1 "time_and_span_fit" ["time", "span"] (rdV p_time_and_span_fit)) (D_outside_limits : DefAt P w K mg base 1 "outside_limits" [] (rdL (p_code 22)))
    (D_scaled_popularity : DefAt P w K mg base 1 "scaled_popularity" ["store", "item", "time", "half_life"] (rdV (p_scaled_popularity c))) (D_greatest : DefAt P w K mg base 2 "greatest" ["store", "scores", "count"] (sp_greatest c PT))
    (D0 : Def0 K mg "top_items" s_top_items ["store", "time", "half_life", "count"]) : DefAt P w K mg base 3 "top_items" ["store", "time", "half_life", "count"] (sp_top_items c PT) := by
  refine DefAt.of D0 sc_top_items (fun vs H Q E h => ?_) (fun f cdv A outer s H vs Q E hr h => ?_)
  · obtain ⟨t, h, n, _, a, L, s, rfl, _⟩ := h
    rfl
  · obtain ⟨t, hl, n, h64, a, L, st, rfl, SL, hT, k⟩ := h
    have S := SL.toStE
    have l40 := S.good.ilen
    refine ⟨_, (pss_cons (ps_if (pt_not (pt_val (pcD D_time_and_span_fit (hr.mono (by decide)) (pa_cons (pv 1) (pa_cons (pv 2) pa_nil))))) (pss_one (ps_ret (pcD0 D_outside_limits (hr.mono (by decide))))) pss_nil) (pss_cons (ps_setLc (i := 4) rfl sc_top_items.nd rfl rfl (sw_true rfl rfl rfl (by decide +kernel)) (own := [("item", 6)]) (g := gName 6) (tt := tYes) (pi_range1 rfl T.b_range (pa_cons (pe_callB call_len_seq (by rfl) T.b_len PySem.boot_len (pa_cons (fK (K := K) (pv 0)) pa_nil)) pa_nil)) (blkOk_by (own := [("item", 6)]) (N := n_top_items) (sc := defScope s_top_items) (by decide +kernel)) (fun _ _ _ _ _ => pg_name (i := 6) sc_top_items.nd rfl (Or.inl rfl)) (fun _ _ _ _ _ => pts_nil) (fun _ _ _ _ _ => (pcD D_scaled_popularity (hr.mono (by decide)) (pa_cons (pv 0) (pa_cons (pv 6) (pa_cons (pv 1) (pa_cons (pv 2) pa_nil))))))) (pss_cons (ps_set (i := 5) sc_top_items.nd rfl (Or.inl rfl) (pcD D_greatest hr (pa_cons (pv 0) (pa_cons (pv 4) (pa_cons (pv 3) pa_nil))))) (pss_one (ps_ret (pe_op op_cat (pe_lst (pa_cons (pe_callB call_len_seq (by rfl) T.b_len PySem.boot_len (pa_cons (pv 5) pa_nil)) pa_nil)) (pv 5))))))), ?_⟩
    have es : (Kp427.step (some st) (.topItems t hl n)).2 = if (Kp427.validTime t && decide (1 ≤ hl)) = false then Kp427.single (-22) else Kp427.listResult (Kp427.topItems st t hl n) := rfl
    rw [es] at k
    refine q_when (b := !(Kp427.validTime t && decide (1 ≤ hl))) (et_not (et_B (ev_callD (ea_cons (ev_var rfl) (ea_cons (ev_var rfl) ea_nil)) fun H2 e2 => ⟨t, hl, rfl, rfl⟩))) (fun hb H1 e1 => ?_) fun hb H1 e1 => ?_
    · rw [Bool.not_eq_true'] at hb
      rw [if_pos hb] at k
      exact s_refuse e1 hT k
    rw [Bool.not_eq_false'] at hb
    rw [if_neg (by rw [hb]; decide), ansV_list] at k
    rw [Bool.and_eq_true] at hb
    have h1 : 0 < hl := of_decide_eq_true hb.2
    have S1 := S.ex e1
    refine q_asgL (xs := ((List.range st.items.length).map fun i => Kp427.popularity st t hl i).map nV) (el_is (el_compR (n := st.items.length) (fun _ => true) (fun i => nV (Kp427.popularity st t hl i)) (ev_lenX (ev_shelf T S1 (ev_var rfl)) (sq_of S1.sh) (by rw [List.length_map, S.ilen])) (by omega) (fun _ => rfl) (fun i H2 e2 hi => et_yes)
      fun i H2 e2 hi _ => ev_scaledPop (SL.ex (e1.trans e2)) h1 h64 (ea_cons (ev_var rfl) (ea_cons (ev_var rfl) (ea_cons (ev_var rfl) (ea_cons (ev_var rfl) ea_nil))))) (by rw [filter_true, List.map_map]; rfl)) fun sc H2 hsc e2 h2 => ?_
    have e12 := e1.trans e2
    refine q_asgSp (ea_cons (ev_var rfl) (ea_cons (ev_var rfl) (ea_cons (ev_var rfl) ea_nil))) fun H3 e3 => ⟨a, L, st, sc, (List.range st.items.length).map fun i => Kp427.popularity st t hl i, n, rfl, (S.ex e12).ex e3, e3 _ _ h2, by rw [List.length_map, List.length_range], hT.ext (e12.trans e3), fun p H4 fp eN T4 h4 => ?_⟩
    have ge := grt_le st (fun i => Kp427.popularity st t hl i) n
    have gi : grt st ((List.range st.items.length).map fun i => Kp427.popularity st t hl i) n = Kp427.topItems st t hl n := grt_is st _ (Kp427.popularity st t hl) n (avail_rise st) (fun i => by rw [mem_avail]; exact ⟨fun z => ⟨z.1.1, z.2, z.1.2⟩, fun z => ⟨⟨z.1, z.2.2⟩, z.2.1⟩⟩) fun i _ _ => rfl
    rw [gi] at h4 ge
    exact s_retTop rfl h4 (by omega) ((ExtN.ex (e12.trans e3)).trans eN) T4 k
/-! ### trending -/
def wsum (s : Kp427.Store) (l : List Kp427.Event) : Nat := (l.map fun e => s.weights.getD e.kind 0).sum
theorem wsum_snoc (s : Kp427.Store) (i : Nat) (l : List Kp427.Event) (e : Kp427.Event) : wsum s ((l ++ [e]).filter fun x => x.item == i) = wsum s (l.filter fun x => x.item == i) + if e.item = i then s.weights.getD e.kind 0 else 0 := by
  unfold wsum
  rw [List.filter_append, List.map_append, List.sum_append, List.filter_cons]
  by_cases h : e.item = i
  · rw [if_pos (by rw [h]; simp), if_pos h]
    simp
  · rw [if_neg (by simpa using h), if_neg h]
    simp
abbrev s_weight_of_each : Stmt := top 78
abbrev n_weight_of_each : List Str := ["store", "events", "total", "event"]
theorem sc_weight_of_each : FnScope n_weight_of_each ["store", "events"] (defScope s_weight_of_each) := ⟨rfl, rfl, rfl, by decide +kernel, rfl, by decide +kernel, by decide +kernel⟩
def p_weight_of_each (c : Adr) (vs : List V) (H : Hp) (xs : List V) : Prop := ∃ (a : Addr) (L : Lay) (s : Kp427.Store) (p : Addr) (es : EvL'), vs = [.ref a, .ref p] ∧ StE c H a L s ∧ H p = some (.lst (evV es)) ∧ (∀ e ∈ es, e ∈ L.evs) ∧ xs = ((List.range s.items.length).map fun i => wsum s ((es.map (·.2)).filter fun e => e.item == i)).map nV
theorem d_weight_of_each (T : Txt K mg c) (D0 : Def0 K mg "weight_of_each" s_weight_of_each ["store", "events"]) : DefAt P w K mg base 1 "weight_of_each" ["store", "events"] (rdL (p_weight_of_each c)) := by
  refine DefAt.of D0 sc_weight_of_each (fun vs H Q E h => ?_) (fun f cdv A outer s H vs Q E hr h => ?_)
  · obtain ⟨xs, ⟨a, L, s, p, es, rfl, _⟩, _⟩ := h
    rfl
  · obtain ⟨xs, ⟨a, L, st, p, es, rfl, S, hp, sub, rfl⟩, k⟩ := h
    have l40 := S.good.ilen
    refine ⟨_, (pss_cons (ps_set (i := 2) sc_weight_of_each.nd rfl (Or.inl rfl) (pe_op op_rep (pe_lst (pa_cons pe_int pa_nil)) (pe_callB call_len_seq (by rfl) T.b_len PySem.boot_len (pa_cons (fK (K := K) (pv 0)) pa_nil)))) (pss_cons (ps_for PassesOwn.never rfl (piK (K := K) (pv 1)) (pg_name (i := 3) sc_weight_of_each.nd rfl (Or.inl rfl)) (pss_one (ps_augS (pv 2) (fK (K := K) (pv 3)) get_list (ixK (K := K) (fK (K := K) (pv 0)) (fK (K := K) (pv 3))) ip_add set_list))) (pss_one (ps_ret (pv 2))))), ?_⟩
    refine q_asgL (el_rep (x := nV 0) (n := st.items.length) (el_lst (ea_cons (ev_n 0) ea_nil) (by show 1 ≤ 100000; decide)) (ev_lenX (ev_shelf T S (ev_var rfl)) (sq_of S.sh) (by rw [List.length_map, S.ilen])) (by omega)) fun t H1 ht e1 h1 => ?_
    refine q_forM (ys := es) (r := fun e => V.ref e.1) (ev_var rfl) (sq_of (e1 _ _ hp)) (fun j σ' H' => ∃ v, σ' = [some (.ref a), some (.ref p), some (.ref t), v] ∧ Ex H H' ∧ H' t = some (.lst (((List.range st.items.length).map fun i => wsum st (((es.take j).map (·.2)).filter fun e => e.item == i)).map nV)))
      (fun H2 e2 => ⟨none, rfl, e1.trans e2, (e2 _ _ h1).trans (by rw [rep_tab, List.map_map]; rfl)⟩) (fun j σ' H' ⟨v, _, e, _⟩ => sq_of (e _ _ hp)) ?_ ?_
    · rintro j y σ' H' hy ⟨v, rfl, e, h2⟩
      have my := sub y (List.mem_of_getElem? hy)
      have S2 := S.ex e
      have Sy := S2.evs y my
      have hi := S.good.eitem _ (S.mem my)
      refine s_augL (n := y.2.item) (p := (wsum st (((es.take j).map (·.2)).filter fun e => e.item == y.2.item) : Nat)) (q := (st.weights.getD y.2.kind 0 : Nat)) h2 (ev_var rfl) (ev_item T Sy (ev_var rfl)) ?_ (ev_ixM (r := nV) (ev_weights T S2 (ev_var rfl)) (ev_kind T Sy (ev_var rfl)) (sq_of S2.wt) (wt_get S.good (S.good.ekind _ (S.mem my)))) fun H3 e3 => ⟨_, rfl, (e.trans e3).mut ht, ?_⟩
      · rw [List.getElem?_map, tab_get hi]
        rfl
      · rw [upd_same]
        have ts := tab_set (n := st.items.length) (j := y.2.item) (f := fun i => wsum st (((es.take j).map (·.2)).filter fun e => e.item == i)) (g := fun i => wsum st (((es.take (j + 1)).map (·.2)).filter fun e => e.item == i)) fun i hne => by
          show wsum st (((es.take (j + 1)).map (·.2)).filter fun e => e.item == i) = _
          rw [take_map_snoc hy, wsum_snoc, if_neg fun z => hne z.symm, Nat.add_zero]
        rw [← ts, List.map_set, take_map_snoc hy, wsum_snoc, if_pos rfl]
        rfl
    · rintro σ' H' ⟨v, rfl, e, h2⟩
      rw [List.take_length] at h2
      exact s_ret (ev_var rfl) fun H3 e3 => k t H3 ht (e.trans e3) (e3 _ _ h2)
end
end Shelf
end

section
set_option maxHeartbeats 4000000
namespace Shelf
open PySem PySem.Spec PyProof.Rows L2 Evl LamX
/-! ### growths -/
def prodL (l : List Nat) : Nat := l.foldl (fun c w => c * (w + 1)) 1
theorem prodL_snoc (l : List Nat) (w : Nat) : prodL (l ++ [w]) = prodL l * (w + 1) := by
  unfold prodL
  rw [List.foldl_append]
  rfl
theorem prodL_acc : ∀ (l : List Nat) (c : Nat), l.foldl (fun c w => c * (w + 1)) c = c * prodL l
  | [], c => (Nat.mul_one c).symm
  | w :: l, c => by
    unfold prodL
    rw [List.foldl_cons, List.foldl_cons, prodL_acc l, prodL_acc l (1 * (w + 1)), Nat.one_mul, Nat.mul_assoc]
theorem prodL_cons (w : Nat) (l : List Nat) : prodL (w :: l) = (w + 1) * prodL l := by
  show (w :: l).foldl (fun c w => c * (w + 1)) 1 = _
  rw [List.foldl_cons, prodL_acc, Nat.one_mul]
theorem prodL_pos : ∀ l : List Nat, 0 < prodL l
  | [] => Nat.one_pos
  | w :: l => by
    rw [prodL_cons]
    exact Nat.mul_pos (Nat.succ_pos w) (prodL_pos l)
theorem prodL_dvd : ∀ (l : List Nat) (w : Nat), w ∈ l → (w + 1) ∣ prodL l
  | [], _, h => by cases h
  | v :: l, w, h => by
    rw [prodL_cons]
    rcases List.mem_cons.mp h with e | h
    · rw [e]
      exact Nat.dvd_mul_right _ _
    · exact Nat.dvd_trans (prodL_dvd l w h) (Nat.dvd_mul_left _ _)
theorem prodL_le : ∀ l : List Nat, (∀ w ∈ l, w ≤ 200000) → prodL l ≤ (2 ^ 18) ^ l.length
  | [], _ => Nat.le_refl 1
  | w :: l, h => by
    rw [prodL_cons, List.length_cons, Nat.pow_succ, Nat.mul_comm]
    have := h w List.mem_cons_self
    exact Nat.mul_le_mul (prodL_le l fun v hv => h v (List.mem_cons_of_mem _ hv)) (by omega)
theorem prodL_lt {l : List Nat} (h : ∀ w ∈ l, w ≤ 200000) (hl : l.length ≤ 40) : prodL l < 2 ^ 721 := by
  have h1 := prodL_le l h
  rw [← Nat.pow_mul] at h1
  exact Nat.lt_of_le_of_lt h1 (Nat.pow_lt_pow_right (by decide) (by omega))
/-- the scaled growth at i -/
def growN (ls es : List Nat) (i : Nat) : Nat := if 0 < ls.getD i 0 then (ls.getD i 0 + 1) * prodL es / (es.getD i 0 + 1) else 0
theorem grow_eq {ls es : List Nat} {i : Nat} (hi : i < es.length) (hp : 0 < ls.getD i 0) : ∃ c, prodL es = (es.getD i 0 + 1) * c ∧ growN ls es i = (ls.getD i 0 + 1) * c := by
  have m : es.getD i 0 ∈ es := by
    rw [List.getD_eq_getElem?_getD, List.getElem?_eq_getElem hi]
    exact List.getElem_mem hi
  obtain ⟨c, hc⟩ := prodL_dvd es _ m
  refine ⟨c, hc, ?_⟩
  unfold growN
  rw [if_pos hp, hc, ← Nat.mul_assoc, Nat.mul_comm (ls.getD i 0 + 1), Nat.mul_assoc]
  exact Nat.mul_div_cancel_left _ (Nat.succ_pos _)
theorem grow_pos {ls es : List Nat} {i : Nat} (hi : i < es.length) (hp : 0 < ls.getD i 0) : 0 < growN ls es i := by
  obtain ⟨c, h1, h2⟩ := grow_eq hi hp
  rw [h2]
  refine Nat.mul_pos (Nat.succ_pos _) (Nat.pos_of_ne_zero fun z => ?_)
  have := prodL_pos es
  rw [h1, z, Nat.mul_zero] at this
  exact absurd this (Nat.lt_irrefl 0)
theorem grow_lt {ls es : List Nat} {i j : Nat} (hi : i < es.length) (hj : j < es.length) (pi : 0 < ls.getD i 0) (pj : 0 < ls.getD j 0) :
    growN ls es j < growN ls es i ↔ (ls.getD j 0 + 1) * (es.getD i 0 + 1) < (ls.getD i 0 + 1) * (es.getD j 0 + 1) := by
  obtain ⟨ci, a1, a2⟩ := grow_eq hi pi
  obtain ⟨cj, b1, b2⟩ := grow_eq hj pj
  have hC := prodL_pos es
  rw [a2, b2]
  generalize ls.getD i 0 + 1 = li
  generalize ls.getD j 0 + 1 = lj
  generalize es.getD i 0 + 1 = ei at *
  generalize es.getD j 0 + 1 = ej at *
  generalize prodL es = C at *
  have eip : 0 < ei * ej := by
    refine Nat.mul_pos (Nat.pos_of_ne_zero fun z => ?_) (Nat.pos_of_ne_zero fun z => ?_)
    · rw [a1, z, Nat.zero_mul] at hC
      exact absurd hC (Nat.lt_irrefl 0)
    · rw [b1, z, Nat.zero_mul] at hC
      exact absurd hC (Nat.lt_irrefl 0)
  have e1 : (ei * ej) * (lj * cj) = C * (lj * ei) := by
    rw [b1]
    simp only [Nat.mul_comm, Nat.mul_left_comm, Nat.mul_assoc]
  have e2 : (ei * ej) * (li * ci) = C * (li * ej) := by
    rw [a1]
    simp only [Nat.mul_comm, Nat.mul_left_comm, Nat.mul_assoc]
  rw [← Nat.mul_lt_mul_left eip, e1, e2, Nat.mul_lt_mul_left hC]
section
variable {P : Program} {w : World} {K : PySem.W.Frag} {mg : Str → Option Value} {base : Heap} {c : Adr} {PT cd : Addr}
abbrev s_scaled_growths : Stmt := top 79
abbrev n_scaled_growths : List Str := ["last", "earlier", "common", "weight", "scores", "item", "growth"]
theorem sc_scaled_growths : FnScope n_scaled_growths ["last", "earlier"] (defScope s_scaled_growths) := ⟨rfl, rfl, rfl, by decide +kernel, rfl, by decide +kernel, by decide +kernel⟩
def p_scaled_growths (vs : List V) (H : Hp) (xs : List V) : Prop := ∃ (p q : Addr) (ls es : List Nat), vs = [.ref p, .ref q] ∧ H p = some (.lst (ls.map nV)) ∧ H q = some (.lst (es.map nV)) ∧ ls.length = es.length ∧ es.length ≤ 40 ∧ (∀ x ∈ ls, x ≤ 200000) ∧ (∀ x ∈ es, x ≤ 200000) ∧ xs = ((List.range es.length).map (growN ls es)).map nV
theorem getD_get {l : List Nat} {i : Nat} (h : i < l.length) : l[i]? = some (l.getD i 0) := by
  rw [List.getD_eq_getElem?_getD, List.getElem?_eq_getElem h]
  rfl
theorem getD_le {l : List Nat} {i B : Nat} (h : ∀ x ∈ l, x ≤ B) : l.getD i 0 ≤ B := by
  rw [List.getD_eq_getElem?_getD]
  by_cases hi : i < l.length
  · rw [List.getElem?_eq_getElem hi]
    exact h _ (List.getElem_mem hi)
  · rw [List.getElem?_eq_none (by omega)]
    exact Nat.zero_le _
theorem d_scaled_growths (T : Txt K mg c) (D0 : Def0 K mg "scaled_growths" s_scaled_growths ["last", "earlier"]) : DefAt P w K mg base 1 "scaled_growths" ["last", "earlier"] (rdL p_scaled_growths) := by
  refine DefAt.of D0 sc_scaled_growths (fun vs H Q E h => ?_) (fun f cdv A outer s H vs Q E hr h => ?_)
  · obtain ⟨xs, ⟨p, q, ls, es, rfl, _⟩, _⟩ := h
    rfl
  · obtain ⟨xs, ⟨p, q, ls, es, rfl, hp, hq, hl, h40, b1, b2, rfl⟩, k⟩ := h
    refine ⟨_, (pss_cons (ps_set (i := 2) sc_scaled_growths.nd rfl (Or.inl rfl) pe_int) (pss_cons (ps_for PassesOwn.never rfl (piK (K := K) (pv 1)) (pg_name (i := 3) sc_scaled_growths.nd rfl (Or.inl rfl)) (pss_one (ps_set (i := 2) sc_scaled_growths.nd rfl (Or.inl rfl) (pe_op op_mulW (pv 2) (pe_op op_add (pv 3) pe_int))))) (pss_cons (ps_set (i := 4) sc_scaled_growths.nd rfl (Or.inl rfl) (pe_lst pa_nil)) (pss_cons (ps_for PassesOwn.never rfl (pi_range1 rfl T.b_range (pa_cons (pe_callB call_len_seq (by rfl) T.b_len PySem.boot_len (pa_cons (pv 0) pa_nil)) pa_nil)) (pg_name (i := 5) sc_scaled_growths.nd rfl (Or.inl rfl)) (pss_cons (ps_set (i := 6) sc_scaled_growths.nd rfl (Or.inl rfl) (pe_op op_fdivW (pe_op op_mulW (pe_op op_add (ixK (K := K) (pv 0) (pv 5)) pe_int) (pv 2)) (pe_op op_add (ixK (K := K) (pv 1) (pv 5)) pe_int))) (pss_one (ps_expr (pe_bm PySem.F.plainAttrs_list PySem.F.slot_list_append PySem.F.type_list_append mt_append (pv 4) (pa_cons (pe_ifExp (pt_cmpR op_gt (ixK (K := K) (pv 0) (pv 5)) pe_int (nomark _)) (pv 6) pe_int) pa_nil)))))) (pss_one (ps_ret (pv 4))))))), ?_⟩
    refine q_asg (v := nV 1) (ev_n 1) fun H1 e1 => ?_
    refine q_forM (ys := es) (r := nV) (ev_var rfl) (sq_of (e1 _ _ hq)) (fun j σ' H' => ∃ v u x y, σ' = [some (.ref p), some (.ref q), some (nV (prodL (es.take j))), v, u, x, y] ∧ Ex H H') (fun H2 e2 => ⟨none, none, none, none, rfl, e1.trans e2⟩) (fun j σ' H' ⟨v, u, x, y, _, e⟩ => sq_of (e _ _ hq)) ?_ ?_
    · rintro j y σ' H' hy ⟨v, u, x, z, rfl, e⟩
      have my := b2 y (List.mem_of_getElem? hy)
      have pl : prodL (es.take j) < 2 ^ 721 := prodL_lt (fun w hw => b2 w (List.mem_of_mem_take hw)) (by rw [List.length_take]; omega)
      refine s_asg (v := nV (prodL (es.take j) * (y + 1))) (ev_op (ev_var rfl) (ev_op (ev_var rfl) (ev_n 1) rv_addN) (rv_mulN (p := 721) (q := 19) pl (by omega) (by decide) (by decide) (by decide))) fun H2 e2 => ⟨some (nV y), u, x, z, ?_, e.trans e2⟩
      rw [take_succ_get hy, prodL_snoc]
      rfl
    · rintro σ' H' ⟨v, u, x, z, rfl, e⟩
      rw [List.take_length]
      have pl : prodL es < 2 ^ 721 := prodL_lt b2 h40
      refine q_asgL (el_lst ea_nil (by show 0 ≤ 100000; decide)) fun t H2 ht e2 h2 => ?_
      have ht0 := fresh_back e ht
      refine q_forR1 (j := 5) (n := (es.length : Int)) (ea_cons (ev_is (ev_lenM (r := nV) (ev_var rfl) (sq_of (e2 _ _ (e _ _ hp)))) (by rw [hl])) ea_nil) ⟨by omega, by omega⟩
        (fun i σ' H3 => ∃ v u y, σ' = [some (.ref p), some (.ref q), some (nV (prodL es)), v, some (.ref t), u, y] ∧ Ex H H3 ∧ H3 t = some (.lst (((List.range i).map (growN ls es)).map nV))) (fun H3 e3 => ⟨_, _, _, rfl, (e.trans e2).trans e3, e3 _ _ h2⟩) ?_ ?_
      · rintro i σ' H3 hi ⟨v, u, y, rfl, e3, h3⟩
        have hi' : i < es.length := by omega
        have g1 := getD_get (l := ls) (i := i) (by omega)
        have g2 := getD_get hi'
        have d1 := getD_le (i := i) b1
        have d2 := getD_le (i := i) b2
        refine q_asg (v := nV ((ls.getD i 0 + 1) * prodL es / (es.getD i 0 + 1))) (ev_op (ev_op (ev_op (ev_ixM (r := nV) (ev_var rfl) (ev_var rfl) (sq_of (e3 _ _ hp)) g1) (ev_n 1) rv_addN) (ev_var rfl) (rv_mulN (p := 19) (q := 721) (by omega) pl (by decide) (by decide) (by decide)))
          (ev_op (ev_ixM (r := nV) (ev_var rfl) (ev_var rfl) (sq_of (e3 _ _ hq)) g2) (ev_n 1) rv_addN) (rv_divN (q := 19) (by omega) (Nat.succ_pos _) (by decide) (by decide))) fun H4 e4 => ?_
        refine s_app (v := nV (growN ls es i)) (e4 _ _ h3) (ev_var rfl) ?_ (by rw [List.length_map, List.length_map, List.length_range]; omega) fun H5 e5 => ⟨_, _, _, rfl, ((e3.trans e4).trans e5).mut ht0, ?_⟩
        · refine ev_if (b := decide (0 < ls.getD i 0)) (et_test (ev_op (ev_ixM (r := nV) (ev_var rfl) (ev_var rfl) (sq_of (e4 _ _ (e3 _ _ hp))) g1) (ev_n 0) rv_gtN)) (fun hb => ?_) fun hb => ?_
          · refine ev_is (ev_var rfl) ?_
            unfold growN
            rw [if_pos (of_decide_eq_true hb)]
          · refine ev_is (ev_n 0) ?_
            unfold growN
            rw [if_neg (of_decide_eq_false hb)]
        · rw [upd_same, List.range_succ, List.map_append, List.map_append]
          rfl
      · rintro σ' H3 ⟨v, u, y, rfl, e3, h3⟩
        rw [Int.toNat_natCast] at h3
        exact s_ret (ev_var rfl) fun H4 e4 => k t H4 ht0 (e3.trans e4) (e4 _ _ h3)
end
end Shelf
end

section
set_option maxHeartbeats 4000000
namespace Shelf
open PySem PySem.Spec PyProof.Rows L2 Evl LamX
/-! ### windows -/
def winL (s : Kp427.Store) (lo hi : Nat) : List Nat := (List.range s.items.length).map fun i => wsum s ((s.events.filter (Kp427.isBetween lo hi)).filter fun e => e.item == i)
theorem win_len (s : Kp427.Store) (lo hi : Nat) : (winL s lo hi).length = s.items.length := by
  unfold winL
  rw [List.length_map, List.length_range]
theorem win_le {s : Kp427.Store} (g : Good s) (lo hi : Nat) : ∀ x ∈ winL s lo hi, x ≤ 200000 := fun x hx => by
  obtain ⟨i, _, rfl⟩ := List.mem_map.mp hx
  unfold wsum
  have h1 := sum_le (fun e : Kp427.Event => s.weights.getD e.kind 0) 1000 ((s.events.filter (Kp427.isBetween lo hi)).filter fun e => e.item == i) fun e _ => wt_le g _
  have h2 := List.length_filter_le (fun e : Kp427.Event => e.item == i) (s.events.filter (Kp427.isBetween lo hi))
  have h3 := List.length_filter_le (Kp427.isBetween lo hi) s.events
  have h4 := g.elen
  omega
theorem win_get (s : Kp427.Store) (t w i : Nat) (hi : i < s.items.length) : (winL s (t - w) t).getD i 0 = (Kp427.windows s t w i).1 ∧ (winL s (t - 2 * w) (t - w)).getD i 0 = (Kp427.windows s t w i).2 := by
  unfold winL
  rw [getD_tab hi, getD_tab hi]
  unfold Kp427.windows wsum Kp427.eventsOn
  simp only
  constructor
  · rw [List.filter_filter, List.filter_filter]
    simp only [Bool.and_comm]
  · rw [List.filter_filter, List.filter_filter]
    simp only [Bool.and_comm]
section
variable {s : Kp427.Store} {t w : Nat}
theorem ins_grow (x : Nat) (hx : x < s.items.length) (px : 0 < (Kp427.windows s t w x).1) : ∀ m : List Nat, (∀ y ∈ m, y < s.items.length ∧ 0 < (Kp427.windows s t w y).1) → Kp427.insertGrowing s t w x m = Kp427.insertBy (growN (winL s (t - w) t) (winL s (t - 2 * w) (t - w))) x m
  | [], _ => rfl
  | y :: r, h => by
    have hy := h y List.mem_cons_self
    rw [Kp427.insertGrowing, Kp427.insertBy, ins_grow x hx px r fun z hz => h z (List.mem_cons_of_mem _ hz)]
    have e : Kp427.growsFaster (Kp427.windows s t w x) (Kp427.windows s t w y) = decide (growN (winL s (t - w) t) (winL s (t - 2 * w) (t - w)) y < growN (winL s (t - w) t) (winL s (t - 2 * w) (t - w)) x) := by
      unfold Kp427.growsFaster
      refine decide_eq_decide.mpr ?_
      have wx := win_get s t w x hx
      have wy := win_get s t w y hy.1
      rw [grow_lt (by rw [win_len]; exact hx) (by rw [win_len]; exact hy.1) (by rw [wx.1]; exact px) (by rw [wy.1]; exact hy.2), wx.1, wx.2, wy.1, wy.2]
    rw [e]
    by_cases hk : growN (winL s (t - w) t) (winL s (t - 2 * w) (t - w)) y < growN (winL s (t - w) t) (winL s (t - 2 * w) (t - w)) x
    · rw [if_pos (decide_eq_true hk), if_pos hk]
    · rw [if_neg (by rw [decide_eq_false hk]; exact Bool.false_ne_true), if_neg hk]
theorem fold_grow : ∀ (l m : List Nat), (∀ y ∈ l, y < s.items.length ∧ 0 < (Kp427.windows s t w y).1) → (∀ y ∈ m, y < s.items.length ∧ 0 < (Kp427.windows s t w y).1) →
    l.foldl (fun l x => Kp427.insertGrowing s t w x l) m = l.foldl (fun m x => Kp427.insertBy (growN (winL s (t - w) t) (winL s (t - 2 * w) (t - w))) x m) m
  | [], m, _, _ => rfl
  | x :: l, m, hl, hm => by
    have hx := hl x List.mem_cons_self
    rw [List.foldl_cons, List.foldl_cons, ins_grow x hx.1 hx.2 m hm]
    refine fold_grow l _ (fun y hy => hl y (List.mem_cons_of_mem _ hy)) fun y hy => ?_
    rcases List.mem_cons.mp ((ins_perm _ x m).mem_iff.mp hy) with e | h
    · rw [e]
      exact hx
    · exact hm y h
theorem trend_is (g : Good s) (n : Nat) : grt s ((List.range s.items.length).map (growN (winL s (t - w) t) (winL s (t - 2 * w) (t - w)))) n = Kp427.trending s t w n := by
  have kp : ∀ i, i < s.items.length → (0 < growN (winL s (t - w) t) (winL s (t - 2 * w) (t - w)) i ↔ 0 < (Kp427.windows s t w i).1) := fun i hi => by
    have wi := win_get s t w i hi
    rw [← wi.1]
    constructor
    · intro h
      unfold growN at h
      split at h
      · assumption
      · exact absurd h (Nat.lt_irrefl 0)
    · intro h
      exact grow_pos (by rw [win_len]; exact hi) h
  have mem : ∀ i, i ∈ (Kp427.available s).filter (fun i => decide (0 < (Kp427.windows s t w i).1)) ↔ (i < s.items.length ∧ (Kp427.itemAt s i).withdrawn = false) ∧ 0 < (Kp427.windows s t w i).1 := fun i => by
    rw [List.mem_filter, mem_avail, decide_eq_true_iff]
  rw [grt_is s _ (growN (winL s (t - w) t) (winL s (t - 2 * w) (t - w))) n (l := (Kp427.available s).filter fun i => decide (0 < (Kp427.windows s t w i).1)) (List.Pairwise.filter _ (avail_rise s)) (fun i => ?_) fun i _ _ => rfl]
  · unfold Kp427.trending
    rw [fold_grow _ [] (fun y hy => ⟨((mem y).mp hy).1.1, ((mem y).mp hy).2⟩) fun y hy => by cases hy]
    refine congrArg (List.take n) (List.filter_eq_self.mpr fun i hi => ?_)
    have hi := (mem i).mp ((sort_perm _ _).mem_iff.mp hi)
    exact decide_eq_true ((kp i hi.1.1).mpr hi.2)
  · rw [mem i]
    constructor
    · rintro ⟨⟨⟨h1, h2⟩, h3⟩, h4⟩
      exact ⟨h1, h4, h2⟩
    · rintro ⟨h1, h4, h2⟩
      exact ⟨⟨⟨h1, h2⟩, (kp i h1).mp h4⟩, h4⟩
end
section
variable {σ : L2.St} {H : Hp} {ta : TA} {D : Ends} {tz : TS} {i : Nat}
theorem q_asgSp' {sp : Sp} {E : XK} {Pr : List V → Hp → Prop} (h : EvA' ta σ H Pr) (k : ∀ vs H1, Ex H H1 → Pr vs H1 → sp vs H1 (fun v H2 => tz D (σ.set i (some v)) H2) E) : tSeq (tAsg (tCall sp [] E ta) (gName i)) tz D σ H := h H (Ex.refl H) _ fun vs H1 e p => by
  show sp (vs ++ []) H1 _ E
  rw [List.append_nil]
  exact k vs H1 e p
end
section
variable {P : Program} {w : World} {K : PySem.W.Frag} {mg : Str → Option Value} {base : Heap} {c : Adr} {PT cd : Addr}
abbrev s_trending : Stmt := top 80
abbrev n_trending : List Str := ["store", "time", "window", "count", "begin", "earlier_begin", "last", "earlier", "top"]
theorem sc_trending : FnScope n_trending ["store", "time", "window", "count"] (defScope s_trending) := ⟨rfl, rfl, rfl, by decide +kernel, rfl, by decide +kernel, by decide +kernel⟩
def sp_trending (c : Adr) (PT : Addr) : Sp := fun vs H Q E => ∃ t w n, w < 2 ^ 64 ∧ p_askN c PT [nV t, nV w, nV n] (.trending t w n) vs H Q E
theorem d_trending (T : Txt K mg c) (D_time_and_span_fit : DefAt P w K mg base 1 "time_and_span_fit" ["time", "span"] (rdV p_time_and_span_fit)) (D_outside_limits : DefAt P w K mg base 1 "outside_limits" [] (rdL (p_code 22)))
    (D_weight_of_each : DefAt P w K mg base 1 "weight_of_each" ["store", "events"] (rdL (p_weight_of_each c))) (D_events_between : DefAt P w K mg base 1 "events_between" ["store", "low", "high"] (rdL (p_events_between c)))
    (D_scaled_growths : DefAt P w K mg base 1 "scaled_growths" ["last", "earlier"] (rdL p_scaled_growths)) (D_greatest : DefAt P w K mg base 2 "greatest" ["store", "scores", "count"] (sp_greatest c PT))
    (D0 : Def0 K mg "trending" s_trending ["store", "time", "window", "count"]) : DefAt P w K mg base 3 "trending" ["store", "time", "window", "count"] (sp_trending c PT) := by
  refine DefAt.of D0 sc_trending (fun vs H Q E h => ?_) (fun f cdv A outer s H vs Q E hr h => ?_)
  · obtain ⟨t, h, n, _, a, L, s, rfl, _⟩ := h
    rfl
  · obtain ⟨t, wn, n, h64, a, L, st, rfl, SL, hT, k⟩ := h
    have S := SL.toStE
    have l40 := S.good.ilen
    refine ⟨_, (pss_cons (ps_if (pt_not (pt_val (pcD D_time_and_span_fit (hr.mono (by decide)) (pa_cons (pv 1) (pa_cons (pv 2) pa_nil))))) (pss_one (ps_ret (pcD0 D_outside_limits (hr.mono (by decide))))) pss_nil) (pss_cons (ps_set (i := 4) sc_trending.nd rfl (Or.inl rfl) (pe_callB (call_max2 rfl) (by rfl) T.b_max (by decide +kernel) (pa_cons (pe_op op_sub (pv 1) (pv 2)) (pa_cons pe_int pa_nil)))) (pss_cons (ps_set (i := 5) sc_trending.nd rfl (Or.inl rfl) (pe_callB (call_max2 rfl) (by rfl) T.b_max (by decide +kernel) (pa_cons (pe_op op_sub (pv 1) (pe_op op_mulW pe_int (pv 2))) (pa_cons pe_int pa_nil)))) (pss_cons (ps_set (i := 6) sc_trending.nd rfl (Or.inl rfl) (pcD D_weight_of_each (hr.mono (by decide)) (pa_cons (pv 0) (pa_cons (pcD D_events_between (hr.mono (by decide)) (pa_cons (pv 0) (pa_cons (pv 4) (pa_cons (pv 1) pa_nil)))) pa_nil)))) (pss_cons (ps_set (i := 7) sc_trending.nd rfl (Or.inl rfl) (pcD D_weight_of_each (hr.mono (by decide)) (pa_cons (pv 0) (pa_cons (pcD D_events_between (hr.mono (by decide)) (pa_cons (pv 0) (pa_cons (pv 5) (pa_cons (pv 4) pa_nil)))) pa_nil)))) (pss_cons (ps_set (i := 8) sc_trending.nd rfl (Or.inl rfl) (pcD D_greatest hr (pa_cons (pv 0) (pa_cons (pcD D_scaled_growths (hr.mono (by decide)) (pa_cons (pv 6) (pa_cons (pv 7) pa_nil))) (pa_cons (pv 3) pa_nil))))) (pss_one (ps_ret (pe_op op_cat (pe_lst (pa_cons (pe_callB call_len_seq (by rfl) T.b_len PySem.boot_len (pa_cons (pv 8) pa_nil)) pa_nil)) (pv 8)))))))))), ?_⟩
    have es : (Kp427.step (some st) (.trending t wn n)).2 = if (Kp427.validTime t && decide (1 ≤ wn)) = false then Kp427.single (-22) else Kp427.listResult (Kp427.trending st t wn n) := rfl
    rw [es] at k
    refine q_when (b := !(Kp427.validTime t && decide (1 ≤ wn))) (et_not (et_B (ev_callD (ea_cons (ev_var rfl) (ea_cons (ev_var rfl) ea_nil)) fun H2 e2 => ⟨t, wn, rfl, rfl⟩))) (fun hb H1 e1 => ?_) fun hb H1 e1 => ?_
    · rw [Bool.not_eq_true'] at hb
      rw [if_pos hb] at k
      exact s_refuse e1 hT k
    rw [Bool.not_eq_false'] at hb
    rw [if_neg (by rw [hb]; decide), ansV_list] at k
    refine q_asg (v := nV (t - wn)) (ev_is (ev_max2 (i := (t : Int) - (wn : Int)) (j := 0) (ev_op (ev_var rfl) (ev_var rfl) rv_I0) ev_c) (congrArg V.int (by split <;> omega))) fun H2 e2 => ?_
    refine q_asg (v := nV (t - 2 * wn)) (ev_is (ev_max2 (i := (t : Int) - ((2 * wn : Nat) : Int)) (j := 0) (ev_op (y := nV (2 * wn)) (ev_var rfl) (ev_op (ev_n 2) (ev_var rfl) (rv_mulN (p := 2) (q := 64) (by decide) h64 (by decide) (by decide) (by decide))) rv_I0) ev_c) (congrArg V.int (by split <;> omega))) fun H3 e3 => ?_
    have e13 := (e1.trans e2).trans e3
    have S3 := S.ex e13
    have win : ∀ {σ : L2.St} {H4 : Hp} {tl th : TE} {E1 E2 : XK} (lo hi : Nat), Ex H3 H4 → σ[0]? = some (some (.ref a)) → Ev tl σ H4 (nV lo) → Ev th σ H4 (nV hi) → EvL (tCall (rdL (p_weight_of_each c)) [] E1 (tCons (tVar 0) (tCons (tCall (rdL (p_events_between c)) [] E2 (tCons (tVar 0) (tCons tl (tCons th tNil)))) tNil))) σ H4 ((winL st lo hi).map nV) := fun {σ H4 tl th E1 E2} lo hi e4 h0 hl hh =>
      el_call' (ea_storeNew (ev_var h0) (el_between (S3.ex e4) (ea_cons (ev_var h0) (ea_cons hl (ea_cons hh ea_nil))))) fun vs H5 e5 ⟨p, e6, hp⟩ => by
        subst e6
        refine rdL_sp fun H6 e6 => ⟨a, L, st, p, _, rfl, (S3.ex e4).ex (e5.trans e6), e6 _ _ hp, fun e he => (List.mem_filter.mp he).1, ?_⟩
        rw [S.filt (Kp427.isBetween lo hi)]
        rfl
    refine q_asgL (win (t - wn) t (Ex.refl _) rfl (ev_var rfl) (ev_var rfl)) fun p H4 hp e4 h4 => ?_
    refine q_asgL (win (t - 2 * wn) (t - wn) e4 rfl (ev_var rfl) (ev_var rfl)) fun q H5 hq e5 h5 => ?_
    have e15 := (e13.trans e4).trans e5
    have S5 := S.ex e15
    refine q_asgSp' (ea_V (ev_var rfl) (ea_L (el_callD (xs := ((List.range st.items.length).map (growN (winL st (t - wn) t) (winL st (t - 2 * wn) (t - wn)))).map nV) (ea_cons (ev_var rfl) (ea_cons (ev_var rfl) ea_nil)) fun H6 e6 => ⟨p, q, _, _, rfl, e6 _ _ (e5 _ _ h4), e6 _ _ h5, by rw [win_len, win_len], by rw [win_len]; exact l40, win_le S.good _ _, win_le S.good _ _, by rw [win_len]⟩) (ea_V (ev_var rfl) ea_nil')))
      fun vs H6 e6 ⟨r1, ev1, x, r2, ev2, hx, r3, ev3, ev4⟩ => ?_
    subst ev4
    subst ev3
    subst ev2
    subst ev1
    refine ⟨a, L, st, x, _, n, rfl, S5.ex e6, hx, by rw [List.length_map, List.length_range], hT.ext (e15.trans e6), fun y H7 fy eN T7 h7 => ?_⟩
    have ge := grt_le st (growN (winL st (t - wn) t) (winL st (t - 2 * wn) (t - wn))) n
    rw [trend_is S.good n] at h7 ge
    exact s_retTop rfl h7 (by omega) ((ExtN.ex (e15.trans e6)).trans eN) T7 k
end
end Shelf
end

section
set_option maxHeartbeats 4000000
namespace Shelf
open PySem PySem.Spec PyProof.Rows L2 Evl LamX
/-! ### together -/
def hasI (i : Nat) (x : List Kp427.Event) : Bool := x.any fun e => e.item == i
theorem ses_contains (x : List Kp427.Event) (i : Nat) : (Kp427.sessionItems x).contains i = hasI i x := by
  unfold Kp427.sessionItems hasI
  rw [Bool.eq_iff_iff, List.contains_iff_mem, List.mem_eraseDups, List.mem_map, List.any_eq_true]
  simp only [beq_iff_eq]
def cntT (i : Nat) (l : List (List Kp427.Event)) (k : Nat) : Nat := l.countP fun x => hasI i x && hasI k x
theorem tog_is (s : Kp427.Store) (i k : Nat) : Kp427.together s i k = cntT i (allS s) k := by
  unfold Kp427.together cntT
  rw [List.countP_eq_length_filter]
  refine congrArg List.length (List.filter_congr fun x _ => ?_)
  rw [ses_contains, ses_contains]
theorem cntT_snoc (i k : Nat) (l : List (List Kp427.Event)) (x : List Kp427.Event) : cntT i (l ++ [x]) k = cntT i l k + if hasI i x = true ∧ hasI k x = true then 1 else 0 := by
  unfold cntT
  rw [List.countP_append, List.countP_cons, List.countP_nil, Nat.zero_add]
  by_cases h : hasI i x = true ∧ hasI k x = true
  · rw [if_pos h, if_pos (by rw [h.1, h.2]; rfl)]
  · rw [if_neg h, if_neg (by rw [Bool.and_eq_true]; exact h)]
def nearN (s : Kp427.Store) (i k : Nat) : Nat := if k = i then 0 else Kp427.together s i k
theorem near_is (s : Kp427.Store) (i n : Nat) : grt s ((List.range s.items.length).map (nearN s i)) n = Kp427.companions s i n := by
  have mem : ∀ k, k ∈ (Kp427.available s).filter (fun k => k != i) ↔ (k < s.items.length ∧ (Kp427.itemAt s k).withdrawn = false) ∧ k ≠ i := fun k => by
    rw [List.mem_filter, mem_avail, bne_iff_ne]
  refine grt_is s (nearN s i) (Kp427.together s i) n (l := (Kp427.available s).filter fun k => k != i) (List.Pairwise.filter _ (avail_rise s)) (fun k => ?_) fun k hk _ => ?_
  · rw [mem k]
    unfold nearN
    constructor
    · rintro ⟨⟨⟨h1, h2⟩, h3⟩, h4⟩
      rw [if_neg h3]
      exact ⟨h1, h4, h2⟩
    · rintro ⟨h1, h4, h2⟩
      by_cases h3 : k = i
      · rw [if_pos h3] at h4
        exact absurd h4 (Nat.lt_irrefl 0)
      · rw [if_neg h3] at h4
        exact ⟨⟨⟨h1, h2⟩, h3⟩, h4⟩
  · unfold nearN
    rw [if_neg ((mem k).mp hk).2]
theorem comp_mem {s : Kp427.Store} {i n k : Nat} (h : k ∈ Kp427.companions s i n) : k < s.items.length ∧ k ≠ i := by
  have h := (List.mem_filter.mp (List.mem_of_mem_take h)).1
  have h := List.mem_filter.mp ((sort_perm _ _).mem_iff.mp h)
  exact ⟨(mem_avail.mp h.1).1, by simpa using h.2⟩
section
variable {P : Program} {w : World} {K : PySem.W.Frag} {mg : Str → Option Value} {base : Heap} {c : Adr} {PT cd : Addr}
abbrev s_together : Stmt := top 85
abbrev n_together : List Str := ["store", "item", "count", "shared", "session", "top", "told", "other", "met"]
theorem sc_together : FnScope n_together ["store", "item", "count"] (defScope s_together) := ⟨rfl, rfl, rfl, by decide +kernel, rfl, by decide +kernel, by decide +kernel⟩
def sp_together (c : Adr) (PT : Addr) : Sp := fun vs H Q E => ∃ i n, p_askN c PT [nV i, nV n] (.together i n) vs H Q E
theorem d_together (T : Txt K mg c) (D_item_exists : DefAt P w K mg base 1 "item_exists" ["store", "item"] (rdV (p_item_exists c))) (D_not_found : DefAt P w K mg base 1 "not_found" [] (rdL (p_code 2)))
    (D_all_sessions : DefAt P w K mg base 3 "all_sessions" ["store"] (sp_all_sessions c)) (D_items_met : DefAt P w K mg base 1 "items_met" ["events"] (rdL (p_items_met c))) (D_greatest : DefAt P w K mg base 2 "greatest" ["store", "scores", "count"] (sp_greatest c PT))
    (D0 : Def0 K mg "together" s_together ["store", "item", "count"]) : DefAt P w K mg base 4 "together" ["store", "item", "count"] (sp_together c PT) := by
  refine DefAt.of D0 sc_together (fun vs H Q E h => ?_) (fun f cdv A outer s H vs Q E hr h => ?_)
  · obtain ⟨i, n, a, L, s, rfl, _⟩ := h
    rfl
  · obtain ⟨i, n, a, L, st, rfl, SL, hT, k⟩ := h
    have S := SL.toStE
    have l40 := S.good.ilen
    refine ⟨_, (pss_cons (ps_if (pt_not (pt_val (pcD D_item_exists (hr.mono (by decide)) (pa_cons (pv 0) (pa_cons (pv 1) pa_nil))))) (pss_one (ps_ret (pcD0 D_not_found (hr.mono (by decide))))) pss_nil) (pss_cons (ps_set (i := 3) sc_together.nd rfl (Or.inl rfl) (pe_op op_rep (pe_lst (pa_cons pe_int pa_nil)) (pe_callB call_len_seq (by rfl) T.b_len PySem.boot_len (pa_cons (fK (K := K) (pv 0)) pa_nil)))) (pss_cons (ps_for PassesOwn.never rfl (piK (K := K) (pcD D_all_sessions hr (pa_cons (pv 0) pa_nil))) (pg_name (i := 4) sc_together.nd rfl (Or.inl rfl)) (pss_cons (ps_set (i := 8) sc_together.nd rfl (Or.inl rfl) (pcD D_items_met (hr.mono (by decide)) (pa_cons (pv 4) pa_nil))) (pss_one (ps_if (inK (K := K) (pv 1) (pv 8)) (pss_one (ps_for PassesOwn.never rfl (piK (K := K) (pv 8)) (pg_name (i := 7) sc_together.nd rfl (Or.inl rfl)) (pss_one (ps_augS (pv 3) (pv 7) get_list pe_int ip_add set_list)))) pss_nil)))) (pss_cons (ps_asg pe_int (pg_sub (pv 3) (pv 1) set_list)) (pss_cons (ps_set (i := 5) sc_together.nd rfl (Or.inl rfl) (pcD D_greatest (hr.mono (by decide)) (pa_cons (pv 0) (pa_cons (pv 3) (pa_cons (pv 2) pa_nil))))) (pss_cons (ps_set (i := 6) sc_together.nd rfl (Or.inl rfl) (pe_lst (pa_cons (pe_callB call_len_seq (by rfl) T.b_len PySem.boot_len (pa_cons (pv 5) pa_nil)) pa_nil))) (pss_cons (ps_for PassesOwn.never rfl (piK (K := K) (pv 5)) (pg_name (i := 7) sc_together.nd rfl (Or.inl rfl)) (pss_one (ps_expr (pe_bm PySem.F.plainAttrs_list PySem.F.slot_list_extend PySem.F.type_list_extend mt_extend (pv 6) (pa_cons (pe_lst (pa_cons (pv 7) (pa_cons (ixK (K := K) (pv 3) (pv 7)) pa_nil))) pa_nil))))) (pss_one (ps_ret (pv 6)))))))))), ?_⟩
    have es : (Kp427.step (some st) (.together i n)).2 = if Kp427.hasItem st i then Kp427.natResult (Kp427.companions st i n).length ((Kp427.companions st i n).flatMap fun x => [x, Kp427.together st i x]) else Kp427.single (-2) := rfl
    rw [es] at k
    refine q_when (b := !Kp427.hasItem st i) (et_not (et_B (ev_hasItem S (ea_cons (ev_var rfl) (ea_cons (ev_var rfl) ea_nil))))) (fun hb H1 e1 => ?_) fun hb H1 e1 => ?_
    · rw [Bool.not_eq_true'] at hb
      rw [hb] at k
      exact s_refuse e1 hT k
    rw [Bool.not_eq_false'] at hb
    rw [hb, if_pos rfl, ansV_nat] at k
    have hi : i < st.items.length := of_decide_eq_true hb
    have S1 := S.ex e1
    refine q_asgL (el_rep (x := nV 0) (n := st.items.length) (el_lst (ea_cons (ev_n 0) ea_nil) (by show 1 ≤ 100000; decide)) (ev_lenX (ev_shelf T S1 (ev_var rfl)) (sq_of S1.sh) (by rw [List.length_map, S.ilen])) (by omega)) fun t H2 ht e2 h2 => ?_
    have e12 := e1.trans e2
    have ht0 := fresh_back e1 ht
    refine q_forSp (r := fun x : Addr × EvL' => V.ref x.1) (fun p ss j σ' H' => sesV ss = allS st ∧ p ≠ t ∧ (∀ x ∈ ss, x.1 ≠ t ∧ ∀ y ∈ x.2, y ∈ L.evs) ∧ SesAt H' p ss ∧ ∃ v1 v2 v3 v4 v5, σ' = [some (.ref a), some (nV i), some (nV n), some (.ref t), v1, v2, v3, v4, v5] ∧ Ex H H' ∧ H' t = some (.lst (((List.range st.items.length).map (cntT i ((allS st).take j))).map nV)))
      ?_ (fun p ss j σ' H' w => w.2.2.2.1.out) ?_ ?_
    · intro R hR
      refine c_call (ea_cons (ev_var rfl) ea_nil) fun H3 e3 => ⟨a, L, st, rfl, SL.ex (e12.trans e3), fun ss p H4 val fr hp e4 Sg => hR p ss H4 ⟨val, fun z => ?_, fun x hx => ⟨fun z => ?_, (fr x hx).2⟩, Sg, none, none, none, none, none, rfl, (e12.trans e3).trans e4, ?_⟩⟩
      · rw [z, e3 _ _ h2] at hp
        cases hp
      · have := (fr x hx).1
        rw [z, e3 _ _ h2] at this
        cases this
      · rw [(e3.trans e4) _ _ h2, rep_tab, List.map_map]
        rfl
    · rintro p ss j y σ' H' hy ⟨val, pt, fr, Sg, v1, v2, v3, v4, v5, rfl, e5, h5⟩
      have my := List.mem_of_getElem? hy
      have gv : (allS st)[j]? = some (y.2.map (·.2)) := by
        rw [← val, List.getElem?_map, hy]
        rfl
      have S5 := S.ex e5
      have ym := (fr y my).2
      have iml : ∀ e ∈ y.2, e.2.item < st.items.length := fun e he => S.good.eitem _ (S.mem (ym e he))
      have yl : y.2.length ≤ 200 := by
        have : (y.2.map (·.2)) ∈ allS st := List.mem_of_getElem? gv
        obtain ⟨m, _, hm⟩ := List.mem_flatMap.mp this
        have := sess_inner st.gap _ _ hm
        rw [List.length_map] at this
        exact Nat.le_trans this (Nat.le_trans (List.length_filter_le _ _) S.good.elen)
      have nx : ∀ k, cntT i ((allS st).take (j + 1)) k = cntT i ((allS st).take j) k + if hasI i (y.2.map (·.2)) = true ∧ hasI k (y.2.map (·.2)) = true then 1 else 0 := fun k => by
        rw [take_succ_get gv, cntT_snoc]
      have hm : ∀ k, k < st.items.length → (metN st.items.length (y.2.map (·.2))).contains k = hasI k (y.2.map (·.2)) := fun k hk => met_contains hk
      refine q_asgL (el_itemsMet st.items.length (ea_cons (ev_var rfl) ea_nil) (Sg.inn y my) (fun x hx => S5.evs x (ym x hx)) iml S.i63 (by omega)) fun q H6 hq e6 h6 => ?_
      have qt : q ≠ t := fun z => by
        rw [z, h5] at hq
        cases hq
      have h56 := e6 _ _ h5
      have mnd : (metN st.items.length (y.2.map (·.2))).Nodup := List.Pairwise.imp (fun {a b} h => Nat.ne_of_lt h) (List.Pairwise.filter _ List.pairwise_lt_range)
      refine s_when (b := (metN st.items.length (y.2.map (·.2))).contains i) (et_test (ev_isin (ev_var rfl) (ev_var rfl) (sq_of h6))) (fun hb2 H7 e7 => ?_) fun hb2 H7 e7 => ?_
      · rw [hm i hi] at hb2
        generalize hM : metN st.items.length (y.2.map (·.2)) = M at h6 hm mnd
        have Ml : ∀ k ∈ M, k < st.items.length := fun k hk => by
          rw [← hM] at hk
          exact (mem_met.mp hk).1
        refine s_forM (ys := M) (r := nV) (ev_var rfl) (sq_of (e7 _ _ h6)) (fun m σ' H8 => ∃ v, σ' = [some (.ref a), some (nV i), some (nV n), some (.ref t), some (.ref y.1), v2, v3, v, some (.ref q)] ∧ SesAt H8 p ss ∧ Ex H H8 ∧ H8 q = some (.lst (M.map nV)) ∧ H8 t = some (.lst (((List.range st.items.length).map fun k => cntT i ((allS st).take j) k + if k ∈ M.take m then 1 else 0).map nV)))
          (fun H8 e8 => ⟨_, rfl, Sg.ex ((e6.trans e7).trans e8), ((e5.trans e6).trans e7).trans e8, (e7.trans e8) _ _ h6, ((e7.trans e8) _ _ h56).trans (by simp only [List.take_zero, List.not_mem_nil, if_false, Nat.add_zero])⟩) (fun m σ' H8 ⟨v, _, _, _, h, _⟩ => sq_of h) ?_ ?_
        · rintro m o σ' H8 ho ⟨v, rfl, Sg8, e8, hq8, h8⟩
          have oM := List.mem_of_getElem? ho
          have on := Ml o oM
          have nin : ¬ o ∈ M.take m := fun z => by
            obtain ⟨m', hm'⟩ := List.mem_iff_getElem?.mp z
            have hlt : m' < m := by
              have := (List.getElem?_eq_some_iff.mp hm').1
              rw [List.length_take] at this
              omega
            rw [List.getElem?_take, if_pos hlt] at hm'
            have := (List.getElem?_eq_some_iff.mp ho)
            have h' := (List.getElem?_eq_some_iff.mp hm')
            obtain ⟨l1, g1⟩ := this
            obtain ⟨l2, g2⟩ := h'
            have := (List.pairwise_iff_getElem.mp mnd) m' m l2 l1 hlt
            exact this (g2.trans g1.symm)
          refine s_augL (n := o) (p := ((cntT i ((allS st).take j) o + if o ∈ M.take m then 1 else 0 : Nat) : Int)) (q := 1) h8 (ev_var rfl) (ev_var rfl) ?_ ev_c fun H9 e9 => ⟨_, rfl, ⟨?_, fun x hx => ?_⟩, (e8.trans e9).mut ht0, ?_, ?_⟩
          · rw [List.getElem?_map, tab_get on]
            rfl
          · rw [upd_ne pt]
            exact e9 _ _ Sg8.out
          · rw [upd_ne (fr x hx).1]
            exact e9 _ _ (Sg8.inn x hx)
          · rw [upd_ne qt]
            exact e9 _ _ hq8
          · rw [upd_same]
            have ts := tab_set (n := st.items.length) (j := o) (f := fun k => cntT i ((allS st).take j) k + if k ∈ M.take m then 1 else 0) (g := fun k => cntT i ((allS st).take j) k + if k ∈ M.take (m + 1) then 1 else 0) fun k hk => by
              show cntT i ((allS st).take j) k + (if k ∈ M.take (m + 1) then 1 else 0) = cntT i ((allS st).take j) k + if k ∈ M.take m then 1 else 0
              rw [take_succ_get ho]
              have : k ∈ M.take m ++ [o] ↔ k ∈ M.take m := by
                rw [List.mem_append, List.mem_singleton]
                exact ⟨fun z => z.elim id fun z => absurd z hk, Or.inl⟩
              by_cases hh : k ∈ M.take m
              · rw [if_pos hh, if_pos (this.mpr hh)]
              · rw [if_neg hh, if_neg fun z => hh (this.mp z)]
            rw [← ts, List.map_set, if_neg nin, if_pos (by rw [take_succ_get ho]; exact List.mem_append.mpr (Or.inr List.mem_cons_self))]
            rfl
        · rintro σ' H8 ⟨v, rfl, Sg8, e8, hq8, h8⟩
          refine ⟨val, pt, fr, Sg8, _, _, _, _, _, rfl, e8, ?_⟩
          rw [List.take_length] at h8
          rw [h8]
          refine congrArg (fun l : List Nat => some (HO.lst (l.map nV))) (List.map_congr_left fun k hk => ?_)
          have hk := List.mem_range.mp hk
          rw [nx k]
          have : k ∈ M ↔ hasI k (y.2.map (·.2)) = true := by rw [← hm k hk, List.contains_iff_mem]
          by_cases hh : k ∈ M
          · rw [if_pos hh, if_pos ⟨hb2, this.mp hh⟩]
          · rw [if_neg hh, if_neg fun z => hh (this.mpr z.2)]
      · rw [hm i hi] at hb2
        refine ⟨val, pt, fr, Sg.ex (e6.trans e7), _, _, _, _, _, rfl, (e5.trans e6).trans e7, ?_⟩
        rw [e7 _ _ h56]
        refine congrArg (fun l : List Nat => some (HO.lst (l.map nV))) (List.map_congr_left fun k hk => ?_)
        rw [nx k, if_neg (fun z => (by rw [hb2] at z; cases z.1)), Nat.add_zero]
    · rintro p ss σ' H' ⟨val, pt, fr, Sg, v1, v2, v3, v4, v5, rfl, e5, h5⟩
      have lss : ss.length = (allS st).length := by rw [← val, List.length_map]
      rw [lss, List.take_length] at h5
      refine q_setL (j := i) h5 (v := nV 0) (ev_n 0) (ev_var rfl) (ev_var rfl) (by rw [List.length_map, List.length_map, List.length_range]; exact hi) fun H6 e6 => ?_
      have e56 : Ex H (upd H6 t (.lst (((((List.range st.items.length).map (cntT i (allS st))).map nV)).set i (nV 0)))) := (e5.trans e6).mut ht0
      have fs : (((List.range st.items.length).map (cntT i (allS st))).map nV).set i (nV 0) = ((List.range st.items.length).map (nearN st i)).map nV := by
        rw [← List.map_set]
        have ts := tab_set (n := st.items.length) (j := i) (f := cntT i (allS st)) (g := nearN st i) fun k hk => by
          unfold nearN
          rw [if_neg hk, tog_is]
        rw [← ts]
        congr 2
        unfold nearN
        rw [if_pos rfl]
      rw [fs] at e56 ⊢
      have S6 := S.ex e56
      refine q_asgSp (ea_cons (ev_var rfl) (ea_cons (ev_var rfl) (ea_cons (ev_var rfl) ea_nil))) fun H7 e7 => ⟨a, L, st, t, (List.range st.items.length).map (nearN st i), n, rfl, S6.ex e7, e7 _ _ upd_same, by rw [List.length_map, List.length_range], hT.ext (e56.trans e7), fun g H8 fg eN T8 h8 => ?_⟩
      have h7t : H8 t = some (.lst (((List.range st.items.length).map (nearN st i)).map nV)) := lst_exN eN (e7 _ _ upd_same)
      have ge := grt_le st (nearN st i) n
      rw [near_is] at h8 ge
      have EN : ExtN H H8 := (ExtN.ex (e56.trans e7)).trans eN
      have cm : ∀ x ∈ Kp427.companions st i n, x < st.items.length ∧ x ≠ i := fun x hx => comp_mem hx
      have lN : ∀ m, (((Kp427.companions st i n).take m).flatMap fun x => [x, Kp427.together st i x]).length ≤ 100 := fun m => by
        have := flat_len (fun x => [x, Kp427.together st i x]) 2 ((Kp427.companions st i n).take m) fun _ _ => Nat.le_refl 2
        rw [List.length_take] at this
        omega
      generalize hC : Kp427.companions st i n = C at h8 ge k cm lN
      refine q_asgL (el_lst (ea_cons (ev_lenM (r := nV) (ev_var rfl) (sq_of h8)) ea_nil) (by show 1 ≤ 100000; decide)) fun u H9 hu e9 h9 => ?_
      refine q_forM (ys := C) (r := nV) (ev_var rfl) (sq_of (e9 _ _ h8)) (fun m σ' H' => ∃ v1 v2 v3, σ' = [some (.ref a), some (nV i), some (nV n), some (.ref t), v1, some (.ref g), some (.ref u), v2, v3] ∧ Ex H8 H' ∧ H' u = some (.lst ((C.length :: (C.take m).flatMap fun x => [x, Kp427.together st i x]).map nV)))
        (fun H' e' => ⟨_, _, _, rfl, e9.trans e', e' _ _ h9⟩) (fun m σ' H' ⟨v1, v2, v3, _, e, _⟩ => sq_of (e _ _ h8)) ?_ ?_
      · rintro m x σ' H' hx ⟨v1, v2, v3, rfl, e', h'⟩
        have xc := cm x (List.mem_of_getElem? hx)
        have gx : ((List.range st.items.length).map (nearN st i))[x]? = some (Kp427.together st i x) := by
          rw [tab_get xc.1]
          unfold nearN
          rw [if_neg xc.2]
        refine s_extL h' (ev_var rfl) (el_lst (ea_cons (ev_var rfl) (ea_cons (ev_ixM (r := nV) (ev_var rfl) (ev_var rfl) (sq_of (e' _ _ h7t)) gx) ea_nil)) (by show 2 ≤ 100000; decide)) ?_ fun H'' e'' => ⟨_, _, _, rfl, (e'.trans e'').mut hu, ?_⟩
        · have := lN m
          rw [List.length_map, List.length_cons]
          show _ + 2 ≤ 100000
          omega
        · rw [upd_same, flatM_take _ hx, ← List.cons_append]
          exact congrArg (fun l => some (HO.lst l)) (List.map_append (f := nV) (l₂ := [x, Kp427.together st i x])).symm
      · rintro σ' H' ⟨v1, v2, v3, rfl, e', h'⟩
        rw [List.take_length] at h'
        exact s_ret (ev_var rfl) fun H'' e'' => k u H'' (FrN.back EN hu) (EN.trans (ExtN.ex (e'.trans e''))) (T8.ext (e'.trans e'')) (e'' _ _ h')
end
end Shelf
end

section
set_option maxHeartbeats 4000000
namespace Shelf
open PySem PySem.Spec PyProof.Rows L2 Evl
theorem nodup_eq_len {α : Type} {l m : List α} (h1 : l.Nodup) (h2 : m.Nodup) (h : ∀ x, x ∈ l ↔ x ∈ m) : l.length = m.length :=
  Nat.le_antisymm (nodup_le l m h1 fun x hx => (h x).mp hx) (nodup_le m l h2 fun x hx => (h x).mpr hx)
section
variable {K : PySem.W.Frag} {w : World} {σ : L2.St} {H : Hp} {ta tb : TE}
/-- len(set(ints) & set(ints)) -/
theorem ev_inter {p q : Addr} {ns ms D : List Int} (ha : Ev ta σ H (.ref p)) (hp : H p = some (.lst (ns.map V.int))) (hb : Ev tb σ H (.ref q)) (hq : H q = some (.lst (ms.map V.int))) (z1 : ns.length ≤ 1000) (z2 : ms.length ≤ 1000) (nd : D.Nodup) (hm : ∀ k, k ∈ D ↔ k ∈ ns ∧ k ∈ ms) :
    Ev (tCB (rLenSet w) (tCons (tOp (rSetAnd w) (tCB (rSetOf K w) (tCons ta tNil)) (tCB (rSetOf K w) (tCons tb tNil))) tNil)) σ H (.int (D.length : Int)) := fun H1 e Q k =>
  ha H1 e _ fun H2 e2 => ⟨p, ns, rfl, sq_of ((e.trans e2) _ _ hp), z1, fun a n ⟨D1, nd1, len1, mem1⟩ na =>
    have eA : Ex H2 (upd H2 a (SetO w a (fun j => decide (j ∈ ns)) n)) := Ex.new na
    hb _ ((e.trans e2).trans eA) _ fun H3 e3 => ⟨q, ms, rfl, sq_of (((e.trans e2).trans (eA.trans e3)) _ _ hq), z2, fun b m ⟨D2, nd2, len2, mem2⟩ nb =>
      have eB : Ex H3 (upd H3 b (SetO w b (fun j => decide (j ∈ ms)) m)) := Ex.new nb
      have hA : H3 a = some (SetO w a (fun j => decide (j ∈ ns)) n) := e3 _ _ upd_same
      have ne : a ≠ b := ne_of_none hA nb
      ⟨a, b, _, _, n, m, rfl, rfl, ne, eB _ _ hA, upd_same, by
        have := nodup_le D1 ns nd1 fun x hx => (mem1 x).mp hx
        omega, by
        have := nodup_le D2 ms nd2 fun x hx => (mem2 x).mp hx
        omega, fun r D3 nd3 mem3 nr => ⟨r, _, _, rfl, upd_same, by
          have el : D3.length = D.length := nodup_eq_len nd3 nd fun x => by
            rw [mem3, hm, decide_eq_true_iff, decide_eq_true_iff]
          rw [el]
          exact k _ (((e2.trans eA).trans (e3.trans eB)).trans (Ex.new nr))⟩⟩⟩⟩
end
section
variable {P : Program} {w : World} {K : PySem.W.Frag} {mg : Str → Option Value} {base : Heap} {c : Adr}
abbrev s_split : Stmt := top 63
abbrev n_split : List Str := ["store", "time", "before", "others", "event"]
theorem sc_split : FnScope n_split ["store", "time"] (defScope s_split) := ⟨rfl, rfl, rfl, by decide +kernel, rfl, by decide +kernel, by decide +kernel⟩
def p_split (c : Adr) (vs : List V) (H : Hp) (xs : List V) : Prop := ∃ t, p_ask c [nV t] (.split t) vs H xs
theorem d_split (T : Txt K mg c) (D0 : Def0 K mg "split" s_split ["store", "time"]) : DefAt P w K mg base 1 "split" ["store", "time"] (rdL (p_split c)) := by
  refine DefAt.of D0 sc_split (fun vs H Q E h => ?_) (fun f cdv A outer s H vs Q E hr h => ?_)
  · obtain ⟨xs, ⟨t, a, L, s, rfl, _⟩, _⟩ := h
    rfl
  · obtain ⟨xs, ⟨t, a, L, st, rfl, SL, rfl⟩, k⟩ := h
    have S := SL.toStE
    refine ⟨_, (pss_cons (ps_setLc (i := 2) rfl sc_split.nd rfl rfl (sw_true rfl rfl rfl (by decide +kernel)) (own := [("event", 4)]) (g := gName 4) (piK (K := K) (fK (K := K) (pv 0))) (blkOk_by (own := [("event", 4)]) (N := n_split) (sc := defScope s_split) (by decide +kernel)) (fun _ _ _ _ _ => pg_name (i := 4) sc_split.nd rfl (Or.inl rfl)) (fun _ _ _ _ _ => (pts_one (pt_cmpR op_lt (fK (K := K) (pv 4)) (pv 1) (nomark _)))) (fun _ _ _ _ _ => (fK (K := K) (pv 4)))) (pss_cons (ps_setLc (i := 3) rfl sc_split.nd rfl rfl (sw_true rfl rfl rfl (by decide +kernel)) (own := [("event", 4)]) (g := gName 4) (piK (K := K) (fK (K := K) (pv 0))) (blkOk_by (own := [("event", 4)]) (N := n_split) (sc := defScope s_split) (by decide +kernel)) (fun _ _ _ _ _ => pg_name (i := 4) sc_split.nd rfl (Or.inl rfl)) (fun _ _ _ _ _ => (pts_one (pt_cmpR op_ge (fK (K := K) (pv 4)) (pv 1) (nomark _)))) (fun _ _ _ _ _ => (fK (K := K) (pv 4)))) (pss_one (ps_ret (pe_lst (pa_cons (pe_callB call_len_seq (by rfl) T.b_len PySem.boot_len (pa_cons (pv 2) pa_nil)) (pa_cons (pe_callB call_len_seq (by rfl) T.b_len PySem.boot_len (pa_cons (pv 3) pa_nil)) (pa_cons (pe_callB call_lenSet (by rfl) T.b_len PySem.boot_len (pa_cons (pe_op op_setand (pe_callTy (cr_setL rfl) (by rfl) T.b_set (by decide +kernel) (pa_cons (pv 2) pa_nil)) (pe_callTy (cr_setL rfl) (by rfl) T.b_set (by decide +kernel) (pa_cons (pv 3) pa_nil))) pa_nil)) pa_nil)))))))), ?_⟩
    have es : (Kp427.step (some st) (.split t)).2 = Kp427.natResult (st.events.countP fun e => decide (e.time < t)) [st.events.countP fun e => decide (t ≤ e.time), ((st.events.filter fun e => decide (t ≤ e.time)).map Kp427.Event.member).eraseDups.countP fun m => st.events.any fun e => e.member == m && decide (e.time < t)] := rfl
    rw [es, ansV_nat] at k
    have l200 := S.elen200
    have f1 := List.length_filter_le (fun e : Addr × Kp427.Event => decide (e.2.time < t)) L.evs
    have f2 := List.length_filter_le (fun e : Addr × Kp427.Event => decide (t ≤ e.2.time)) L.evs
    have S0 := S
    refine q_asgL (xs := (L.evs.filter fun e => decide (e.2.time < t)).map fun e => nV e.2.member) (el_comp (ys := L.evs) (r := fun e => V.ref e.1) (fun e => decide (e.2.time < t)) (fun e => nV e.2.member) (ev_events T S (ev_var rfl)) (sq_of S.ev) (by omega) (fun _ => rfl) ?_ ?_) fun p H1 hp e1 h1 => ?_
    · intro y H1 e1 my
      exact et_test (ev_op (ev_time T ((S.evs y my).ex e1) (ev_var rfl)) (ev_var rfl) rv_ltN)
    · intro y H1 e1 my _
      exact ev_member T ((S.evs y my).ex e1) (ev_var rfl)
    have S1 := S.ex e1
    refine q_asgL (xs := (L.evs.filter fun e => decide (t ≤ e.2.time)).map fun e => nV e.2.member) (el_comp (ys := L.evs) (r := fun e => V.ref e.1) (fun e => decide (t ≤ e.2.time)) (fun e => nV e.2.member) (ev_events T S1 (ev_var rfl)) (sq_of S1.ev) (by omega) (fun _ => rfl) ?_ ?_) fun q H2 hq e2 h2 => ?_
    · intro y H2 e2 my
      exact et_test (ev_op (ev_time T ((S1.evs y my).ex e2) (ev_var rfl)) (ev_var rfl) rv_geN)
    · intro y H2 e2 my _
      exact ev_member T ((S1.evs y my).ex e2) (ev_var rfl)
    have h1' := e2 _ _ h1
    have i1 : ((L.evs.filter fun e => decide (e.2.time < t)).map fun e => nV e.2.member) = ((L.evs.filter fun e => decide (e.2.time < t)).map fun e => (e.2.member : Int)).map V.int := by
      rw [List.map_map]
      rfl
    have i2 : ((L.evs.filter fun e => decide (t ≤ e.2.time)).map fun e => nV e.2.member) = ((L.evs.filter fun e => decide (t ≤ e.2.time)).map fun e => (e.2.member : Int)).map V.int := by
      rw [List.map_map]
      rfl
    have nd : (((((st.events.filter fun e => decide (t ≤ e.time)).map Kp427.Event.member).eraseDups.filter fun m => st.events.any fun e => e.member == m && decide (e.time < t))).map fun m : Nat => (m : Int)).Nodup := by
      have nd0 : ((((st.events.filter fun e => decide (t ≤ e.time)).map Kp427.Event.member).eraseDups.filter fun m => st.events.any fun e => e.member == m && decide (e.time < t))).Nodup := List.Pairwise.filter _ (show List.Pairwise _ _ from nodup_dups _ _ (Nat.le_refl _))
      unfold List.Nodup
      rw [List.pairwise_map]
      refine List.Pairwise.imp ?_ nd0
      intro a b h z
      exact h (Int.ofNat.inj z)
    have mem : ∀ k : Int, k ∈ (((((st.events.filter fun e => decide (t ≤ e.time)).map Kp427.Event.member).eraseDups.filter fun m => st.events.any fun e => e.member == m && decide (e.time < t))).map fun m : Nat => (m : Int)) ↔
        k ∈ ((L.evs.filter fun e => decide (e.2.time < t)).map fun e => (e.2.member : Int)) ∧ k ∈ ((L.evs.filter fun e => decide (t ≤ e.2.time)).map fun e => (e.2.member : Int)) := fun k => by
      simp only [List.mem_map, List.mem_filter, List.mem_eraseDups, List.any_eq_true, Bool.and_eq_true, beq_iff_eq, decide_eq_true_eq, S.eve]
      constructor
      · rintro ⟨m, ⟨⟨e, ⟨⟨x, hx, rfl⟩, ht⟩, rfl⟩, e', ⟨y, hy, rfl⟩, hm, ht'⟩, rfl⟩
        exact ⟨⟨y, ⟨hy, ht'⟩, by rw [hm]⟩, x, ⟨hx, ht⟩, rfl⟩
      · rintro ⟨⟨y, ⟨hy, ht'⟩, hk⟩, x, ⟨hx, ht⟩, rfl⟩
        exact ⟨x.2.member, ⟨⟨x.2, ⟨⟨x, hx, rfl⟩, ht⟩, rfl⟩, y.2, ⟨y, hy, rfl⟩, Int.ofNat.inj hk, ht'⟩, rfl⟩
    refine s_retL (el_lst (ea_cons (ev_lenM (r := fun e : Addr × Kp427.Event => nV e.2.member) (ev_var rfl) (sq_of h1')) (ea_cons (ev_lenM (r := fun e : Addr × Kp427.Event => nV e.2.member) (ev_var rfl) (sq_of h2))
      (ea_cons (ev_inter (p := p) (q := q) (ev_var rfl) (by rw [h1', i1]) (ev_var rfl) (by rw [h2, i2]) (by rw [List.length_map]; omega) (by rw [List.length_map]; omega) nd mem) ea_nil))) (by show 3 ≤ 100000; decide)) fun r H3 hr' e3 h3 => k r H3 (fresh_back (e1.trans e2) hr') ((e1.trans e2).trans e3) ?_
    rw [h3, List.length_map, List.countP_eq_length_filter, List.countP_eq_length_filter, List.countP_eq_length_filter]
    have c1 : (L.evs.filter fun e => decide (e.2.time < t)).length = (st.events.filter fun e => decide (e.time < t)).length := by
      rw [← S.filt (fun e => decide (e.time < t)), List.length_map]
    have c2 : (L.evs.filter fun e => decide (t ≤ e.2.time)).length = (st.events.filter fun e => decide (t ≤ e.time)).length := by
      rw [← S.filt (fun e => decide (t ≤ e.time)), List.length_map]
    rw [c1, c2]
    rfl
end
end Shelf
end

section
set_option maxHeartbeats 4000000
namespace Shelf
open PySem PySem.Spec PyProof.Rows L2 Evl LamX
/-! ### calls by number -/
inductive Enc : Nat → List Nat → Kp427.Call → Prop
  | create (a b : Nat) (l : List Nat) : Enc 0 (a :: b :: l) (.create a b l)
  | addItem (a b c : Nat) (l : List Nat) : Enc 1 (a :: b :: c :: l) (.addItem a b c l)
  | setPrice (a b : Nat) : Enc 2 [a, b] (.setPrice a b)
  | setWithdrawn (a b : Nat) : Enc 3 [a, b] (.setWithdrawn a b)
  | addMember (a b : Nat) : Enc 4 [a, b] (.addMember a b)
  | deleteMember (a : Nat) : Enc 5 [a] (.deleteMember a)
  | record (a b c d e : Nat) : Enc 6 [a, b, c, d, e] (.record a b c d e)
  | expire (a : Nat) : Enc 7 [a] (.expire a)
  | itemInfo (a : Nat) : Enc 8 [a] (.itemInfo a)
  | memberInfo (a : Nat) : Enc 9 [a] (.memberInfo a)
  | counts (a b c : Nat) : Enc 10 [a, b, c] (.counts a b c)
  | ratings (a : Nat) : Enc 11 [a] (.ratings a)
  | popularity (a b c : Nat) : Enc 12 [a, b, c] (.popularity a b c)
  | topItems (a b c : Nat) : Enc 13 [a, b, c] (.topItems a b c)
  | categories (a b : Nat) : Enc 14 [a, b] (.categories a b)
  | profile (a : Nat) : Enc 15 [a] (.profile a)
  | history (a b : Nat) : Enc 16 [a, b] (.history a b)
  | sessions (a : Nat) : Enc 17 [a] (.sessions a)
  | together (a b : Nat) : Enc 18 [a, b] (.together a b)
  | commonMembers (a b : Nat) : Enc 19 [a, b] (.commonMembers a b)
  | conversion (a : Nat) : Enc 20 [a] (.conversion a)
  | funnel (a b : Nat) (l : List Nat) : Enc 21 (a :: b :: l) (.funnel a b l)
  | trending (a b c : Nat) : Enc 22 [a, b, c] (.trending a b c)
  | unseen (a : Nat) : Enc 23 [a] (.unseen a)
  | opinions (a : Nat) : Enc 24 [a] (.opinions a)
  | split (a : Nat) : Enc 25 [a] (.split a)
  | byCreator (a b c : Nat) : Enc 26 [a, b, c] (.byCreator a b c)
  | digest : Enc 27 [] .digest
  | status : Enc 28 [] .status
theorem Enc.le {n : Nat} {l : List Nat} {q : Kp427.Call} (h : Enc n l q) : n ≤ 28 := by
  cases h <;> decide
/-- a question leaves the store as it is -/
theorem Enc.ask {n : Nat} {l : List Nat} {q : Kp427.Call} (h : Enc n l q) (h8 : 8 ≤ n) (s : Kp427.Store) : (Kp427.step (some s) q).1 = some s := by
  cases h <;> first | rfl | exact absurd h8 (by decide)
theorem Enc.none {n : Nat} {l : List Nat} {q : Kp427.Call} (h : Enc n l q) (h1 : 1 ≤ n) : Kp427.step none q = (none, Kp427.single (-11)) := by
  cases h <;> first | rfl | exact absurd h1 (by decide)
/-! ### slices -/
theorem cut_drop (xs : List V) (n : Nat) : cutV xs (some (n : Int)) none = xs.drop n := by
  unfold cutV HT.sIx
  simp only []
  split
  · omega
  · rw [Int.toNat_natCast]
    rcases Nat.le_total n xs.length with h | h
    · rw [Nat.min_eq_left h]
      exact List.take_of_length_le (by rw [List.length_drop]; exact Nat.le_refl _)
    · rw [Nat.min_eq_right h, List.drop_of_length_le (Nat.le_refl _), List.drop_of_length_le h]
      exact List.take_nil
theorem cut_mid (xs : List V) (i j : Nat) (h1 : i ≤ j) (h2 : j ≤ xs.length) : cutV xs (some (i : Int)) (some (j : Int)) = (xs.drop i).take (j - i) := by
  unfold cutV HT.sIx
  simp only []
  rw [if_neg (by omega), if_neg (by omega), Int.toNat_natCast, Int.toNat_natCast, Nat.min_eq_left h2, Nat.min_eq_left (Nat.le_trans h1 h2)]
section
variable {K : PySem.W.Frag} {σ : L2.St} {H H' : Hp} {ta : TA} {te : TE} {D : Ends} {sp : Sp} {E : XK}
theorem s_retSp {vs : List V} (h : EvA ta σ H vs) (k : ∀ H1, Ex H H1 → sp vs H1 D.rt E) : tRet (tCall sp [] E ta) D σ H := h H (Ex.refl H) _ fun H1 e => by
  show sp (vs ++ []) H1 D.rt E
  rw [List.append_nil]
  exact k H1 e
theorem s_retSp' {Pr : List V → Hp → Prop} (h : EvA' ta σ H Pr) (k : ∀ vs H1, Ex H H1 → Pr vs H1 → sp vs H1 D.rt E) : tRet (tCall sp [] E ta) D σ H := h H (Ex.refl H) _ fun vs H1 e p => by
  show sp (vs ++ []) H1 D.rt E
  rw [List.append_nil]
  exact k vs H1 e p
theorem ea_LN {tr : TA} {xs : List V} {Pr : List V → Hp → Prop} (h : EvL te σ H xs) (hr : EvA' tr σ H Pr) : EvA' (tCons te tr) σ H (fun vs H2 => ∃ p r, vs = .ref p :: r ∧ H p = none ∧ H2 p = some (.lst xs) ∧ Pr r H2) := fun H1 e Q q =>
  h H1 e _ fun p H2 hp e2 h2 => hr H2 (e.trans e2) _ fun vs H3 e3 pr => q _ H3 (e2.trans e3) ⟨p, vs, rfl, fresh_back e hp, e3 _ _ h2, pr⟩
/-- numbers[n:] -/
theorem el_from {q : Addr} {l : List Nat} {n : Nat} (h : Ev te σ H (.ref q)) (hq : H q = some (.lst (l.map nV))) : EvL (tSl (rSlL K) te (tPart (tC (.int (n : Int)))) tNoPart) σ H ((l.drop n).map nV) :=
  el_is (el_sl (lo := some (n : Int)) (hi := none) h (eo_some (ev_n n)) eo_none (sq_of hq)) (by rw [cut_drop, List.map_drop])
end
/-! ### what a part of the desk is handed -/
def own (a : Addr) (L : Lay) : List Addr := foot a L ++ lists L
/-- behind a change: the store that the specification says; what it holds is its own or new -/
structure Did2 (c : Adr) (H : Hp) (a : Addr) (L : Lay) (r : Kp427.State × Kp427.Ans) (p : Addr) (H' : Hp) : Prop where
  st : ∃ (L' : Lay) (s' : Kp427.Store), r.1 = some s' ∧ StL c H' a L' s' ∧ Apart L' ∧ ∀ b ∈ own a L', b ∈ own a L ∨ H b = none
  keep : ∀ b o, H b = some o → b ∉ foot a L → H' b = some o
  new : H p = none
  ans : H' p = some (.lst (ansV r.2))
theorem Did.two {c : Adr} {H0 H H' : Hp} {a p : Addr} {L : Lay} {cs : List Addr} {r : Kp427.State × Kp427.Ans} (d : Did c H a L cs r p H') (e : Ex H0 H) (hc : ∀ b ∈ cs, H0 b = none) : Did2 c H0 a L r p H' := by
  obtain ⟨⟨L', s', h1, h2, h3, h4, h5⟩, h6, h7, h8⟩ := d
  refine ⟨⟨L', s', h1, h2, h3, fun b hb => ?_⟩, fun b o q n => h6 b o (e _ _ q) n, fresh_back e h7, h8⟩
  rcases List.mem_append.mp hb with z | z
  · exact (h4 b z).imp (fun z => List.mem_append_left _ z) (fresh_back e)
  · exact (h5 b z).imp (fun z => List.mem_append_right _ z) (hc b)
theorem Did2.back {c : Adr} {H0 H H' : Hp} {a p : Addr} {L : Lay} {r : Kp427.State × Kp427.Ans} (d : Did2 c H a L r p H') (e : Ex H0 H) : Did2 c H0 a L r p H' := by
  obtain ⟨⟨L', s', h1, h2, h3, h4⟩, h6, h7, h8⟩ := d
  exact ⟨⟨L', s', h1, h2, h3, fun b hb => (h4 b hb).imp id (fresh_back e)⟩, fun b o q n => h6 b o (e _ _ q) n, fresh_back e h7, h8⟩
structure ChSt (c : Adr) (H : Hp) (a : Addr) (L : Lay) (s : Kp427.Store) (q : Addr) (l : List Nat) (call : Kp427.Call) (Q : VK) : Prop where
  sl : StL c H a L s
  ap : Apart L
  hq : H q = some (.lst (l.map nV))
  k : ∀ p H', Did2 c H a L (Kp427.step (some s) call) p H' → Q (.ref p) H'
structure AsSt (c : Adr) (PT : Addr) (H : Hp) (a : Addr) (L : Lay) (s : Kp427.Store) (q : Addr) (l : List Nat) (call : Kp427.Call) (Q : VK) : Prop where
  sl : StL c H a L s
  hq : H q = some (.lst (l.map nV))
  tb : Tabs (tabG PT) H
  lt : ∀ x ∈ l, x < 4294967296
  len : l.length ≤ 1000
  k : ∀ p H', FrN H p → ExtN H H' → Tabs (tabG PT) H' → H' p = some (.lst (ansV (Kp427.step (some s) call).2)) → Q (.ref p) H'
section
variable {c : Adr} {PT : Addr} {H H' : Hp} {a : Addr} {L : Lay} {s : Kp427.Store} {q : Addr} {l : List Nat} {call : Kp427.Call} {Q : VK} {K : PySem.W.Frag} {σ : L2.St} {ta : TA} {D : Ends} {E : XK}
theorem ChSt.ex (S : ChSt c H a L s q l call Q) (e : Ex H H') : ChSt c H' a L s q l call Q := ⟨S.sl.ex e, S.ap, e _ _ S.hq, fun p H1 d => S.k p H1 (d.back e)⟩
theorem AsSt.ex (S : AsSt c PT H a L s q l call Q) (e : Ex H H') : AsSt c PT H' a L s q l call Q :=
  ⟨S.sl.ex e, e _ _ S.hq, S.tb.ext e, S.lt, S.len, fun p H1 f x t h => S.k p H1 (FrN.back' (ExtN.ex e) f) ((ExtN.ex e).trans x) t h⟩
theorem AsSt.ret {Pre : List V → Hp → List V → Prop} {vs : List V} (S : AsSt c PT H a L s q l call D.rt) (h : EvA ta σ H vs) (hp : ∀ H1, StL c H1 a L s → Pre vs H1 (ansV (Kp427.step (some s) call).2)) : tRet (tCall (rdL Pre) [] E ta) D σ H :=
  s_retL (el_callD h fun H1 e => hp H1 (S.sl.ex e)) fun p H1 hp e h1 => S.k p H1 (FrN.of hp) (ExtN.ex e) (S.tb.ext e) h1
theorem AsSt.retN {args : List V} {sp : Sp} {vs : List V} (S : AsSt c PT H a L s q l call D.rt) (h : EvA ta σ H vs) (hv : vs = .ref a :: args) (hs : ∀ H1, p_askN c PT args call vs H1 D.rt E → sp vs H1 D.rt E) : tRet (tCall sp [] E ta) D σ H :=
  s_retSp h fun H1 e => hs H1 ⟨a, L, s, hv, (S.ex e).sl, (S.ex e).tb, (S.ex e).k⟩
theorem ChSt.ret {args : List V} {sp : Sp} {vs : List V} (S : ChSt c H a L s q l call D.rt) (h : EvA ta σ H vs) (hv : vs = .ref a :: args) (hs : ∀ H1, p_mut c args call vs H1 D.rt E → sp vs H1 D.rt E) : tRet (tCall sp [] E ta) D σ H :=
  s_retSp h fun H1 e => hs H1 ⟨a, L, s, hv, (S.ex e).sl, S.ap, fun p H2 d => (S.ex e).k p H2 (d.two (Ex.refl _) fun b hb => by cases hb)⟩
/-- numbers[n] -/
theorem AsSt.nx (S : AsSt c PT H a L s q l call Q) {te : TE} {n x : Nat} (h : Ev te σ H (.ref q)) (hx : l[n]? = some x) : Ev (tOp (rIxL K) te (tC (.int (n : Int)))) σ H (nV x) := ev_ixM (r := nV) h (ev_n n) (sq_of S.hq) hx
theorem ChSt.nx (S : ChSt c H a L s q l call Q) {te : TE} {n x : Nat} (h : Ev te σ H (.ref q)) (hx : l[n]? = some x) : Ev (tOp (rIxL K) te (tC (.int (n : Int)))) σ H (nV x) := ev_ixM (r := nV) h (ev_n n) (sq_of S.hq) hx
end
section
variable {P : Program} {w : World} {K : PySem.W.Frag} {mg : Str → Option Value} {base : Heap} {c : Adr} {PT : Addr}
abbrev s_answer_change : Stmt := top 111
abbrev n_answer_change : List Str := ["store", "number", "numbers"]
theorem sc_answer_change : FnScope n_answer_change ["store", "number", "numbers"] (defScope s_answer_change) := ⟨rfl, rfl, rfl, by decide +kernel, rfl, by decide +kernel, by decide +kernel⟩
def sp_change (c : Adr) : Sp := fun vs H Q _ => ∃ (a q : Addr) (L : Lay) (s : Kp427.Store) (n : Nat) (l : List Nat) (call : Kp427.Call), vs = [.ref a, nV n, .ref q] ∧ Enc n l call ∧ 1 ≤ n ∧ n ≤ 7 ∧ ChSt c H a L s q l call Q
theorem d_answer_change (T : Txt K mg c) (D_add_item : DefAt P w K mg base 3 "add_item" ["store", "creator", "price", "day", "categories"] (p_add_item c)) (D_set_price : DefAt P w K mg base 2 "set_price" ["store", "item", "price"] (p_set_price c)) (D_set_withdrawn : DefAt P w K mg base 2 "set_withdrawn" ["store", "item", "flag"] (p_set_withdrawn c))
    (D_add_member : DefAt P w K mg base 2 "add_member" ["store", "member", "day"] (p_add_member c)) (D_delete_member : DefAt P w K mg base 2 "delete_member" ["store", "member"] (p_delete_member c)) (D_record : DefAt P w K mg base 3 "record" ["store", "time", "member", "item", "kind", "value"] (p_record c))
    (D_expire : DefAt P w K mg base 2 "expire" ["store", "time"] (p_expire c)) (D0 : Def0 K mg "answer_change" s_answer_change ["store", "number", "numbers"]) : DefAt P w K mg base 4 "answer_change" ["store", "number", "numbers"] (sp_change c) := by
  refine DefAt.of D0 sc_answer_change (fun vs H Q E h => ?_) (fun f cdv A outer s H vs Q E hr h => ?_)
  · obtain ⟨a, q, L, s, n, l, call, rfl, _⟩ := h
    rfl
  · obtain ⟨a, q, L, st, n, l, call, rfl, he, h1, h7, S⟩ := h
    refine ⟨_, (pss_cons (ps_if (pt_cmpR op_eq (pv 1) pe_int (nomark _)) (pss_one (ps_ret (pcD D_add_item hr (pa_cons (pv 0) (pa_cons (ixK (K := K) (pv 2) pe_int) (pa_cons (ixK (K := K) (pv 2) pe_int) (pa_cons (ixK (K := K) (pv 2) pe_int) (pa_cons (pe_slice sl_list (pv 2) (po_some pe_int) po_none) pa_nil)))))))) pss_nil) (pss_cons (ps_if (pt_cmpR op_eq (pv 1) pe_int (nomark _)) (pss_one (ps_ret (pcD D_set_price (hr.mono (by decide)) (pa_cons (pv 0) (pa_cons (ixK (K := K) (pv 2) pe_int) (pa_cons (ixK (K := K) (pv 2) pe_int) pa_nil)))))) pss_nil) (pss_cons (ps_if (pt_cmpR op_eq (pv 1) pe_int (nomark _)) (pss_one (ps_ret (pcD D_set_withdrawn (hr.mono (by decide)) (pa_cons (pv 0) (pa_cons (ixK (K := K) (pv 2) pe_int) (pa_cons (ixK (K := K) (pv 2) pe_int) pa_nil)))))) pss_nil) (pss_cons (ps_if (pt_cmpR op_eq (pv 1) pe_int (nomark _)) (pss_one (ps_ret (pcD D_add_member (hr.mono (by decide)) (pa_cons (pv 0) (pa_cons (ixK (K := K) (pv 2) pe_int) (pa_cons (ixK (K := K) (pv 2) pe_int) pa_nil)))))) pss_nil) (pss_cons (ps_if (pt_cmpR op_eq (pv 1) pe_int (nomark _)) (pss_one (ps_ret (pcD D_delete_member (hr.mono (by decide)) (pa_cons (pv 0) (pa_cons (ixK (K := K) (pv 2) pe_int) pa_nil))))) pss_nil) (pss_cons (ps_if (pt_cmpR op_eq (pv 1) pe_int (nomark _)) (pss_one (ps_ret (pcD D_record hr (pa_cons (pv 0) (pa_cons (ixK (K := K) (pv 2) pe_int) (pa_cons (ixK (K := K) (pv 2) pe_int) (pa_cons (ixK (K := K) (pv 2) pe_int) (pa_cons (ixK (K := K) (pv 2) pe_int) (pa_cons (ixK (K := K) (pv 2) pe_int) pa_nil))))))))) pss_nil) (pss_one (ps_ret (pcD D_expire (hr.mono (by decide)) (pa_cons (pv 0) (pa_cons (ixK (K := K) (pv 2) pe_int) pa_nil))))))))))), ?_⟩
    refine q_when (b := n == 1) (et_test (ev_op (ev_var rfl) (ev_n 1) rv_eqN)) (fun hb H1 e1 => ?_) fun hb H1 e1 => ?_
    · obtain rfl := beq_iff_eq.mp hb
      replace S := S.ex e1
      cases he with
      | addItem x y z r =>
        refine s_retSp' (ea_V (ev_var rfl) (ea_V (S.nx (ev_var rfl) rfl) (ea_V (S.nx (ev_var rfl) rfl) (ea_V (S.nx (ev_var rfl) rfl) (ea_LN (el_from (n := 3) (ev_var rfl) S.hq) ea_nil'))))) fun vs H2 e2 hp => ?_
        obtain ⟨r1, rfl, r2, rfl, r3, rfl, r4, rfl, ca, r5, rfl, fr, hca, rfl⟩ := hp
        exact ⟨x, y, z, r, ca, a, L, st, rfl, (S.ex e2).sl, S.ap, hca, (ne_of_none S.sl.sh fr).symm, (ne_of_none S.sl.ev fr).symm, fun p H3 d => S.k p H3 (d.two e2 fun b hb => by rw [List.mem_singleton.mp hb]; exact fr)⟩
    replace S := S.ex e1
    refine q_when (b := n == 2) (et_test (ev_op (ev_var rfl) (ev_n 2) rv_eqN)) (fun hb H1 e1 => ?_) fun hb2 H1 e1 => ?_
    · obtain rfl := beq_iff_eq.mp hb
      replace S := S.ex e1
      cases he with
      | setPrice x y => exact S.ret (ea_cons (ev_var rfl) (ea_cons (S.nx (ev_var rfl) rfl) (ea_cons (S.nx (ev_var rfl) rfl) ea_nil))) rfl fun H1 h => ⟨x, y, h⟩
    replace S := S.ex e1
    refine q_when (b := n == 3) (et_test (ev_op (ev_var rfl) (ev_n 3) rv_eqN)) (fun hb H1 e1 => ?_) fun hb3 H1 e1 => ?_
    · obtain rfl := beq_iff_eq.mp hb
      replace S := S.ex e1
      cases he with
      | setWithdrawn x y => exact S.ret (ea_cons (ev_var rfl) (ea_cons (S.nx (ev_var rfl) rfl) (ea_cons (S.nx (ev_var rfl) rfl) ea_nil))) rfl fun H1 h => ⟨x, y, h⟩
    replace S := S.ex e1
    refine q_when (b := n == 4) (et_test (ev_op (ev_var rfl) (ev_n 4) rv_eqN)) (fun hb H1 e1 => ?_) fun hb4 H1 e1 => ?_
    · obtain rfl := beq_iff_eq.mp hb
      replace S := S.ex e1
      cases he with
      | addMember x y => exact S.ret (ea_cons (ev_var rfl) (ea_cons (S.nx (ev_var rfl) rfl) (ea_cons (S.nx (ev_var rfl) rfl) ea_nil))) rfl fun H1 h => ⟨x, y, h⟩
    replace S := S.ex e1
    refine q_when (b := n == 5) (et_test (ev_op (ev_var rfl) (ev_n 5) rv_eqN)) (fun hb H1 e1 => ?_) fun hb5 H1 e1 => ?_
    · obtain rfl := beq_iff_eq.mp hb
      replace S := S.ex e1
      cases he with
      | deleteMember x => exact S.ret (ea_cons (ev_var rfl) (ea_cons (S.nx (ev_var rfl) rfl) ea_nil)) rfl fun H1 h => ⟨x, h⟩
    replace S := S.ex e1
    refine q_when (b := n == 6) (et_test (ev_op (ev_var rfl) (ev_n 6) rv_eqN)) (fun hb H1 e1 => ?_) fun hb6 H1 e1 => ?_
    · obtain rfl := beq_iff_eq.mp hb
      replace S := S.ex e1
      cases he with
      | record x y z u v => exact S.ret (ea_cons (ev_var rfl) (ea_cons (S.nx (ev_var rfl) rfl) (ea_cons (S.nx (ev_var rfl) rfl) (ea_cons (S.nx (ev_var rfl) rfl) (ea_cons (S.nx (ev_var rfl) rfl) (ea_cons (S.nx (ev_var rfl) rfl) ea_nil)))))) rfl fun H1 h => ⟨x, y, z, u, v, h⟩
    replace S := S.ex e1
    have n7 : n = 7 := by
      have b1 := beq_eq_false_iff_ne.mp hb
      have b2 := beq_eq_false_iff_ne.mp hb2
      have b3 := beq_eq_false_iff_ne.mp hb3
      have b4 := beq_eq_false_iff_ne.mp hb4
      have b5 := beq_eq_false_iff_ne.mp hb5
      have b6 := beq_eq_false_iff_ne.mp hb6
      omega
    subst n7
    cases he with
    | expire x => exact S.ret (ea_cons (ev_var rfl) (ea_cons (S.nx (ev_var rfl) rfl) ea_nil)) rfl fun H1 h => ⟨x, h⟩
end
end Shelf
end

section
set_option maxHeartbeats 4000000
namespace Shelf
open PySem PySem.Spec PyProof.Rows L2 Evl LamX
section
variable {P : Program} {w : World} {K : PySem.W.Frag} {mg : Str → Option Value} {base : Heap} {c : Adr} {PT : Addr}
def sp_ask (c : Adr) (PT : Addr) (lo hi : Nat) : Sp := fun vs H Q _ => ∃ (a q : Addr) (L : Lay) (s : Kp427.Store) (n : Nat) (l : List Nat) (call : Kp427.Call), vs = [.ref a, nV n, .ref q] ∧ Enc n l call ∧ lo ≤ n ∧ n ≤ hi ∧ AsSt c PT H a L s q l call Q
abbrev s_answer_question : Stmt := top 112
abbrev n_answer_question : List Str := ["store", "number", "numbers"]
theorem sc_answer_question : FnScope n_answer_question ["store", "number", "numbers"] (defScope s_answer_question) := ⟨rfl, rfl, rfl, by decide +kernel, rfl, by decide +kernel, by decide +kernel⟩
theorem d_answer_question (T : Txt K mg c) (D_item_info : DefAt P w K mg base 2 "item_info" ["store", "item"] (rdL (p_item_info c))) (D_member_info : DefAt P w K mg base 2 "member_info" ["store", "member"] (rdL (p_member_info c))) (D_counts : DefAt P w K mg base 2 "counts" ["store", "item", "low", "high"] (rdL (p_counts c))) (D_ratings : DefAt P w K mg base 2 "ratings" ["store", "item"] (rdL (p_ratings c))) (D_popularity : DefAt P w K mg base 2 "popularity" ["store", "item", "time", "half_life"] (rdL (p_popularity c))) (D_top_items : DefAt P w K mg base 3 "top_items" ["store", "time", "half_life", "count"] (sp_top_items c PT)) (D_categories : DefAt P w K mg base 2 "categories" ["store", "low", "high"] (rdL (p_categories c)))
    (D0 : Def0 K mg "answer_question" s_answer_question ["store", "number", "numbers"]) : DefAt P w K mg base 4 "answer_question" ["store", "number", "numbers"] (sp_ask c PT 8 14) := by
  refine DefAt.of D0 sc_answer_question (fun vs H Q E h => ?_) (fun f cdv A outer s H vs Q E hr h => ?_)
  · obtain ⟨a, q, L, s, n, l, call, rfl, _⟩ := h
    rfl
  · obtain ⟨a, q, L, st, n, l, call, rfl, he, hlo, hhi, S⟩ := h
    refine ⟨_, (pss_cons (ps_if (pt_cmpR op_eq (pv 1) pe_int (nomark _)) (pss_one (ps_ret (pcD D_item_info (hr.mono (by decide)) (pa_cons (pv 0) (pa_cons (ixK (K := K) (pv 2) pe_int) pa_nil))))) pss_nil) (pss_cons (ps_if (pt_cmpR op_eq (pv 1) pe_int (nomark _)) (pss_one (ps_ret (pcD D_member_info (hr.mono (by decide)) (pa_cons (pv 0) (pa_cons (ixK (K := K) (pv 2) pe_int) pa_nil))))) pss_nil) (pss_cons (ps_if (pt_cmpR op_eq (pv 1) pe_int (nomark _)) (pss_one (ps_ret (pcD D_counts (hr.mono (by decide)) (pa_cons (pv 0) (pa_cons (ixK (K := K) (pv 2) pe_int) (pa_cons (ixK (K := K) (pv 2) pe_int) (pa_cons (ixK (K := K) (pv 2) pe_int) pa_nil))))))) pss_nil) (pss_cons (ps_if (pt_cmpR op_eq (pv 1) pe_int (nomark _)) (pss_one (ps_ret (pcD D_ratings (hr.mono (by decide)) (pa_cons (pv 0) (pa_cons (ixK (K := K) (pv 2) pe_int) pa_nil))))) pss_nil) (pss_cons (ps_if (pt_cmpR op_eq (pv 1) pe_int (nomark _)) (pss_one (ps_ret (pcD D_popularity (hr.mono (by decide)) (pa_cons (pv 0) (pa_cons (ixK (K := K) (pv 2) pe_int) (pa_cons (ixK (K := K) (pv 2) pe_int) (pa_cons (ixK (K := K) (pv 2) pe_int) pa_nil))))))) pss_nil) (pss_cons (ps_if (pt_cmpR op_eq (pv 1) pe_int (nomark _)) (pss_one (ps_ret (pcD D_top_items hr (pa_cons (pv 0) (pa_cons (ixK (K := K) (pv 2) pe_int) (pa_cons (ixK (K := K) (pv 2) pe_int) (pa_cons (ixK (K := K) (pv 2) pe_int) pa_nil))))))) pss_nil) (pss_one (ps_ret (pcD D_categories (hr.mono (by decide)) (pa_cons (pv 0) (pa_cons (ixK (K := K) (pv 2) pe_int) (pa_cons (ixK (K := K) (pv 2) pe_int) pa_nil)))))))))))), ?_⟩
    refine q_when (b := n == 8) (et_test (ev_op (ev_var rfl) (ev_n 8) rv_eqN)) (fun hb H1 e1 => ?_) fun hb8 H1 e1 => ?_
    · obtain rfl := beq_iff_eq.mp hb
      replace S := S.ex e1
      cases he with
      | itemInfo x => exact S.ret (ea_cons (ev_var rfl) (ea_cons (S.nx (ev_var rfl) rfl) ea_nil)) fun H1 h => ⟨x, a, L, st, rfl, h, rfl⟩
    replace S := S.ex e1
    refine q_when (b := n == 9) (et_test (ev_op (ev_var rfl) (ev_n 9) rv_eqN)) (fun hb H1 e1 => ?_) fun hb9 H1 e1 => ?_
    · obtain rfl := beq_iff_eq.mp hb
      replace S := S.ex e1
      cases he with
      | memberInfo x => exact S.ret (ea_cons (ev_var rfl) (ea_cons (S.nx (ev_var rfl) rfl) ea_nil)) fun H1 h => ⟨x, a, L, st, rfl, h, rfl⟩
    replace S := S.ex e1
    refine q_when (b := n == 10) (et_test (ev_op (ev_var rfl) (ev_n 10) rv_eqN)) (fun hb H1 e1 => ?_) fun hb10 H1 e1 => ?_
    · obtain rfl := beq_iff_eq.mp hb
      replace S := S.ex e1
      cases he with
      | counts x y z => exact S.ret (ea_cons (ev_var rfl) (ea_cons (S.nx (ev_var rfl) rfl) (ea_cons (S.nx (ev_var rfl) rfl) (ea_cons (S.nx (ev_var rfl) rfl) ea_nil)))) fun H1 h => ⟨x, y, z, a, L, st, rfl, h, rfl⟩
    replace S := S.ex e1
    refine q_when (b := n == 11) (et_test (ev_op (ev_var rfl) (ev_n 11) rv_eqN)) (fun hb H1 e1 => ?_) fun hb11 H1 e1 => ?_
    · obtain rfl := beq_iff_eq.mp hb
      replace S := S.ex e1
      cases he with
      | ratings x => exact S.ret (ea_cons (ev_var rfl) (ea_cons (S.nx (ev_var rfl) rfl) ea_nil)) fun H1 h => ⟨x, a, L, st, rfl, h, rfl⟩
    replace S := S.ex e1
    refine q_when (b := n == 12) (et_test (ev_op (ev_var rfl) (ev_n 12) rv_eqN)) (fun hb H1 e1 => ?_) fun hb12 H1 e1 => ?_
    · obtain rfl := beq_iff_eq.mp hb
      replace S := S.ex e1
      cases he with
      | popularity x y z => exact S.ret (ea_cons (ev_var rfl) (ea_cons (S.nx (ev_var rfl) rfl) (ea_cons (S.nx (ev_var rfl) rfl) (ea_cons (S.nx (ev_var rfl) rfl) ea_nil)))) fun H1 h => ⟨x, y, z, Nat.lt_trans (S.lt z (by simp)) (by decide), a, L, st, rfl, h, rfl⟩
    replace S := S.ex e1
    refine q_when (b := n == 13) (et_test (ev_op (ev_var rfl) (ev_n 13) rv_eqN)) (fun hb H1 e1 => ?_) fun hb13 H1 e1 => ?_
    · obtain rfl := beq_iff_eq.mp hb
      replace S := S.ex e1
      cases he with
      | topItems x y z => exact S.retN (ea_cons (ev_var rfl) (ea_cons (S.nx (ev_var rfl) rfl) (ea_cons (S.nx (ev_var rfl) rfl) (ea_cons (S.nx (ev_var rfl) rfl) ea_nil)))) rfl fun H1 h => ⟨x, y, z, Nat.lt_trans (S.lt y (by simp)) (by decide), h⟩
    replace S := S.ex e1
    have nl : n = 14 := by
      have b8 := beq_eq_false_iff_ne.mp hb8
      have b9 := beq_eq_false_iff_ne.mp hb9
      have b10 := beq_eq_false_iff_ne.mp hb10
      have b11 := beq_eq_false_iff_ne.mp hb11
      have b12 := beq_eq_false_iff_ne.mp hb12
      have b13 := beq_eq_false_iff_ne.mp hb13
      omega
    subst nl
    cases he with
      | categories x y => exact S.ret (ea_cons (ev_var rfl) (ea_cons (S.nx (ev_var rfl) rfl) (ea_cons (S.nx (ev_var rfl) rfl) ea_nil))) fun H1 h => ⟨x, y, a, L, st, rfl, h, rfl⟩
abbrev s_answer_later_question : Stmt := top 113
abbrev n_answer_later_question : List Str := ["store", "number", "numbers"]
theorem sc_answer_later_question : FnScope n_answer_later_question ["store", "number", "numbers"] (defScope s_answer_later_question) := ⟨rfl, rfl, rfl, by decide +kernel, rfl, by decide +kernel, by decide +kernel⟩
theorem d_answer_later_question (T : Txt K mg c) (D_profile : DefAt P w K mg base 2 "profile" ["store", "member"] (rdL (p_profile c))) (D_history : DefAt P w K mg base 2 "history" ["store", "member", "count"] (rdL (p_history c))) (D_sessions : DefAt P w K mg base 3 "sessions" ["store", "member"] (rdL (p_sessions c))) (D_together : DefAt P w K mg base 4 "together" ["store", "item", "count"] (sp_together c PT)) (D_common_members : DefAt P w K mg base 3 "common_members" ["store", "first", "second"] (rdL (p_common_members c))) (D_conversion : DefAt P w K mg base 4 "conversion" ["store", "item"] (rdL (p_conversion c))) (D_funnel : DefAt P w K mg base 2 "funnel" ["store", "low", "high", "kinds"] (rdL (p_funnel c)))
    (D0 : Def0 K mg "answer_later_question" s_answer_later_question ["store", "number", "numbers"]) : DefAt P w K mg base 5 "answer_later_question" ["store", "number", "numbers"] (sp_ask c PT 15 21) := by
  refine DefAt.of D0 sc_answer_later_question (fun vs H Q E h => ?_) (fun f cdv A outer s H vs Q E hr h => ?_)
  · obtain ⟨a, q, L, s, n, l, call, rfl, _⟩ := h
    rfl
  · obtain ⟨a, q, L, st, n, l, call, rfl, he, hlo, hhi, S⟩ := h
    refine ⟨_, (pss_cons (ps_if (pt_cmpR op_eq (pv 1) pe_int (nomark _)) (pss_one (ps_ret (pcD D_profile (hr.mono (by decide)) (pa_cons (pv 0) (pa_cons (ixK (K := K) (pv 2) pe_int) pa_nil))))) pss_nil) (pss_cons (ps_if (pt_cmpR op_eq (pv 1) pe_int (nomark _)) (pss_one (ps_ret (pcD D_history (hr.mono (by decide)) (pa_cons (pv 0) (pa_cons (ixK (K := K) (pv 2) pe_int) (pa_cons (ixK (K := K) (pv 2) pe_int) pa_nil)))))) pss_nil) (pss_cons (ps_if (pt_cmpR op_eq (pv 1) pe_int (nomark _)) (pss_one (ps_ret (pcD D_sessions (hr.mono (by decide)) (pa_cons (pv 0) (pa_cons (ixK (K := K) (pv 2) pe_int) pa_nil))))) pss_nil) (pss_cons (ps_if (pt_cmpR op_eq (pv 1) pe_int (nomark _)) (pss_one (ps_ret (pcD D_together hr (pa_cons (pv 0) (pa_cons (ixK (K := K) (pv 2) pe_int) (pa_cons (ixK (K := K) (pv 2) pe_int) pa_nil)))))) pss_nil) (pss_cons (ps_if (pt_cmpR op_eq (pv 1) pe_int (nomark _)) (pss_one (ps_ret (pcD D_common_members (hr.mono (by decide)) (pa_cons (pv 0) (pa_cons (ixK (K := K) (pv 2) pe_int) (pa_cons (ixK (K := K) (pv 2) pe_int) pa_nil)))))) pss_nil) (pss_cons (ps_if (pt_cmpR op_eq (pv 1) pe_int (nomark _)) (pss_one (ps_ret (pcD D_conversion hr (pa_cons (pv 0) (pa_cons (ixK (K := K) (pv 2) pe_int) pa_nil))))) pss_nil) (pss_one (ps_ret (pcD D_funnel (hr.mono (by decide)) (pa_cons (pv 0) (pa_cons (ixK (K := K) (pv 2) pe_int) (pa_cons (ixK (K := K) (pv 2) pe_int) (pa_cons (pe_slice sl_list (pv 2) (po_some pe_int) po_none) pa_nil))))))))))))), ?_⟩
    refine q_when (b := n == 15) (et_test (ev_op (ev_var rfl) (ev_n 15) rv_eqN)) (fun hb H1 e1 => ?_) fun hb15 H1 e1 => ?_
    · obtain rfl := beq_iff_eq.mp hb
      replace S := S.ex e1
      cases he with
      | profile x => exact S.ret (ea_cons (ev_var rfl) (ea_cons (S.nx (ev_var rfl) rfl) ea_nil)) fun H1 h => ⟨x, a, L, st, rfl, h, rfl⟩
    replace S := S.ex e1
    refine q_when (b := n == 16) (et_test (ev_op (ev_var rfl) (ev_n 16) rv_eqN)) (fun hb H1 e1 => ?_) fun hb16 H1 e1 => ?_
    · obtain rfl := beq_iff_eq.mp hb
      replace S := S.ex e1
      cases he with
      | history x y => exact S.ret (ea_cons (ev_var rfl) (ea_cons (S.nx (ev_var rfl) rfl) (ea_cons (S.nx (ev_var rfl) rfl) ea_nil))) fun H1 h => ⟨x, y, a, L, st, rfl, h, rfl⟩
    replace S := S.ex e1
    refine q_when (b := n == 17) (et_test (ev_op (ev_var rfl) (ev_n 17) rv_eqN)) (fun hb H1 e1 => ?_) fun hb17 H1 e1 => ?_
    · obtain rfl := beq_iff_eq.mp hb
      replace S := S.ex e1
      cases he with
      | sessions x => exact S.ret (ea_cons (ev_var rfl) (ea_cons (S.nx (ev_var rfl) rfl) ea_nil)) fun H1 h => ⟨x, a, L, st, rfl, h, rfl⟩
    replace S := S.ex e1
    refine q_when (b := n == 18) (et_test (ev_op (ev_var rfl) (ev_n 18) rv_eqN)) (fun hb H1 e1 => ?_) fun hb18 H1 e1 => ?_
    · obtain rfl := beq_iff_eq.mp hb
      replace S := S.ex e1
      cases he with
      | together x y => exact S.retN (ea_cons (ev_var rfl) (ea_cons (S.nx (ev_var rfl) rfl) (ea_cons (S.nx (ev_var rfl) rfl) ea_nil))) rfl fun H1 h => ⟨x, y, h⟩
    replace S := S.ex e1
    refine q_when (b := n == 19) (et_test (ev_op (ev_var rfl) (ev_n 19) rv_eqN)) (fun hb H1 e1 => ?_) fun hb19 H1 e1 => ?_
    · obtain rfl := beq_iff_eq.mp hb
      replace S := S.ex e1
      cases he with
      | commonMembers x y => exact S.ret (ea_cons (ev_var rfl) (ea_cons (S.nx (ev_var rfl) rfl) (ea_cons (S.nx (ev_var rfl) rfl) ea_nil))) fun H1 h => ⟨x, y, a, L, st, rfl, h, rfl⟩
    replace S := S.ex e1
    refine q_when (b := n == 20) (et_test (ev_op (ev_var rfl) (ev_n 20) rv_eqN)) (fun hb H1 e1 => ?_) fun hb20 H1 e1 => ?_
    · obtain rfl := beq_iff_eq.mp hb
      replace S := S.ex e1
      cases he with
      | conversion x => exact S.ret (ea_cons (ev_var rfl) (ea_cons (S.nx (ev_var rfl) rfl) ea_nil)) fun H1 h => ⟨x, a, L, st, rfl, h, rfl⟩
    replace S := S.ex e1
    have nl : n = 21 := by
      have b15 := beq_eq_false_iff_ne.mp hb15
      have b16 := beq_eq_false_iff_ne.mp hb16
      have b17 := beq_eq_false_iff_ne.mp hb17
      have b18 := beq_eq_false_iff_ne.mp hb18
      have b19 := beq_eq_false_iff_ne.mp hb19
      have b20 := beq_eq_false_iff_ne.mp hb20
      omega
    subst nl
    cases he with
      | funnel x y r => 
        have lr : r.length ≤ 1000 := by
          have := S.len
          simp only [List.length_cons] at this
          omega
        exact s_retL (el_call' (ea_V (ev_var rfl) (ea_V (S.nx (ev_var rfl) rfl) (ea_V (S.nx (ev_var rfl) rfl) (ea_L (el_from (n := 2) (ev_var rfl) S.hq) ea_nil')))) fun vs H2 e2 hp => by
          obtain ⟨r1, rfl, r2, rfl, r3, rfl, cq, r4, rfl, hcq, rfl⟩ := hp
          exact rdL_sp fun H3 e3 => ⟨a, cq, L, st, x, y, r, rfl, (S.ex (e2.trans e3)).sl, e3 _ _ hcq, lr, rfl⟩) fun p H1 hp e h1 => S.k p H1 (FrN.of hp) (ExtN.ex e) (S.tb.ext e) h1
abbrev s_answer_last_question : Stmt := top 114
abbrev n_answer_last_question : List Str := ["store", "number", "numbers"]
theorem sc_answer_last_question : FnScope n_answer_last_question ["store", "number", "numbers"] (defScope s_answer_last_question) := ⟨rfl, rfl, rfl, by decide +kernel, rfl, by decide +kernel, by decide +kernel⟩
theorem d_answer_last_question (T : Txt K mg c) (D_trending : DefAt P w K mg base 3 "trending" ["store", "time", "window", "count"] (sp_trending c PT)) (D_unseen : DefAt P w K mg base 2 "unseen" ["store", "member"] (rdL (p_unseen c))) (D_opinions : DefAt P w K mg base 2 "opinions" ["store", "member"] (rdL (p_opinions c))) (D_split : DefAt P w K mg base 1 "split" ["store", "time"] (rdL (p_split c))) (D_by_creator : DefAt P w K mg base 2 "by_creator" ["store", "creator", "low", "high"] (rdL (p_by_creator c))) (D_digest : DefAt P w K mg base 3 "digest" ["store"] (rdL (p_digest c))) (D_status : DefAt P w K mg base 2 "status" ["store"] (rdL (p_status c)))
    (D0 : Def0 K mg "answer_last_question" s_answer_last_question ["store", "number", "numbers"]) : DefAt P w K mg base 4 "answer_last_question" ["store", "number", "numbers"] (sp_ask c PT 22 28) := by
  refine DefAt.of D0 sc_answer_last_question (fun vs H Q E h => ?_) (fun f cdv A outer s H vs Q E hr h => ?_)
  · obtain ⟨a, q, L, s, n, l, call, rfl, _⟩ := h
    rfl
  · obtain ⟨a, q, L, st, n, l, call, rfl, he, hlo, hhi, S⟩ := h
    refine ⟨_, (pss_cons (ps_if (pt_cmpR op_eq (pv 1) pe_int (nomark _)) (pss_one (ps_ret (pcD D_trending hr (pa_cons (pv 0) (pa_cons (ixK (K := K) (pv 2) pe_int) (pa_cons (ixK (K := K) (pv 2) pe_int) (pa_cons (ixK (K := K) (pv 2) pe_int) pa_nil))))))) pss_nil) (pss_cons (ps_if (pt_cmpR op_eq (pv 1) pe_int (nomark _)) (pss_one (ps_ret (pcD D_unseen (hr.mono (by decide)) (pa_cons (pv 0) (pa_cons (ixK (K := K) (pv 2) pe_int) pa_nil))))) pss_nil) (pss_cons (ps_if (pt_cmpR op_eq (pv 1) pe_int (nomark _)) (pss_one (ps_ret (pcD D_opinions (hr.mono (by decide)) (pa_cons (pv 0) (pa_cons (ixK (K := K) (pv 2) pe_int) pa_nil))))) pss_nil) (pss_cons (ps_if (pt_cmpR op_eq (pv 1) pe_int (nomark _)) (pss_one (ps_ret (pcD D_split (hr.mono (by decide)) (pa_cons (pv 0) (pa_cons (ixK (K := K) (pv 2) pe_int) pa_nil))))) pss_nil) (pss_cons (ps_if (pt_cmpR op_eq (pv 1) pe_int (nomark _)) (pss_one (ps_ret (pcD D_by_creator (hr.mono (by decide)) (pa_cons (pv 0) (pa_cons (ixK (K := K) (pv 2) pe_int) (pa_cons (ixK (K := K) (pv 2) pe_int) (pa_cons (ixK (K := K) (pv 2) pe_int) pa_nil))))))) pss_nil) (pss_cons (ps_if (pt_cmpR op_eq (pv 1) pe_int (nomark _)) (pss_one (ps_ret (pcD D_digest hr (pa_cons (pv 0) pa_nil)))) pss_nil) (pss_one (ps_ret (pcD D_status (hr.mono (by decide)) (pa_cons (pv 0) pa_nil)))))))))), ?_⟩
    refine q_when (b := n == 22) (et_test (ev_op (ev_var rfl) (ev_n 22) rv_eqN)) (fun hb H1 e1 => ?_) fun hb22 H1 e1 => ?_
    · obtain rfl := beq_iff_eq.mp hb
      replace S := S.ex e1
      cases he with
      | trending x y z => exact S.retN (ea_cons (ev_var rfl) (ea_cons (S.nx (ev_var rfl) rfl) (ea_cons (S.nx (ev_var rfl) rfl) (ea_cons (S.nx (ev_var rfl) rfl) ea_nil)))) rfl fun H1 h => ⟨x, y, z, Nat.lt_trans (S.lt y (by simp)) (by decide), h⟩
    replace S := S.ex e1
    refine q_when (b := n == 23) (et_test (ev_op (ev_var rfl) (ev_n 23) rv_eqN)) (fun hb H1 e1 => ?_) fun hb23 H1 e1 => ?_
    · obtain rfl := beq_iff_eq.mp hb
      replace S := S.ex e1
      cases he with
      | unseen x => exact S.ret (ea_cons (ev_var rfl) (ea_cons (S.nx (ev_var rfl) rfl) ea_nil)) fun H1 h => ⟨x, a, L, st, rfl, h, rfl⟩
    replace S := S.ex e1
    refine q_when (b := n == 24) (et_test (ev_op (ev_var rfl) (ev_n 24) rv_eqN)) (fun hb H1 e1 => ?_) fun hb24 H1 e1 => ?_
    · obtain rfl := beq_iff_eq.mp hb
      replace S := S.ex e1
      cases he with
      | opinions x => exact S.ret (ea_cons (ev_var rfl) (ea_cons (S.nx (ev_var rfl) rfl) ea_nil)) fun H1 h => ⟨x, a, L, st, rfl, h, rfl⟩
    replace S := S.ex e1
    refine q_when (b := n == 25) (et_test (ev_op (ev_var rfl) (ev_n 25) rv_eqN)) (fun hb H1 e1 => ?_) fun hb25 H1 e1 => ?_
    · obtain rfl := beq_iff_eq.mp hb
      replace S := S.ex e1
      cases he with
      | split x => exact S.ret (ea_cons (ev_var rfl) (ea_cons (S.nx (ev_var rfl) rfl) ea_nil)) fun H1 h => ⟨x, a, L, st, rfl, h, rfl⟩
    replace S := S.ex e1
    refine q_when (b := n == 26) (et_test (ev_op (ev_var rfl) (ev_n 26) rv_eqN)) (fun hb H1 e1 => ?_) fun hb26 H1 e1 => ?_
    · obtain rfl := beq_iff_eq.mp hb
      replace S := S.ex e1
      cases he with
      | byCreator x y z => exact S.ret (ea_cons (ev_var rfl) (ea_cons (S.nx (ev_var rfl) rfl) (ea_cons (S.nx (ev_var rfl) rfl) (ea_cons (S.nx (ev_var rfl) rfl) ea_nil)))) fun H1 h => ⟨x, y, z, a, L, st, rfl, h, rfl⟩
    replace S := S.ex e1
    refine q_when (b := n == 27) (et_test (ev_op (ev_var rfl) (ev_n 27) rv_eqN)) (fun hb H1 e1 => ?_) fun hb27 H1 e1 => ?_
    · obtain rfl := beq_iff_eq.mp hb
      replace S := S.ex e1
      cases he with
      | digest => exact S.ret (ea_cons (ev_var rfl) ea_nil) fun H1 h => ⟨a, L, st, rfl, h, rfl⟩
    replace S := S.ex e1
    have nl : n = 28 := by
      have b22 := beq_eq_false_iff_ne.mp hb22
      have b23 := beq_eq_false_iff_ne.mp hb23
      have b24 := beq_eq_false_iff_ne.mp hb24
      have b25 := beq_eq_false_iff_ne.mp hb25
      have b26 := beq_eq_false_iff_ne.mp hb26
      have b27 := beq_eq_false_iff_ne.mp hb27
      omega
    subst nl
    cases he with
      | status => exact S.ret (ea_cons (ev_var rfl) ea_nil) fun H1 h => ⟨a, L, st, rfl, h, rfl⟩
end
end Shelf
end

section
set_option maxHeartbeats 4000000
namespace Shelf
open PySem PySem.Spec PyProof.Rows L2 Evl LamX
/-- the desk at d; W: what its store holds -/
def DeskAt (c : Adr) (H : Hp) (d : Addr) (st : Kp427.State) (W : List Addr) : Prop := match st with
  | none => W = [] ∧ ∃ dx, H d = some (.ins c.D dx [("store", .non)])
  | some s => ∃ (a : Addr) (L : Lay) (dx : Addr), W = own a L ∧ H d = some (.ins c.D dx [("store", .ref a)]) ∧ StL c H a L s ∧ Apart L
section
variable {c : Adr} {H H' : Hp} {d : Addr} {st : Kp427.State} {W : List Addr}
theorem DeskAt.ex (h : DeskAt c H d st W) (e : Ex H H') : DeskAt c H' d st W := by
  cases st with
  | none =>
    obtain ⟨h1, dx, h2⟩ := h
    exact ⟨h1, dx, e _ _ h2⟩
  | some s =>
    obtain ⟨a, L, dx, h1, h2, h3, h4⟩ := h
    exact ⟨a, L, dx, h1, e _ _ h2, h3.ex e, h4⟩
theorem DeskAt.exN (h : DeskAt c H d st W) (e : ExtN H H') : DeskAt c H' d st W := by
  cases st with
  | none =>
    obtain ⟨h1, dx, h2⟩ := h
    exact ⟨h1, dx, e _ _ h2 fun ps z => by cases z⟩
  | some s =>
    obtain ⟨a, L, dx, h1, h2, h3, h4⟩ := h
    exact ⟨a, L, dx, h1, e _ _ h2 fun ps z => (by cases z), h3.exN e, h4⟩
theorem DeskAt.ob (h : DeskAt c H d st W) : ∃ dx v, H d = some (.ins c.D dx [("store", v)]) := by
  cases st with
  | none =>
    obtain ⟨h1, dx, h2⟩ := h
    exact ⟨dx, _, h2⟩
  | some s =>
    obtain ⟨a, L, dx, h1, h2, h3, h4⟩ := h
    exact ⟨dx, _, h2⟩
end
/-- o.f = C(..) -/
theorem q_fldMk {K : PySem.W.Frag} {σ : L2.St} {H : Hp} {ta : TE} {t : TA} {D : Ends} {tz : TS} {C : Addr} {sp : Sp} {E : XK} {vs : List V} {f : Str} (h : EvA t σ H vs)
    (k : ∀ H1 x dx, Ex H H1 → H1 x = none → H1 dx = none → sp (.ref x :: vs) (upd (upd H1 dx (.own x)) x (.ins C dx [])) (fun v H2 => v = .non ∧ ta σ H2 fun y H3 => ∃ a C' dx' fs, y = .ref a ∧ H3 a = some (.ins C' dx' fs) ∧ Cls K C' ∧ NoAttr K C' f ∧ fs.length < 1000 ∧ tz D σ (upd H3 a (.ins C' dx' (putF f (.ref x) fs)))) E) :
    tSeq (sFld K ta (tMake C sp [] E t) f) tz D σ H := h H (Ex.refl H) _ fun H1 e => fun x dx nx nd ne => by
  rw [List.append_nil]
  exact k H1 x dx e nx nd
section
variable {P : Program} {w : World} {K : PySem.W.Frag} {mg : Str → Option Value} {base : Heap} {c : Adr} {PT : Addr}
abbrev s_create : Stmt := top 110
abbrev n_create : List Str := ["desk", "retention", "gap", "weights"]
theorem sc_create : FnScope n_create ["desk", "retention", "gap", "weights"] (defScope s_create) := ⟨rfl, rfl, rfl, by decide +kernel, rfl, by decide +kernel, by decide +kernel⟩
def sp_create (c : Adr) : Sp := fun vs H Q _ => ∃ (d wt : Addr) (st : Kp427.State) (W : List Addr) (r g : Nat) (ws : List Nat), vs = [.ref d, nV r, nV g, .ref wt] ∧ DeskAt c H d st W ∧ H wt = some (.lst (ws.map nV)) ∧ ws.length ≤ 1000 ∧
  ∀ p H' W', DeskAt c H' d (Kp427.step st (.create r g ws)).1 W' → (∀ b ∈ W', b ∈ W ∨ b = wt ∨ H b = none) → (∀ b o, H b = some o → b ≠ d → H' b = some o) → H p = none → H' p = some (.lst (ansV (Kp427.step st (.create r g ws)).2)) → Q (.ref p) H'
theorem d_create (T : Txt K mg c) (D_weights_fit : DefAt P w K mg base 1 "weights_fit" ["weights"] (rdV p_weights_fit)) (D_outside_limits : DefAt P w K mg base 1 "outside_limits" [] (rdL (p_code 22)))
    (D_Store : NewAt P w K mg base 1 "Store" c.S ["self", "retention", "gap", "weights"] (p_newStore c)) (D0 : Def0 K mg "create" s_create ["desk", "retention", "gap", "weights"]) : DefAt P w K mg base 3 "create" ["desk", "retention", "gap", "weights"] (sp_create c) := by
  refine DefAt.of D0 sc_create (fun vs H Q E h => ?_) (fun f cdv A outer s H vs Q E hr h => ?_)
  · obtain ⟨d, wt, st, W, r, g, ws, rfl, _⟩ := h
    rfl
  · obtain ⟨d, wt, st, W, r, g, ws, rfl, hd, hw, hl, k⟩ := h
    refine ⟨_, (pss_cons (ps_if (PW.pt (pw_or (pt_cmpR op_gt (pv 1) (gI T.kMAX_RETENTION) (nomark _)) (pw_or (pt_cmpR op_gt (pv 2) (gI T.kMAX_GAP) (nomark _)) (pw_or1 (pt_not (pt_val (pcD D_weights_fit (hr.mono (by decide)) (pa_cons (pv 3) pa_nil)))))))) (pss_one (ps_ret (pcD0 D_outside_limits (hr.mono (by decide))))) pss_nil) (pss_cons (ps_fld (pv 0) (pmD D_Store hr (pa_cons (pv 1) (pa_cons (pv 2) (pa_cons (pv 3) pa_nil)))) rfl) (pss_one (ps_ret (pe_lst (pa_cons pe_int pa_nil)))))), ?_⟩
    have es : Kp427.step st (.create r g ws) = if (decide (r ≤ 10000) && decide (g ≤ 10000) && decide (ws.length = Kp427.kindCount) && ws.all fun w => decide (w ≤ 1000)) = false then (st, Kp427.single (-22)) else (some ⟨r, g, ws, [], [], []⟩, Kp427.single 0) := by
      cases st <;> rfl
    rw [es] at k
    refine q_when (b := decide (10000 < r) || (decide (10000 < g) || !(decide (ws.length = Kp427.kindCount) && ws.all fun w => decide (w ≤ 1000)))) (et_or (et_test (ev_op (ev_var rfl) (ev_n 10000) rv_gtN)) fun _ => et_or (et_test (ev_op (ev_var rfl) (ev_n 10000) rv_gtN)) fun _ =>
      et_not (et_B (ev_callD (ea_cons (ev_var rfl) ea_nil) fun H1 e1 => ⟨wt, ws, rfl, e1 _ _ hw, hl, rfl⟩))) (fun hb H1 e1 => ?_) fun hb H1 e1 => ?_
    · have hc : (decide (r ≤ 10000) && decide (g ≤ 10000) && decide (ws.length = Kp427.kindCount) && ws.all fun w => decide (w ≤ 1000)) = false := by
        rw [Bool.and_assoc, Bool.and_assoc]
        cases hv : (decide (ws.length = Kp427.kindCount) && ws.all fun w => decide (w ≤ 1000))
        · rw [Bool.and_false, Bool.and_false]
        · rw [hv] at hb
          simp only [Bool.or_eq_true, decide_eq_true_eq, Bool.not_true, Bool.false_eq_true, or_false] at hb
          simp only [Bool.and_true, Bool.and_eq_false_iff, decide_eq_false_iff_not]
          omega
      rw [if_pos hc] at k
      exact s_retL (el_code 22) fun p H2 hp e2 h2 => k p H2 W (hd.ex (e1.trans e2)) (fun b hb => .inl hb) (fun b o h _ => e2 _ _ (e1 _ _ h)) (fresh_back e1 hp) h2
    rw [Bool.or_eq_false_iff, Bool.or_eq_false_iff, decide_eq_false_iff_not, decide_eq_false_iff_not, Bool.not_eq_false'] at hb
    have hc : (decide (r ≤ 10000) && decide (g ≤ 10000) && decide (ws.length = Kp427.kindCount) && ws.all fun w => decide (w ≤ 1000)) = true := by
      rw [Bool.and_assoc, Bool.and_assoc, hb.2.2, decide_eq_true (by omega), decide_eq_true (by omega)]
      rfl
    rw [if_neg (by rw [hc]; exact Bool.noConfusion)] at k
    have hf := Bool.and_eq_true_iff.mp hb.2.2
    obtain ⟨dx, v, od⟩ := hd.ob
    have od1 := e1 _ _ od
    refine q_fldMk (vs := [nV r, nV g, .ref wt]) (ea_cons (ev_var rfl) (ea_cons (ev_var rfl) (ea_cons (ev_var rfl) ea_nil))) fun H2 x dy e2 nx nd => ⟨x, dy, r, g, wt, rfl, upd_same, fun H3 sh mb ev nsh nmb nev sev hsh hmb hev hx kp => ⟨rfl, ?_⟩⟩
    have e3 : Ex H2 H3 := made_fresh nx nd kp
    have e12 := e1.trans e2
    have e13 := e12.trans e3
    have back : ∀ {b : Addr}, (upd (upd H2 dy (.own x)) x (.ins c.S dy [])) b = none → H2 b = none := fun {b} h => none_of_upd (none_of_upd h)
    have od3 := e13 _ _ od
    refine (ev_var (v := .ref d) rfl : Ev _ _ H3 _) H3 (Ex.refl _) _ fun H4 e4 => ⟨d, c.D, dx, [("store", v)], rfl, e4 _ _ od3, T.clD, T.dStore, by show 1 < 1000; decide, ?_⟩
    have nxd : x ≠ d := (ne_of_none (e2 _ _ od1) nx).symm
    have nf : ∀ {b : Addr}, (upd (upd H2 dy (.own x)) x (.ins c.S dy [])) b = none → b ≠ d := fun {b} h => (ne_of_none (e2 _ _ od1) (back h)).symm
    have hw4 : H4 wt = some (.lst (ws.map nV)) := e4 _ _ (e13 _ _ hw)
    have nwd : wt ≠ d := ho_ne hw od lst_ins
    have nw : ∀ {b : Addr}, (upd (upd H2 dy (.own x)) x (.ins c.S dy [])) b = none → b ≠ wt := fun {b} h => (ne_of_none (e12 _ _ hw) (back h)).symm
    have up : ∀ {b : Addr} {o : HO}, b ≠ d → H3 b = some o → (upd H4 d (.ins c.D dx (putF "store" (.ref x) [("store", v)]))) b = some o := fun {b o} h h3 => by
      rw [upd_ne h]
      exact e4 _ _ h3
    have G : Good ⟨r, g, ws, [], [], []⟩ := ⟨of_decide_eq_true hf.1, fun y hy => of_decide_eq_true (List.all_eq_true.mp hf.2 y hy), by show g ≤ 10000; omega, by show r ≤ 10000; omega, by show 0 ≤ 40; decide, fun i hi => (by cases hi), by show 0 ≤ 40; decide, List.Pairwise.nil, by show 0 ≤ 200; decide, fun e he => (by cases he), fun e he => (by cases he), fun e he => (by cases he), fun e he => (by cases he)⟩
    have S5 : StL c (upd H4 d (.ins c.D dx (putF "store" (.ref x) [("store", v)]))) x ⟨dy, wt, sh, mb, ev, [], []⟩ ⟨r, g, ws, [], [], []⟩ :=
      ⟨⟨up nxd hx, up nwd (e13 _ _ hw), up (nf nsh) hsh, fun t ht => (by cases ht), rfl, up (nf nev) hev, fun e he => (by cases he), rfl, G⟩, up (nf nmb) hmb⟩
    have A5 : Apart ⟨dy, wt, sh, mb, ev, [], []⟩ := ⟨List.Pairwise.nil, sev, nw nsh, nw nev, fun t ht => (by cases ht), fun t ht => (by cases ht)⟩
    refine s_retL (el_lst (ea_cons (ev_n 0) ea_nil) (by show 1 ≤ 100000; decide)) fun p H6 hp e6 h6 => k p H6 (own x ⟨dy, wt, sh, mb, ev, [], []⟩) ?_ (fun b hb => ?_) (fun b o h n => ?_) ?_ h6
    · exact DeskAt.ex (st := some _) ⟨x, _, dx, rfl, upd_same, S5, A5⟩ e6
    · unfold own foot lists at hb
      simp only [List.mem_cons, List.mem_append, List.map_nil, List.not_mem_nil, or_false] at hb
      rcases hb with (z | z | z | z) | z
      · rw [z]
        exact .inr (.inr (fresh_back e12 nx))
      · rw [z]
        exact .inr (.inr (fresh_back e12 (back nsh)))
      · rw [z]
        exact .inr (.inr (fresh_back e12 (back nmb)))
      · rw [z]
        exact .inr (.inr (fresh_back e12 (back nev)))
      · exact .inr (.inl z)
    · refine e6 _ _ ?_
      rw [upd_ne n]
      exact e4 _ _ (e13 _ _ h)
    · exact fresh_back (e13.trans e4) (none_of_upd hp)
end
end Shelf
end

section
set_option maxHeartbeats 4000000
namespace Shelf
open PySem PySem.Spec PyProof.Rows L2 Evl LamX
theorem tabs_keep {T : List (Addr × Str)} {H H' : Hp} (t : Tabs T H) (k : ∀ b o, H b = some o → ((∃ ps, o = .tbl ps) ∨ ∃ φ, o = .ext φ) → H' b = some o) : Tabs T H' := fun x hx => by
  obtain ⟨ps, h1, h2, h3⟩ := t x hx
  refine ⟨ps, k _ _ h1 (.inl ⟨ps, rfl⟩), h2, fun pos cv hc => ?_⟩
  obtain ⟨c, e1, e2⟩ := h3 pos cv hc
  exact ⟨c, e1, k _ _ e2 (.inr ⟨_, rfl⟩)⟩
/-- lists, dicts, instances of another class than the desk's: what a store holds -/
def plainO (o : HO) : Prop := (∀ ps, o ≠ .tbl ps) ∧ (∀ φ, o ≠ .ext φ) ∧ (∀ u v, o ≠ .frz u v) ∧ ∀ C dx v, o ≠ .ins C dx [("store", v)]
theorem plain_lst {xs : List V} : plainO (.lst xs) := ⟨fun _ z => (by cases z), fun _ z => (by cases z), fun _ _ z => (by cases z), fun _ _ _ z => (by cases z)⟩
theorem plain_dK {k : List (Key × V)} : plainO (.dK k) := ⟨fun _ z => (by cases z), fun _ z => (by cases z), fun _ _ z => (by cases z), fun _ _ _ z => (by cases z)⟩
theorem plain_ins {C dx : Addr} {fs : List (Str × V)} (h : fs.length ≠ 1) : plainO (.ins C dx fs) := by
  refine ⟨fun _ z => (by cases z), fun _ z => (by cases z), fun _ _ z => (by cases z), fun _ _ _ z => ?_⟩
  injection z with _ _ e
  exact h (by rw [e]; rfl)
section
variable {c : Adr} {H H' : Hp} {a b d : Addr} {L : Lay} {s : Kp427.Store} {st : Kp427.State} {W : List Addr}
theorem foot_plain (S : StL c H a L s) (h : b ∈ foot a L) : ∃ o, H b = some o ∧ plainO o := by
  unfold foot at h
  simp only [List.mem_cons] at h
  rcases h with rfl | rfl | rfl | rfl | h
  · exact ⟨_, S.ob, plain_ins (by show (6 : Nat) ≠ 1; decide)⟩
  · exact ⟨_, S.sh, plain_lst⟩
  · exact ⟨_, S.mb, plain_dK⟩
  · exact ⟨_, S.ev, plain_lst⟩
  · obtain ⟨t, ht, rfl⟩ := List.mem_map.mp h
    obtain ⟨⟨dx, ot⟩, _⟩ := S.it t ht
    exact ⟨_, ot, plain_ins (by show (5 : Nat) ≠ 1; decide)⟩
theorem own_plain (S : StL c H a L s) (h : b ∈ own a L) : ∃ o, H b = some o ∧ plainO o := by
  rcases List.mem_append.mp h with z | z
  · exact foot_plain S z
  · unfold lists at z
    rcases List.mem_cons.mp z with rfl | z
    · exact ⟨_, S.wt, plain_lst⟩
    · obtain ⟨t, ht, rfl⟩ := List.mem_map.mp z
      obtain ⟨_, ct⟩ := S.it t ht
      exact ⟨_, ct, plain_lst⟩
theorem DeskAt.plain (h : DeskAt c H d st W) (hb : b ∈ W) : ∃ o, H b = some o ∧ plainO o := by
  cases st with
  | none =>
    obtain ⟨h1, dx, h2⟩ := h
    rw [h1] at hb
    cases hb
  | some s =>
    obtain ⟨a, L, dx, h1, h2, h3, h4⟩ := h
    rw [h1] at hb
    exact own_plain h3 hb
theorem not_foot {o : HO} (S : StL c H a L s) (h : H b = some o) (n : ∀ u, plainO u → o ≠ u) : b ∉ foot a L := fun z => by
  obtain ⟨u, hu, pu⟩ := foot_plain S z
  exact n u pu (Option.some.inj (h.symm.trans hu))
end
section
variable {P : Program} {w : World} {K : PySem.W.Frag} {mg : Str → Option Value} {base : Heap} {c : Adr} {PT : Addr}
abbrev s_answer_call : Stmt := top 115
abbrev n_answer_call : List Str := ["desk", "number", "numbers"]
theorem sc_answer_call : FnScope n_answer_call ["desk", "number", "numbers"] (defScope s_answer_call) := ⟨rfl, rfl, rfl, by decide +kernel, rfl, by decide +kernel, by decide +kernel⟩
def sp_call (c : Adr) (PT : Addr) : Sp := fun vs H Q _ => ∃ (d q : Addr) (st : Kp427.State) (W : List Addr) (n : Nat) (l : List Nat) (call : Kp427.Call), vs = [.ref d, nV n, .ref q] ∧ Enc n l call ∧ (∀ x ∈ l, x < 4294967296) ∧ l.length ≤ 1000 ∧ DeskAt c H d st W ∧ H q = some (.lst (l.map nV)) ∧ Tabs (tabG PT) H ∧
  ∀ p H' W', DeskAt c H' d (Kp427.step st call).1 W' → (∀ b ∈ W', b ∈ W ∨ FrN H b) → (∀ b o, H b = some o → b ≠ d → b ∉ W → (∀ ps, o ≠ .tbl ps) → H' b = some o) → FrN H p → Tabs (tabG PT) H' → H' p = some (.lst (ansV (Kp427.step st call).2)) → Q (.ref p) H'
theorem d_answer_call (T : Txt K mg c) (D_create : DefAt P w K mg base 3 "create" ["desk", "retention", "gap", "weights"] (sp_create c)) (D_no_store : DefAt P w K mg base 1 "no_store" [] (rdL (p_code 11))) (D_answer_change : DefAt P w K mg base 4 "answer_change" ["store", "number", "numbers"] (sp_change c))
    (D_answer_question : DefAt P w K mg base 4 "answer_question" ["store", "number", "numbers"] (sp_ask c PT 8 14)) (D_answer_later_question : DefAt P w K mg base 5 "answer_later_question" ["store", "number", "numbers"] (sp_ask c PT 15 21)) (D_answer_last_question : DefAt P w K mg base 4 "answer_last_question" ["store", "number", "numbers"] (sp_ask c PT 22 28))
    (D0 : Def0 K mg "answer_call" s_answer_call ["desk", "number", "numbers"]) : DefAt P w K mg base 6 "answer_call" ["desk", "number", "numbers"] (sp_call c PT) := by
  refine DefAt.of D0 sc_answer_call (fun vs H Q E h => ?_) (fun f cdv A outer s H vs Q E hr h => ?_)
  · obtain ⟨d, q, st, W, n, l, call, rfl, _⟩ := h
    rfl
  · obtain ⟨d, q, st, W, n, l, call, rfl, he, lt, len, hd, hq, hT, k⟩ := h
    refine ⟨_, (pss_cons (ps_if (pt_cmpR op_eq (pv 1) pe_int (nomark _)) (pss_one (ps_ret (pcD D_create (hr.mono (by decide)) (pa_cons (pv 0) (pa_cons (ixK (K := K) (pv 2) pe_int) (pa_cons (ixK (K := K) (pv 2) pe_int) (pa_cons (pe_slice sl_list (pv 2) (po_some pe_int) po_none) pa_nil))))))) pss_nil) (pss_cons (ps_if (pt_cmpR op_isN (fK (K := K) (pv 0)) pe_non (nomark _)) (pss_one (ps_ret (pcD0 D_no_store (hr.mono (by decide))))) pss_nil) (pss_cons (ps_if (pt_cmpR op_le (pv 1) pe_int (nomark _)) (pss_one (ps_ret (pcD D_answer_change (hr.mono (by decide)) (pa_cons (fK (K := K) (pv 0)) (pa_cons (pv 1) (pa_cons (pv 2) pa_nil)))))) pss_nil) (pss_cons (ps_if (pt_cmpR op_le (pv 1) pe_int (nomark _)) (pss_one (ps_ret (pcD D_answer_question (hr.mono (by decide)) (pa_cons (fK (K := K) (pv 0)) (pa_cons (pv 1) (pa_cons (pv 2) pa_nil)))))) pss_nil) (pss_cons (ps_if (pt_cmpR op_le (pv 1) pe_int (nomark _)) (pss_one (ps_ret (pcD D_answer_later_question hr (pa_cons (fK (K := K) (pv 0)) (pa_cons (pv 1) (pa_cons (pv 2) pa_nil)))))) pss_nil) (pss_one (ps_ret (pcD D_answer_last_question (hr.mono (by decide)) (pa_cons (fK (K := K) (pv 0)) (pa_cons (pv 1) (pa_cons (pv 2) pa_nil))))))))))), ?_⟩
    refine q_when (b := n == 0) (et_test (ev_op (ev_var rfl) (ev_n 0) rv_eqN)) (fun hb H1 e1 => ?_) fun hb H1 e1 => ?_
    · obtain rfl := beq_iff_eq.mp hb
      cases he with
      | create x y r =>
        have hq1 := e1 _ _ hq
        refine s_retSp' (ea_V (ev_var rfl) (ea_V (ev_ixM (r := nV) (n := 0) (ev_var rfl) (ev_n 0) (sq_of hq1) rfl) (ea_V (ev_ixM (r := nV) (n := 1) (ev_var rfl) (ev_n 1) (sq_of hq1) rfl) (ea_LN (el_from (n := 2) (ev_var rfl) hq1) ea_nil')))) fun vs H2 e2 hp => ?_
        obtain ⟨r1, rfl, r2, rfl, r3, rfl, wt, r5, rfl, fr, hwt, rfl⟩ := hp
        have e12 := e1.trans e2
        have fr0 := fresh_back e1 fr
        obtain ⟨dx, v, od⟩ := hd.ob
        refine ⟨d, wt, st, W, x, y, r, rfl, hd.ex e12, hwt, by simp only [List.length_cons] at len; omega, fun p H3 W' h1 h2 h3 h4 h5 => k p H3 W' h1 (fun b hb => ?_) (fun b o hb n1 n2 n3 => h3 b o (e12 _ _ hb) n1) (FrN.of (fresh_back e12 h4)) ?_ h5⟩
        · rcases h2 b hb with z | z | z
          · exact .inl z
          · rw [z]
            exact .inr (FrN.of fr0)
          · exact .inr (FrN.of (fresh_back e12 z))
        · refine tabs_keep (hT.ext e12) fun b o hb ko => h3 b o hb fun z => ?_
          rw [z, e12 _ _ od] at hb
          rcases ko with ⟨ps, e⟩ | ⟨φ, e⟩
          · rw [e] at hb
            cases hb
          · rw [e] at hb
            cases hb
    have n1 : 1 ≤ n := by
      have := beq_eq_false_iff_ne.mp hb
      omega
    have hT1 := hT.ext e1
    have hq1 := e1 _ _ hq
    cases st with
    | none =>
      obtain ⟨hW, dx, od⟩ := hd
      have es := he.none n1
      rw [es] at k
      have od1 := e1 _ _ od
      refine q_when (b := true) (et_test (ev_op (y := .non) (z := .bl true) (ev_fld (v := .non) (ev_var rfl) od1 T.clD T.dStore rfl) ev_c fun H2 e2 Q q => ⟨rfl, q H2 (Ex.refl H2)⟩)) (fun _ H2 e2 => ?_) fun hb => Bool.noConfusion hb
      have e12 := e1.trans e2
      exact s_retL (el_code 11) fun p H3 hp e3 h3 => k p H3 W ⟨hW, dx, (e12.trans e3) _ _ od⟩ (fun b hb => .inl hb) (fun b o hb _ _ _ => (e12.trans e3) _ _ hb) (FrN.of (fresh_back e12 hp)) (hT.ext (e12.trans e3)) h3
    | some s0 =>
      obtain ⟨a, L, dx, hW, od, SL, A⟩ := hd
      subst hW
      have od1 := e1 _ _ od
      refine q_when (b := false) (et_test (ev_op (y := .non) (z := .bl false) (ev_fld (v := .ref a) (ev_var rfl) od1 T.clD T.dStore rfl) ev_c fun H2 e2 Q q => ⟨rfl, q H2 (Ex.refl H2)⟩)) (fun hb => Bool.noConfusion hb) fun _ H2 e2 => ?_
      have e12 := e1.trans e2
      have nd : d ∉ foot a L := not_foot SL od fun u pu e => pu.2.2.2 _ _ _ e.symm
      have ask : 8 ≤ n → ∀ H3, Ex H H3 → AsSt c PT H3 a L s0 q l call Q := fun h8 H3 e3 => ⟨SL.ex e3, e3 _ _ hq, hT.ext e3, lt, len, fun p H4 f x t h => k p H4 (own a L) (by
          rw [he.ask h8 s0]
          exact ⟨a, L, dx, rfl, x _ _ (e3 _ _ od) (fun ps z => by cases z), (SL.ex e3).exN x, A⟩) (fun b hb => .inl hb) (fun b o hb _ _ n3 => x b o (e3 _ _ hb) n3) (FrN.back' (ExtN.ex e3) f) t h⟩
      refine q_when (b := decide (n ≤ 7)) (et_test (ev_op (ev_var rfl) (ev_n 7) rv_leN)) (fun hb H3 e3 => ?_) fun hb H3 e3 => ?_
      · have e13 := e12.trans e3
        refine s_retSp (ea_cons (ev_fld (v := .ref a) (ev_var rfl) (e13 _ _ od) T.clD T.dStore rfl) (ea_cons (ev_var rfl) (ea_cons (ev_var rfl) ea_nil))) fun H4 e4 => ?_
        have e14 := e13.trans e4
        refine ⟨a, q, L, s0, n, l, call, rfl, he, n1, of_decide_eq_true hb, SL.ex e14, A, e14 _ _ hq, fun p H5 d2 => ?_⟩
        obtain ⟨⟨L', s', h1, h2, h3, h4⟩, h5, h6, h7⟩ := d2.back e14
        refine k p H5 (own a L') ?_ (fun b hb => (h4 b hb).imp id FrN.of) (fun b o hb _ n2 _ => h5 b o hb fun z => n2 (List.mem_append_left _ z)) (FrN.of h6) ?_ h7
        · rw [h1]
          exact ⟨a, L', dx, rfl, h5 _ _ od nd, h2, h3⟩
        · refine tabs_keep hT fun b o hb ko => h5 b o hb (not_foot SL hb fun u pu e => ?_)
          rcases ko with ⟨ps, z⟩ | ⟨φ, z⟩
          · exact pu.1 ps (e.symm.trans z)
          · exact pu.2.1 φ (e.symm.trans z)
      have h8 : 8 ≤ n := by
        have := of_decide_eq_false hb
        omega
      have e13 := e12.trans e3
      refine q_when (b := decide (n ≤ 14)) (et_test (ev_op (ev_var rfl) (ev_n 14) rv_leN)) (fun hb H4 e4 => ?_) fun hb H4 e4 => ?_
      · have e14 := e13.trans e4
        exact s_retSp (ea_cons (ev_fld (v := .ref a) (ev_var rfl) (e14 _ _ od) T.clD T.dStore rfl) (ea_cons (ev_var rfl) (ea_cons (ev_var rfl) ea_nil))) fun H5 e5 => ⟨a, q, L, s0, n, l, call, rfl, he, h8, of_decide_eq_true hb, ask h8 _ (e14.trans e5)⟩
      have h15 : 15 ≤ n := by
        have := of_decide_eq_false hb
        omega
      have e14 := e13.trans e4
      refine q_when (b := decide (n ≤ 21)) (et_test (ev_op (ev_var rfl) (ev_n 21) rv_leN)) (fun hb H5 e5 => ?_) fun hb H5 e5 => ?_
      · have e15 := e14.trans e5
        exact s_retSp (ea_cons (ev_fld (v := .ref a) (ev_var rfl) (e15 _ _ od) T.clD T.dStore rfl) (ea_cons (ev_var rfl) (ea_cons (ev_var rfl) ea_nil))) fun H6 e6 => ⟨a, q, L, s0, n, l, call, rfl, he, h15, of_decide_eq_true hb, ask h8 _ (e15.trans e6)⟩
      have h22 : 22 ≤ n := by
        have := of_decide_eq_false hb
        omega
      have e15 := e14.trans e5
      exact s_retSp (ea_cons (ev_fld (v := .ref a) (ev_var rfl) (e15 _ _ od) T.clD T.dStore rfl) (ea_cons (ev_var rfl) (ea_cons (ev_var rfl) ea_nil))) fun H6 e6 => ⟨a, q, L, s0, n, l, call, rfl, he, h22, he.le, ask h8 _ (e15.trans e6)⟩
end
end Shelf
end

section
set_option maxHeartbeats 4000000
namespace Shelf
open PySem PySem.Spec PyProof.Rows L2 Evl LamX
/-! ### a request read call by call -/
abbrev intL (l : List Nat) : List Int := l.map fun x : Nat => (x : Int)
/-- what a call that is asked is -/
def Asks (c : List (List Int)) : Prop := ∃ (n : Nat) (l : List Nat) (call : Kp427.Call), c = [(n : Int) :: intL l] ∧ Enc n l call ∧ Kp427Neutral.callOf c = some call ∧ (∀ x ∈ l, x < 4294967296) ∧ l.length ≤ 9
theorem nat_ok {a : Int} (h : Kp427Neutral.natural a = true) : a = (a.toNat : Int) ∧ a.toNat < 4294967296 := by
  unfold Kp427Neutral.natural at h
  rw [Bool.and_eq_true, decide_eq_true_eq, decide_eq_true_eq] at h
  omega
theorem nats_ok : ∀ {l : List Int}, l.all Kp427Neutral.natural = true → l = intL (l.map Int.toNat) ∧ ∀ x ∈ l.map Int.toNat, x < 4294967296
  | [], _ => ⟨rfl, fun x hx => by cases hx⟩
  | a :: r, h => by
    rw [List.all_cons, Bool.and_eq_true] at h
    obtain ⟨h1, h2⟩ := nat_ok h.1
    obtain ⟨i1, i2⟩ := nats_ok h.2
    refine ⟨?_, fun x hx => ?_⟩
    · show a :: r = (a.toNat : Int) :: intL (r.map Int.toNat)
      rw [← h1, ← i1]
    · rcases List.mem_cons.mp hx with rfl | hx
      · exact h2
      · exact i2 x hx
theorem ask_0 {a b : Int} {l : List Int} (h : (Kp427Neutral.natural a && (Kp427Neutral.natural b && (l.all Kp427Neutral.natural && decide (l.length ≤ 6)))) = true) : Asks [0 :: a :: b ::  l] := by
  simp only [Bool.and_eq_true] at h
  obtain ⟨ha, hb, hl, hn⟩ := h
  obtain ⟨ea, la⟩ := nat_ok ha
  obtain ⟨eb, lb⟩ := nat_ok hb
  obtain ⟨el, ll⟩ := nats_ok hl
  rw [decide_eq_true_eq] at hn
  refine ⟨0, a.toNat :: b.toNat :: l.map Int.toNat, .create a.toNat b.toNat (l.map Int.toNat), ?_, .create _ _ _, rfl, fun x hx => ?_, ?_⟩
  · show [0 :: a :: b :: l] = [0 :: (a.toNat : Int) :: (b.toNat : Int) :: intL (l.map Int.toNat)]
    rw [← ea, ← eb, ← el]
  · simp only [List.mem_cons] at hx
    rcases hx with rfl | rfl | hx
    · exact la
    · exact lb
    · exact ll x hx
  · simp only [List.length_cons, List.length_map]
    omega
theorem ask_1 {a b c : Int} {l : List Int} (h : (Kp427Neutral.natural a && (Kp427Neutral.natural b && (Kp427Neutral.natural c && (l.all Kp427Neutral.natural && decide (l.length ≤ 6))))) = true) : Asks [1 :: a :: b :: c ::  l] := by
  simp only [Bool.and_eq_true] at h
  obtain ⟨ha, hb, hc, hl, hn⟩ := h
  obtain ⟨ea, la⟩ := nat_ok ha
  obtain ⟨eb, lb⟩ := nat_ok hb
  obtain ⟨ec, lc⟩ := nat_ok hc
  obtain ⟨el, ll⟩ := nats_ok hl
  rw [decide_eq_true_eq] at hn
  refine ⟨1, a.toNat :: b.toNat :: c.toNat :: l.map Int.toNat, .addItem a.toNat b.toNat c.toNat (l.map Int.toNat), ?_, .addItem _ _ _ _, rfl, fun x hx => ?_, ?_⟩
  · show [1 :: a :: b :: c :: l] = [1 :: (a.toNat : Int) :: (b.toNat : Int) :: (c.toNat : Int) :: intL (l.map Int.toNat)]
    rw [← ea, ← eb, ← ec, ← el]
  · simp only [List.mem_cons] at hx
    rcases hx with rfl | rfl | rfl | hx
    · exact la
    · exact lb
    · exact lc
    · exact ll x hx
  · simp only [List.length_cons, List.length_map]
    omega
theorem ask_2 {a b : Int} (h : (Kp427Neutral.natural a && (Kp427Neutral.natural b)) = true) : Asks [[2, a, b]] := by
  simp only [Bool.and_eq_true] at h
  obtain ⟨ha, hb⟩ := h
  obtain ⟨ea, la⟩ := nat_ok ha
  obtain ⟨eb, lb⟩ := nat_ok hb
  refine ⟨2, [a.toNat, b.toNat], .setPrice a.toNat b.toNat, ?_, .setPrice _ _, rfl, fun x hx => ?_, by simp⟩
  · show [[2, a, b]] = [[2, (a.toNat : Int), (b.toNat : Int)]]
    rw [← ea, ← eb]
  · simp only [List.mem_cons, List.not_mem_nil, or_false] at hx
    rcases hx with rfl | rfl
    · exact la
    · exact lb
theorem ask_3 {a b : Int} (h : (Kp427Neutral.natural a && (Kp427Neutral.natural b)) = true) : Asks [[3, a, b]] := by
  simp only [Bool.and_eq_true] at h
  obtain ⟨ha, hb⟩ := h
  obtain ⟨ea, la⟩ := nat_ok ha
  obtain ⟨eb, lb⟩ := nat_ok hb
  refine ⟨3, [a.toNat, b.toNat], .setWithdrawn a.toNat b.toNat, ?_, .setWithdrawn _ _, rfl, fun x hx => ?_, by simp⟩
  · show [[3, a, b]] = [[3, (a.toNat : Int), (b.toNat : Int)]]
    rw [← ea, ← eb]
  · simp only [List.mem_cons, List.not_mem_nil, or_false] at hx
    rcases hx with rfl | rfl
    · exact la
    · exact lb
theorem ask_4 {a b : Int} (h : (Kp427Neutral.natural a && (Kp427Neutral.natural b)) = true) : Asks [[4, a, b]] := by
  simp only [Bool.and_eq_true] at h
  obtain ⟨ha, hb⟩ := h
  obtain ⟨ea, la⟩ := nat_ok ha
  obtain ⟨eb, lb⟩ := nat_ok hb
  refine ⟨4, [a.toNat, b.toNat], .addMember a.toNat b.toNat, ?_, .addMember _ _, rfl, fun x hx => ?_, by simp⟩
  · show [[4, a, b]] = [[4, (a.toNat : Int), (b.toNat : Int)]]
    rw [← ea, ← eb]
  · simp only [List.mem_cons, List.not_mem_nil, or_false] at hx
    rcases hx with rfl | rfl
    · exact la
    · exact lb
theorem ask_5 {a : Int} (h : (Kp427Neutral.natural a) = true) : Asks [[5, a]] := by
  have ha := h
  obtain ⟨ea, la⟩ := nat_ok ha
  refine ⟨5, [a.toNat], .deleteMember a.toNat, ?_, .deleteMember _, rfl, fun x hx => ?_, by simp⟩
  · show [[5, a]] = [[5, (a.toNat : Int)]]
    rw [← ea]
  · simp only [List.mem_cons, List.not_mem_nil, or_false] at hx
    rw [hx]
    exact la
theorem ask_6 {a b c d e : Int} (h : (Kp427Neutral.natural a && (Kp427Neutral.natural b && (Kp427Neutral.natural c && (Kp427Neutral.natural d && (Kp427Neutral.natural e))))) = true) : Asks [[6, a, b, c, d, e]] := by
  simp only [Bool.and_eq_true] at h
  obtain ⟨ha, hb, hc, hd, he⟩ := h
  obtain ⟨ea, la⟩ := nat_ok ha
  obtain ⟨eb, lb⟩ := nat_ok hb
  obtain ⟨ec, lc⟩ := nat_ok hc
  obtain ⟨ed, ld⟩ := nat_ok hd
  obtain ⟨ee, le⟩ := nat_ok he
  refine ⟨6, [a.toNat, b.toNat, c.toNat, d.toNat, e.toNat], .record a.toNat b.toNat c.toNat d.toNat e.toNat, ?_, .record _ _ _ _ _, rfl, fun x hx => ?_, by simp⟩
  · show [[6, a, b, c, d, e]] = [[6, (a.toNat : Int), (b.toNat : Int), (c.toNat : Int), (d.toNat : Int), (e.toNat : Int)]]
    rw [← ea, ← eb, ← ec, ← ed, ← ee]
  · simp only [List.mem_cons, List.not_mem_nil, or_false] at hx
    rcases hx with rfl | rfl | rfl | rfl | rfl
    · exact la
    · exact lb
    · exact lc
    · exact ld
    · exact le
theorem ask_7 {a : Int} (h : (Kp427Neutral.natural a) = true) : Asks [[7, a]] := by
  have ha := h
  obtain ⟨ea, la⟩ := nat_ok ha
  refine ⟨7, [a.toNat], .expire a.toNat, ?_, .expire _, rfl, fun x hx => ?_, by simp⟩
  · show [[7, a]] = [[7, (a.toNat : Int)]]
    rw [← ea]
  · simp only [List.mem_cons, List.not_mem_nil, or_false] at hx
    rw [hx]
    exact la
theorem ask_8 {a : Int} (h : (Kp427Neutral.natural a) = true) : Asks [[8, a]] := by
  have ha := h
  obtain ⟨ea, la⟩ := nat_ok ha
  refine ⟨8, [a.toNat], .itemInfo a.toNat, ?_, .itemInfo _, rfl, fun x hx => ?_, by simp⟩
  · show [[8, a]] = [[8, (a.toNat : Int)]]
    rw [← ea]
  · simp only [List.mem_cons, List.not_mem_nil, or_false] at hx
    rw [hx]
    exact la
theorem ask_9 {a : Int} (h : (Kp427Neutral.natural a) = true) : Asks [[9, a]] := by
  have ha := h
  obtain ⟨ea, la⟩ := nat_ok ha
  refine ⟨9, [a.toNat], .memberInfo a.toNat, ?_, .memberInfo _, rfl, fun x hx => ?_, by simp⟩
  · show [[9, a]] = [[9, (a.toNat : Int)]]
    rw [← ea]
  · simp only [List.mem_cons, List.not_mem_nil, or_false] at hx
    rw [hx]
    exact la
theorem ask_10 {a b c : Int} (h : (Kp427Neutral.natural a && (Kp427Neutral.natural b && (Kp427Neutral.natural c))) = true) : Asks [[10, a, b, c]] := by
  simp only [Bool.and_eq_true] at h
  obtain ⟨ha, hb, hc⟩ := h
  obtain ⟨ea, la⟩ := nat_ok ha
  obtain ⟨eb, lb⟩ := nat_ok hb
  obtain ⟨ec, lc⟩ := nat_ok hc
  refine ⟨10, [a.toNat, b.toNat, c.toNat], .counts a.toNat b.toNat c.toNat, ?_, .counts _ _ _, rfl, fun x hx => ?_, by simp⟩
  · show [[10, a, b, c]] = [[10, (a.toNat : Int), (b.toNat : Int), (c.toNat : Int)]]
    rw [← ea, ← eb, ← ec]
  · simp only [List.mem_cons, List.not_mem_nil, or_false] at hx
    rcases hx with rfl | rfl | rfl
    · exact la
    · exact lb
    · exact lc
theorem ask_11 {a : Int} (h : (Kp427Neutral.natural a) = true) : Asks [[11, a]] := by
  have ha := h
  obtain ⟨ea, la⟩ := nat_ok ha
  refine ⟨11, [a.toNat], .ratings a.toNat, ?_, .ratings _, rfl, fun x hx => ?_, by simp⟩
  · show [[11, a]] = [[11, (a.toNat : Int)]]
    rw [← ea]
  · simp only [List.mem_cons, List.not_mem_nil, or_false] at hx
    rw [hx]
    exact la
theorem ask_12 {a b c : Int} (h : (Kp427Neutral.natural a && (Kp427Neutral.natural b && (Kp427Neutral.natural c))) = true) : Asks [[12, a, b, c]] := by
  simp only [Bool.and_eq_true] at h
  obtain ⟨ha, hb, hc⟩ := h
  obtain ⟨ea, la⟩ := nat_ok ha
  obtain ⟨eb, lb⟩ := nat_ok hb
  obtain ⟨ec, lc⟩ := nat_ok hc
  refine ⟨12, [a.toNat, b.toNat, c.toNat], .popularity a.toNat b.toNat c.toNat, ?_, .popularity _ _ _, rfl, fun x hx => ?_, by simp⟩
  · show [[12, a, b, c]] = [[12, (a.toNat : Int), (b.toNat : Int), (c.toNat : Int)]]
    rw [← ea, ← eb, ← ec]
  · simp only [List.mem_cons, List.not_mem_nil, or_false] at hx
    rcases hx with rfl | rfl | rfl
    · exact la
    · exact lb
    · exact lc
theorem ask_13 {a b c : Int} (h : (Kp427Neutral.natural a && (Kp427Neutral.natural b && (Kp427Neutral.natural c))) = true) : Asks [[13, a, b, c]] := by
  simp only [Bool.and_eq_true] at h
  obtain ⟨ha, hb, hc⟩ := h
  obtain ⟨ea, la⟩ := nat_ok ha
  obtain ⟨eb, lb⟩ := nat_ok hb
  obtain ⟨ec, lc⟩ := nat_ok hc
  refine ⟨13, [a.toNat, b.toNat, c.toNat], .topItems a.toNat b.toNat c.toNat, ?_, .topItems _ _ _, rfl, fun x hx => ?_, by simp⟩
  · show [[13, a, b, c]] = [[13, (a.toNat : Int), (b.toNat : Int), (c.toNat : Int)]]
    rw [← ea, ← eb, ← ec]
  · simp only [List.mem_cons, List.not_mem_nil, or_false] at hx
    rcases hx with rfl | rfl | rfl
    · exact la
    · exact lb
    · exact lc
theorem ask_14 {a b : Int} (h : (Kp427Neutral.natural a && (Kp427Neutral.natural b)) = true) : Asks [[14, a, b]] := by
  simp only [Bool.and_eq_true] at h
  obtain ⟨ha, hb⟩ := h
  obtain ⟨ea, la⟩ := nat_ok ha
  obtain ⟨eb, lb⟩ := nat_ok hb
  refine ⟨14, [a.toNat, b.toNat], .categories a.toNat b.toNat, ?_, .categories _ _, rfl, fun x hx => ?_, by simp⟩
  · show [[14, a, b]] = [[14, (a.toNat : Int), (b.toNat : Int)]]
    rw [← ea, ← eb]
  · simp only [List.mem_cons, List.not_mem_nil, or_false] at hx
    rcases hx with rfl | rfl
    · exact la
    · exact lb
theorem ask_15 {a : Int} (h : (Kp427Neutral.natural a) = true) : Asks [[15, a]] := by
  have ha := h
  obtain ⟨ea, la⟩ := nat_ok ha
  refine ⟨15, [a.toNat], .profile a.toNat, ?_, .profile _, rfl, fun x hx => ?_, by simp⟩
  · show [[15, a]] = [[15, (a.toNat : Int)]]
    rw [← ea]
  · simp only [List.mem_cons, List.not_mem_nil, or_false] at hx
    rw [hx]
    exact la
theorem ask_16 {a b : Int} (h : (Kp427Neutral.natural a && (Kp427Neutral.natural b)) = true) : Asks [[16, a, b]] := by
  simp only [Bool.and_eq_true] at h
  obtain ⟨ha, hb⟩ := h
  obtain ⟨ea, la⟩ := nat_ok ha
  obtain ⟨eb, lb⟩ := nat_ok hb
  refine ⟨16, [a.toNat, b.toNat], .history a.toNat b.toNat, ?_, .history _ _, rfl, fun x hx => ?_, by simp⟩
  · show [[16, a, b]] = [[16, (a.toNat : Int), (b.toNat : Int)]]
    rw [← ea, ← eb]
  · simp only [List.mem_cons, List.not_mem_nil, or_false] at hx
    rcases hx with rfl | rfl
    · exact la
    · exact lb
theorem ask_17 {a : Int} (h : (Kp427Neutral.natural a) = true) : Asks [[17, a]] := by
  have ha := h
  obtain ⟨ea, la⟩ := nat_ok ha
  refine ⟨17, [a.toNat], .sessions a.toNat, ?_, .sessions _, rfl, fun x hx => ?_, by simp⟩
  · show [[17, a]] = [[17, (a.toNat : Int)]]
    rw [← ea]
  · simp only [List.mem_cons, List.not_mem_nil, or_false] at hx
    rw [hx]
    exact la
theorem ask_18 {a b : Int} (h : (Kp427Neutral.natural a && (Kp427Neutral.natural b)) = true) : Asks [[18, a, b]] := by
  simp only [Bool.and_eq_true] at h
  obtain ⟨ha, hb⟩ := h
  obtain ⟨ea, la⟩ := nat_ok ha
  obtain ⟨eb, lb⟩ := nat_ok hb
  refine ⟨18, [a.toNat, b.toNat], .together a.toNat b.toNat, ?_, .together _ _, rfl, fun x hx => ?_, by simp⟩
  · show [[18, a, b]] = [[18, (a.toNat : Int), (b.toNat : Int)]]
    rw [← ea, ← eb]
  · simp only [List.mem_cons, List.not_mem_nil, or_false] at hx
    rcases hx with rfl | rfl
    · exact la
    · exact lb
theorem ask_19 {a b : Int} (h : (Kp427Neutral.natural a && (Kp427Neutral.natural b)) = true) : Asks [[19, a, b]] := by
  simp only [Bool.and_eq_true] at h
  obtain ⟨ha, hb⟩ := h
  obtain ⟨ea, la⟩ := nat_ok ha
  obtain ⟨eb, lb⟩ := nat_ok hb
  refine ⟨19, [a.toNat, b.toNat], .commonMembers a.toNat b.toNat, ?_, .commonMembers _ _, rfl, fun x hx => ?_, by simp⟩
  · show [[19, a, b]] = [[19, (a.toNat : Int), (b.toNat : Int)]]
    rw [← ea, ← eb]
  · simp only [List.mem_cons, List.not_mem_nil, or_false] at hx
    rcases hx with rfl | rfl
    · exact la
    · exact lb
theorem ask_20 {a : Int} (h : (Kp427Neutral.natural a) = true) : Asks [[20, a]] := by
  have ha := h
  obtain ⟨ea, la⟩ := nat_ok ha
  refine ⟨20, [a.toNat], .conversion a.toNat, ?_, .conversion _, rfl, fun x hx => ?_, by simp⟩
  · show [[20, a]] = [[20, (a.toNat : Int)]]
    rw [← ea]
  · simp only [List.mem_cons, List.not_mem_nil, or_false] at hx
    rw [hx]
    exact la
theorem ask_21 {a b : Int} {l : List Int} (h : (Kp427Neutral.natural a && (Kp427Neutral.natural b && (l.all Kp427Neutral.natural && decide (l.length ≤ 6)))) = true) : Asks [21 :: a :: b ::  l] := by
  simp only [Bool.and_eq_true] at h
  obtain ⟨ha, hb, hl, hn⟩ := h
  obtain ⟨ea, la⟩ := nat_ok ha
  obtain ⟨eb, lb⟩ := nat_ok hb
  obtain ⟨el, ll⟩ := nats_ok hl
  rw [decide_eq_true_eq] at hn
  refine ⟨21, a.toNat :: b.toNat :: l.map Int.toNat, .funnel a.toNat b.toNat (l.map Int.toNat), ?_, .funnel _ _ _, rfl, fun x hx => ?_, ?_⟩
  · show [21 :: a :: b :: l] = [21 :: (a.toNat : Int) :: (b.toNat : Int) :: intL (l.map Int.toNat)]
    rw [← ea, ← eb, ← el]
  · simp only [List.mem_cons] at hx
    rcases hx with rfl | rfl | hx
    · exact la
    · exact lb
    · exact ll x hx
  · simp only [List.length_cons, List.length_map]
    omega
theorem ask_22 {a b c : Int} (h : (Kp427Neutral.natural a && (Kp427Neutral.natural b && (Kp427Neutral.natural c))) = true) : Asks [[22, a, b, c]] := by
  simp only [Bool.and_eq_true] at h
  obtain ⟨ha, hb, hc⟩ := h
  obtain ⟨ea, la⟩ := nat_ok ha
  obtain ⟨eb, lb⟩ := nat_ok hb
  obtain ⟨ec, lc⟩ := nat_ok hc
  refine ⟨22, [a.toNat, b.toNat, c.toNat], .trending a.toNat b.toNat c.toNat, ?_, .trending _ _ _, rfl, fun x hx => ?_, by simp⟩
  · show [[22, a, b, c]] = [[22, (a.toNat : Int), (b.toNat : Int), (c.toNat : Int)]]
    rw [← ea, ← eb, ← ec]
  · simp only [List.mem_cons, List.not_mem_nil, or_false] at hx
    rcases hx with rfl | rfl | rfl
    · exact la
    · exact lb
    · exact lc
theorem ask_23 {a : Int} (h : (Kp427Neutral.natural a) = true) : Asks [[23, a]] := by
  have ha := h
  obtain ⟨ea, la⟩ := nat_ok ha
  refine ⟨23, [a.toNat], .unseen a.toNat, ?_, .unseen _, rfl, fun x hx => ?_, by simp⟩
  · show [[23, a]] = [[23, (a.toNat : Int)]]
    rw [← ea]
  · simp only [List.mem_cons, List.not_mem_nil, or_false] at hx
    rw [hx]
    exact la
theorem ask_24 {a : Int} (h : (Kp427Neutral.natural a) = true) : Asks [[24, a]] := by
  have ha := h
  obtain ⟨ea, la⟩ := nat_ok ha
  refine ⟨24, [a.toNat], .opinions a.toNat, ?_, .opinions _, rfl, fun x hx => ?_, by simp⟩
  · show [[24, a]] = [[24, (a.toNat : Int)]]
    rw [← ea]
  · simp only [List.mem_cons, List.not_mem_nil, or_false] at hx
    rw [hx]
    exact la
theorem ask_25 {a : Int} (h : (Kp427Neutral.natural a) = true) : Asks [[25, a]] := by
  have ha := h
  obtain ⟨ea, la⟩ := nat_ok ha
  refine ⟨25, [a.toNat], .split a.toNat, ?_, .split _, rfl, fun x hx => ?_, by simp⟩
  · show [[25, a]] = [[25, (a.toNat : Int)]]
    rw [← ea]
  · simp only [List.mem_cons, List.not_mem_nil, or_false] at hx
    rw [hx]
    exact la
theorem ask_26 {a b c : Int} (h : (Kp427Neutral.natural a && (Kp427Neutral.natural b && (Kp427Neutral.natural c))) = true) : Asks [[26, a, b, c]] := by
  simp only [Bool.and_eq_true] at h
  obtain ⟨ha, hb, hc⟩ := h
  obtain ⟨ea, la⟩ := nat_ok ha
  obtain ⟨eb, lb⟩ := nat_ok hb
  obtain ⟨ec, lc⟩ := nat_ok hc
  refine ⟨26, [a.toNat, b.toNat, c.toNat], .byCreator a.toNat b.toNat c.toNat, ?_, .byCreator _ _ _, rfl, fun x hx => ?_, by simp⟩
  · show [[26, a, b, c]] = [[26, (a.toNat : Int), (b.toNat : Int), (c.toNat : Int)]]
    rw [← ea, ← eb, ← ec]
  · simp only [List.mem_cons, List.not_mem_nil, or_false] at hx
    rcases hx with rfl | rfl | rfl
    · exact la
    · exact lb
    · exact lc
theorem ask_27 : Asks [[27]] := ⟨27, [], .digest, rfl, .digest, rfl, fun x hx => (by cases hx), by decide⟩
theorem ask_28 : Asks [[28]] := ⟨28, [], .status, rfl, .status, rfl, fun x hx => (by cases hx), by decide⟩
theorem off {P : Prop} (h : false = true) : P := Bool.noConfusion h
theorem asc_0 {l : List Int} {r : List (List Int)} (h : Kp427Neutral.asked1 ((Int.ofNat 0 :: l) :: r) = true) : Asks ((Int.ofNat 0 :: l) :: r) := by
  rcases l with _ | ⟨a, _ | ⟨b, l⟩⟩
  · cases r with
    | nil => exact off h
    | cons y r => exact off h
  · cases r with
    | nil => exact off h
    | cons y r => exact off h
  · cases r with
    | nil => exact ask_0 h
    | cons y r => exact off h
theorem asc_1 {l : List Int} {r : List (List Int)} (h : Kp427Neutral.asked1 ((Int.ofNat 1 :: l) :: r) = true) : Asks ((Int.ofNat 1 :: l) :: r) := by
  rcases l with _ | ⟨a, _ | ⟨b, _ | ⟨c, l⟩⟩⟩
  · cases r with
    | nil => exact off h
    | cons y r => exact off h
  · cases r with
    | nil => exact off h
    | cons y r => exact off h
  · cases r with
    | nil => exact off h
    | cons y r => exact off h
  · cases r with
    | nil => exact ask_1 h
    | cons y r => exact off h
theorem asc_2 {l : List Int} {r : List (List Int)} (h : Kp427Neutral.asked1 ((Int.ofNat 2 :: l) :: r) = true) : Asks ((Int.ofNat 2 :: l) :: r) := by
  rcases l with _ | ⟨a, _ | ⟨b, _ | ⟨z, l⟩⟩⟩
  · cases r with
    | nil => exact off h
    | cons y r => exact off h
  · cases r with
    | nil => exact off h
    | cons y r => exact off h
  · cases r with
    | nil => exact ask_2 h
    | cons y r => exact off h
  · cases r with
    | nil => exact off h
    | cons y r => exact off h
theorem asc_3 {l : List Int} {r : List (List Int)} (h : Kp427Neutral.asked1 ((Int.ofNat 3 :: l) :: r) = true) : Asks ((Int.ofNat 3 :: l) :: r) := by
  rcases l with _ | ⟨a, _ | ⟨b, _ | ⟨z, l⟩⟩⟩
  · cases r with
    | nil => exact off h
    | cons y r => exact off h
  · cases r with
    | nil => exact off h
    | cons y r => exact off h
  · cases r with
    | nil => exact ask_3 h
    | cons y r => exact off h
  · cases r with
    | nil => exact off h
    | cons y r => exact off h
theorem asc_4 {l : List Int} {r : List (List Int)} (h : Kp427Neutral.asked1 ((Int.ofNat 4 :: l) :: r) = true) : Asks ((Int.ofNat 4 :: l) :: r) := by
  rcases l with _ | ⟨a, _ | ⟨b, _ | ⟨z, l⟩⟩⟩
  · cases r with
    | nil => exact off h
    | cons y r => exact off h
  · cases r with
    | nil => exact off h
    | cons y r => exact off h
  · cases r with
    | nil => exact ask_4 h
    | cons y r => exact off h
  · cases r with
    | nil => exact off h
    | cons y r => exact off h
theorem asc_5 {l : List Int} {r : List (List Int)} (h : Kp427Neutral.asked1 ((Int.ofNat 5 :: l) :: r) = true) : Asks ((Int.ofNat 5 :: l) :: r) := by
  rcases l with _ | ⟨a, _ | ⟨z, l⟩⟩
  · cases r with
    | nil => exact off h
    | cons y r => exact off h
  · cases r with
    | nil => exact ask_5 h
    | cons y r => exact off h
  · cases r with
    | nil => exact off h
    | cons y r => exact off h
theorem asc_6 {l : List Int} {r : List (List Int)} (h : Kp427Neutral.asked1 ((Int.ofNat 6 :: l) :: r) = true) : Asks ((Int.ofNat 6 :: l) :: r) := by
  rcases l with _ | ⟨a, _ | ⟨b, _ | ⟨c, _ | ⟨d, _ | ⟨e, _ | ⟨z, l⟩⟩⟩⟩⟩⟩
  · cases r with
    | nil => exact off h
    | cons y r => exact off h
  · cases r with
    | nil => exact off h
    | cons y r => exact off h
  · cases r with
    | nil => exact off h
    | cons y r => exact off h
  · cases r with
    | nil => exact off h
    | cons y r => exact off h
  · cases r with
    | nil => exact off h
    | cons y r => exact off h
  · cases r with
    | nil => exact ask_6 h
    | cons y r => exact off h
  · cases r with
    | nil => exact off h
    | cons y r => exact off h
theorem asc_7 {l : List Int} {r : List (List Int)} (h : Kp427Neutral.asked1 ((Int.ofNat 7 :: l) :: r) = true) : Asks ((Int.ofNat 7 :: l) :: r) := by
  rcases l with _ | ⟨a, _ | ⟨z, l⟩⟩
  · cases r with
    | nil => exact off h
    | cons y r => exact off h
  · cases r with
    | nil => exact ask_7 h
    | cons y r => exact off h
  · cases r with
    | nil => exact off h
    | cons y r => exact off h
theorem asc_8 {l : List Int} {r : List (List Int)} (h : Kp427Neutral.asked1 ((Int.ofNat 8 :: l) :: r) = true) : Asks ((Int.ofNat 8 :: l) :: r) := by
  rcases l with _ | ⟨a, _ | ⟨z, l⟩⟩
  · cases r with
    | nil => exact off h
    | cons y r => exact off h
  · cases r with
    | nil => exact ask_8 h
    | cons y r => exact off h
  · cases r with
    | nil => exact off h
    | cons y r => exact off h
theorem asc_9 {l : List Int} {r : List (List Int)} (h : Kp427Neutral.asked1 ((Int.ofNat 9 :: l) :: r) = true) : Asks ((Int.ofNat 9 :: l) :: r) := by
  rcases l with _ | ⟨a, _ | ⟨z, l⟩⟩
  · cases r with
    | nil => exact off h
    | cons y r => exact off h
  · cases r with
    | nil => exact ask_9 h
    | cons y r => exact off h
  · cases r with
    | nil => exact off h
    | cons y r => exact off h
theorem asc_10 {l : List Int} {r : List (List Int)} (h : Kp427Neutral.asked1 ((Int.ofNat 10 :: l) :: r) = true) : Asks ((Int.ofNat 10 :: l) :: r) := by
  rcases l with _ | ⟨a, _ | ⟨b, _ | ⟨c, _ | ⟨z, l⟩⟩⟩⟩
  · cases r with
    | nil => exact off h
    | cons y r => exact off h
  · cases r with
    | nil => exact off h
    | cons y r => exact off h
  · cases r with
    | nil => exact off h
    | cons y r => exact off h
  · cases r with
    | nil => exact ask_10 h
    | cons y r => exact off h
  · cases r with
    | nil => exact off h
    | cons y r => exact off h
theorem asc_11 {l : List Int} {r : List (List Int)} (h : Kp427Neutral.asked1 ((Int.ofNat 11 :: l) :: r) = true) : Asks ((Int.ofNat 11 :: l) :: r) := by
  rcases l with _ | ⟨a, _ | ⟨z, l⟩⟩
  · cases r with
    | nil => exact off h
    | cons y r => exact off h
  · cases r with
    | nil => exact ask_11 h
    | cons y r => exact off h
  · cases r with
    | nil => exact off h
    | cons y r => exact off h
theorem asc_12 {l : List Int} {r : List (List Int)} (h : Kp427Neutral.asked1 ((Int.ofNat 12 :: l) :: r) = true) : Asks ((Int.ofNat 12 :: l) :: r) := by
  rcases l with _ | ⟨a, _ | ⟨b, _ | ⟨c, _ | ⟨z, l⟩⟩⟩⟩
  · cases r with
    | nil => exact off h
    | cons y r => exact off h
  · cases r with
    | nil => exact off h
    | cons y r => exact off h
  · cases r with
    | nil => exact off h
    | cons y r => exact off h
  · cases r with
    | nil => exact ask_12 h
    | cons y r => exact off h
  · cases r with
    | nil => exact off h
    | cons y r => exact off h
theorem asc_13 {l : List Int} {r : List (List Int)} (h : Kp427Neutral.asked1 ((Int.ofNat 13 :: l) :: r) = true) : Asks ((Int.ofNat 13 :: l) :: r) := by
  rcases l with _ | ⟨a, _ | ⟨b, _ | ⟨c, _ | ⟨z, l⟩⟩⟩⟩
  · cases r with
    | nil => exact off h
    | cons y r => exact off h
  · cases r with
    | nil => exact off h
    | cons y r => exact off h
  · cases r with
    | nil => exact off h
    | cons y r => exact off h
  · cases r with
    | nil => exact ask_13 h
    | cons y r => exact off h
  · cases r with
    | nil => exact off h
    | cons y r => exact off h
theorem asc_14 {l : List Int} {r : List (List Int)} (h : Kp427Neutral.asked1 ((Int.ofNat 14 :: l) :: r) = true) : Asks ((Int.ofNat 14 :: l) :: r) := by
  rcases l with _ | ⟨a, _ | ⟨b, _ | ⟨z, l⟩⟩⟩
  · cases r with
    | nil => exact off h
    | cons y r => exact off h
  · cases r with
    | nil => exact off h
    | cons y r => exact off h
  · cases r with
    | nil => exact ask_14 h
    | cons y r => exact off h
  · cases r with
    | nil => exact off h
    | cons y r => exact off h
theorem asc_15 {l : List Int} {r : List (List Int)} (h : Kp427Neutral.asked1 ((Int.ofNat 15 :: l) :: r) = true) : Asks ((Int.ofNat 15 :: l) :: r) := by
  rcases l with _ | ⟨a, _ | ⟨z, l⟩⟩
  · cases r with
    | nil => exact off h
    | cons y r => exact off h
  · cases r with
    | nil => exact ask_15 h
    | cons y r => exact off h
  · cases r with
    | nil => exact off h
    | cons y r => exact off h
theorem asc_16 {l : List Int} {r : List (List Int)} (h : Kp427Neutral.asked1 ((Int.ofNat 16 :: l) :: r) = true) : Asks ((Int.ofNat 16 :: l) :: r) := by
  rcases l with _ | ⟨a, _ | ⟨b, _ | ⟨z, l⟩⟩⟩
  · cases r with
    | nil => exact off h
    | cons y r => exact off h
  · cases r with
    | nil => exact off h
    | cons y r => exact off h
  · cases r with
    | nil => exact ask_16 h
    | cons y r => exact off h
  · cases r with
    | nil => exact off h
    | cons y r => exact off h
theorem asc_17 {l : List Int} {r : List (List Int)} (h : Kp427Neutral.asked1 ((Int.ofNat 17 :: l) :: r) = true) : Asks ((Int.ofNat 17 :: l) :: r) := by
  rcases l with _ | ⟨a, _ | ⟨z, l⟩⟩
  · cases r with
    | nil => exact off h
    | cons y r => exact off h
  · cases r with
    | nil => exact ask_17 h
    | cons y r => exact off h
  · cases r with
    | nil => exact off h
    | cons y r => exact off h
theorem asc_18 {l : List Int} {r : List (List Int)} (h : Kp427Neutral.asked1 ((Int.ofNat 18 :: l) :: r) = true) : Asks ((Int.ofNat 18 :: l) :: r) := by
  rcases l with _ | ⟨a, _ | ⟨b, _ | ⟨z, l⟩⟩⟩
  · cases r with
    | nil => exact off h
    | cons y r => exact off h
  · cases r with
    | nil => exact off h
    | cons y r => exact off h
  · cases r with
    | nil => exact ask_18 h
    | cons y r => exact off h
  · cases r with
    | nil => exact off h
    | cons y r => exact off h
theorem asc_19 {l : List Int} {r : List (List Int)} (h : Kp427Neutral.asked1 ((Int.ofNat 19 :: l) :: r) = true) : Asks ((Int.ofNat 19 :: l) :: r) := by
  rcases l with _ | ⟨a, _ | ⟨b, _ | ⟨z, l⟩⟩⟩
  · cases r with
    | nil => exact off h
    | cons y r => exact off h
  · cases r with
    | nil => exact off h
    | cons y r => exact off h
  · cases r with
    | nil => exact ask_19 h
    | cons y r => exact off h
  · cases r with
    | nil => exact off h
    | cons y r => exact off h
theorem asc_20 {l : List Int} {r : List (List Int)} (h : Kp427Neutral.asked1 ((Int.ofNat 20 :: l) :: r) = true) : Asks ((Int.ofNat 20 :: l) :: r) := by
  rcases l with _ | ⟨a, _ | ⟨z, l⟩⟩
  · cases r with
    | nil => exact off h
    | cons y r => exact off h
  · cases r with
    | nil => exact ask_20 h
    | cons y r => exact off h
  · cases r with
    | nil => exact off h
    | cons y r => exact off h
theorem asc_21 {l : List Int} {r : List (List Int)} (h : Kp427Neutral.asked1 ((Int.ofNat 21 :: l) :: r) = true) : Asks ((Int.ofNat 21 :: l) :: r) := by
  rcases l with _ | ⟨a, _ | ⟨b, l⟩⟩
  · cases r with
    | nil => exact off h
    | cons y r => exact off h
  · cases r with
    | nil => exact off h
    | cons y r => exact off h
  · cases r with
    | nil => exact ask_21 h
    | cons y r => exact off h
theorem asc_22 {l : List Int} {r : List (List Int)} (h : Kp427Neutral.asked1 ((Int.ofNat 22 :: l) :: r) = true) : Asks ((Int.ofNat 22 :: l) :: r) := by
  rcases l with _ | ⟨a, _ | ⟨b, _ | ⟨c, _ | ⟨z, l⟩⟩⟩⟩
  · cases r with
    | nil => exact off h
    | cons y r => exact off h
  · cases r with
    | nil => exact off h
    | cons y r => exact off h
  · cases r with
    | nil => exact off h
    | cons y r => exact off h
  · cases r with
    | nil => exact ask_22 h
    | cons y r => exact off h
  · cases r with
    | nil => exact off h
    | cons y r => exact off h
theorem asc_23 {l : List Int} {r : List (List Int)} (h : Kp427Neutral.asked1 ((Int.ofNat 23 :: l) :: r) = true) : Asks ((Int.ofNat 23 :: l) :: r) := by
  rcases l with _ | ⟨a, _ | ⟨z, l⟩⟩
  · cases r with
    | nil => exact off h
    | cons y r => exact off h
  · cases r with
    | nil => exact ask_23 h
    | cons y r => exact off h
  · cases r with
    | nil => exact off h
    | cons y r => exact off h
theorem asc_24 {l : List Int} {r : List (List Int)} (h : Kp427Neutral.asked1 ((Int.ofNat 24 :: l) :: r) = true) : Asks ((Int.ofNat 24 :: l) :: r) := by
  rcases l with _ | ⟨a, _ | ⟨z, l⟩⟩
  · cases r with
    | nil => exact off h
    | cons y r => exact off h
  · cases r with
    | nil => exact ask_24 h
    | cons y r => exact off h
  · cases r with
    | nil => exact off h
    | cons y r => exact off h
theorem asc_25 {l : List Int} {r : List (List Int)} (h : Kp427Neutral.asked1 ((Int.ofNat 25 :: l) :: r) = true) : Asks ((Int.ofNat 25 :: l) :: r) := by
  rcases l with _ | ⟨a, _ | ⟨z, l⟩⟩
  · cases r with
    | nil => exact off h
    | cons y r => exact off h
  · cases r with
    | nil => exact ask_25 h
    | cons y r => exact off h
  · cases r with
    | nil => exact off h
    | cons y r => exact off h
theorem asc_26 {l : List Int} {r : List (List Int)} (h : Kp427Neutral.asked1 ((Int.ofNat 26 :: l) :: r) = true) : Asks ((Int.ofNat 26 :: l) :: r) := by
  rcases l with _ | ⟨a, _ | ⟨b, _ | ⟨c, _ | ⟨z, l⟩⟩⟩⟩
  · cases r with
    | nil => exact off h
    | cons y r => exact off h
  · cases r with
    | nil => exact off h
    | cons y r => exact off h
  · cases r with
    | nil => exact off h
    | cons y r => exact off h
  · cases r with
    | nil => exact ask_26 h
    | cons y r => exact off h
  · cases r with
    | nil => exact off h
    | cons y r => exact off h
theorem asc_27 {l : List Int} {r : List (List Int)} (h : Kp427Neutral.asked1 ((Int.ofNat 27 :: l) :: r) = true) : Asks ((Int.ofNat 27 :: l) :: r) := by
  rcases l with _ | ⟨z, l⟩
  · cases r with
    | nil => exact ask_27
    | cons y r => exact off h
  · cases r with
    | nil => exact off h
    | cons y r => exact off h
theorem asc_28 {l : List Int} {r : List (List Int)} (h : Kp427Neutral.asked1 ((Int.ofNat 28 :: l) :: r) = true) : Asks ((Int.ofNat 28 :: l) :: r) := by
  rcases l with _ | ⟨z, l⟩
  · cases r with
    | nil => exact ask_28
    | cons y r => exact off h
  · cases r with
    | nil => exact off h
    | cons y r => exact off h
theorem asked_enc : ∀ {c : List (List Int)}, Kp427Neutral.asked1 c = true → Asks c
  | [], h => off h
  | [] :: r, h => off h
  | (Int.negSucc m :: l) :: r, h => off h
  | (Int.ofNat 0 :: l) :: r, h => asc_0 h
  | (Int.ofNat 1 :: l) :: r, h => asc_1 h
  | (Int.ofNat 2 :: l) :: r, h => asc_2 h
  | (Int.ofNat 3 :: l) :: r, h => asc_3 h
  | (Int.ofNat 4 :: l) :: r, h => asc_4 h
  | (Int.ofNat 5 :: l) :: r, h => asc_5 h
  | (Int.ofNat 6 :: l) :: r, h => asc_6 h
  | (Int.ofNat 7 :: l) :: r, h => asc_7 h
  | (Int.ofNat 8 :: l) :: r, h => asc_8 h
  | (Int.ofNat 9 :: l) :: r, h => asc_9 h
  | (Int.ofNat 10 :: l) :: r, h => asc_10 h
  | (Int.ofNat 11 :: l) :: r, h => asc_11 h
  | (Int.ofNat 12 :: l) :: r, h => asc_12 h
  | (Int.ofNat 13 :: l) :: r, h => asc_13 h
  | (Int.ofNat 14 :: l) :: r, h => asc_14 h
  | (Int.ofNat 15 :: l) :: r, h => asc_15 h
  | (Int.ofNat 16 :: l) :: r, h => asc_16 h
  | (Int.ofNat 17 :: l) :: r, h => asc_17 h
  | (Int.ofNat 18 :: l) :: r, h => asc_18 h
  | (Int.ofNat 19 :: l) :: r, h => asc_19 h
  | (Int.ofNat 20 :: l) :: r, h => asc_20 h
  | (Int.ofNat 21 :: l) :: r, h => asc_21 h
  | (Int.ofNat 22 :: l) :: r, h => asc_22 h
  | (Int.ofNat 23 :: l) :: r, h => asc_23 h
  | (Int.ofNat 24 :: l) :: r, h => asc_24 h
  | (Int.ofNat 25 :: l) :: r, h => asc_25 h
  | (Int.ofNat 26 :: l) :: r, h => asc_26 h
  | (Int.ofNat 27 :: l) :: r, h => asc_27 h
  | (Int.ofNat 28 :: l) :: r, h => asc_28 h
  | (Int.ofNat (m + 29) :: l) :: r, h => off h
theorem rows_nil {k : Nat} {r u : List Int} (h : PyFlat.rows k r = some ([], u)) : k = 0 ∧ u = r := by
  cases k with
  | zero =>
    have e : some (([] : List (List Int)), r) = some ([], u) := h
    injection e with e
    injection e with _ e
    exact ⟨rfl, e.symm⟩
  | succ k =>
    unfold PyFlat.rows at h
    split at h
    · cases h
    · split at h
      · cases h
      · injection h with h
        injection h with h
        cases h
theorem calls_step {f p : Nat} {r : List Nat} {rest : List (List (List Int))} (h : PyWide.calls f (intL (p :: r)) = some rest) (ha : rest.all Kp427Neutral.asked1 = true) :
    ∃ (k : Nat) (tl t : List Nat) (f' : Nat) (rest' : List (List (List Int))) (call : Kp427.Call), r = k :: tl ∧ tl.drop k = 0 :: t ∧ Enc p (tl.take k) call ∧ rest = [(p : Int) :: intL (tl.take k)] :: rest' ∧ Kp427Neutral.callOf [(p : Int) :: intL (tl.take k)] = some call ∧
      PyWide.calls f' (intL t) = some rest' ∧ rest'.all Kp427Neutral.asked1 = true ∧ (∀ x ∈ tl.take k, x < 4294967296) ∧ (tl.take k).length ≤ 9 := by
  cases f with
  | zero => cases h
  | succ f =>
    have h0 : (match PyWide.call ((p : Int) :: intL r) with
      | none => none
      | some (c, t) => match PyWide.calls f t with
        | none => none
        | some cs => some (c :: cs)) = some rest := h
    cases hc : PyWide.call ((p : Int) :: intL r) with
    | none =>
      rw [hc] at h0
      cases h0
    | some ct =>
      obtain ⟨c, t0⟩ := ct
      rw [hc] at h0
      cases hs : PyWide.calls f t0 with
      | none =>
        have h1 : (match PyWide.calls f t0 with
          | none => none
          | some cs => some (c :: cs)) = some rest := h0
        rw [hs] at h1
        cases h1
      | some cs =>
        have h1 : (match PyWide.calls f t0 with
          | none => none
          | some cs => some (c :: cs)) = some rest := h0
        rw [hs] at h1
        have h2 : c :: cs = rest := Option.some.inj h1
        subst h2
        rw [List.all_cons, Bool.and_eq_true] at ha
        obtain ⟨n, l, call, e1, e2, e3, e4, e5⟩ := asked_enc ha.1
        cases r with
        | nil => cases hc
        | cons k tl =>
          have h3 : (match (if (0 : Int) ≤ (k : Int) ∧ (k : Int).toNat ≤ (intL tl).length then some ((intL tl).take (k : Int).toNat, (intL tl).drop (k : Int).toNat) else none) with
            | none => none
            | some (_, []) => none
            | some (ns, j :: t) => if 0 ≤ j then (match PyFlat.rows j.toNat t with
              | none => none
              | some (xs, u) => some (((p : Int) :: ns) :: xs, u)) else none) = some (c, t0) := hc
          rw [Int.toNat_natCast] at h3
          by_cases hk : (0 : Int) ≤ (k : Int) ∧ k ≤ (intL tl).length
          · rw [if_pos hk] at h3
            have d1 : (intL tl).drop k = intL (tl.drop k) := (List.map_drop ..).symm
            have d2 : (intL tl).take k = intL (tl.take k) := (List.map_take ..).symm
            rw [d1, d2] at h3
            cases hd : tl.drop k with
            | nil =>
              rw [hd] at h3
              cases h3
            | cons j t =>
              rw [hd] at h3
              have h4 : (if (0 : Int) ≤ (j : Int) then (match PyFlat.rows (j : Int).toNat (intL t) with
                | none => none
                | some (xs, u) => some (((p : Int) :: intL (tl.take k)) :: xs, u)) else none) = some (c, t0) := h3
              rw [if_pos (Int.natCast_nonneg j), Int.toNat_natCast] at h4
              cases hr : PyFlat.rows j (intL t) with
              | none =>
                rw [hr] at h4
                cases h4
              | some xu =>
                obtain ⟨xs, u⟩ := xu
                rw [hr] at h4
                have h5 : ((((p : Int) :: intL (tl.take k)) :: xs), u) = (c, t0) := Option.some.inj h4
                injection h5 with h6 h7
                rw [← h6] at e1
                injection e1 with e6 e7
                subst e7
                injection e6 with e8 e9
                obtain ⟨rfl, rfl⟩ := rows_nil hr
                have ep : p = n := Int.ofNat.inj e8
                subst ep
                have el : tl.take k = l := by
                  exact (List.map_inj_right (f := fun x : Nat => (x : Int)) fun (x y : Nat) h => Int.ofNat.inj h).mp e9
                subst el
                rw [← h6] at e3
                subst h7
                exact ⟨k, tl, t, f, cs, call, rfl, hd, e2, by rw [← h6], e3, hs, ha.2, e4, e5⟩
          · rw [if_neg hk] at h3
            cases h3
end Shelf
end

section
set_option maxHeartbeats 4000000
namespace Shelf
open PySem PySem.Spec PyProof.Rows L2 Evl LamX
/-- a list that is locked, or the top's -/
def Fz (K : PySem.W.Frag) (H : Hp) (a : Addr) (xs : List V) : Prop := (∃ o, H a = some (.frz o (.lst xs))) ∨ ∀ H', SqL K H' a xs
theorem Fz.sq {K : PySem.W.Frag} {H : Hp} {a : Addr} {xs : List V} (h : Fz K H a xs) : SqL K H a xs := by
  rcases h with ⟨o, h⟩ | h
  · exact .inl (.inr ⟨o, h⟩)
  · exact h H
theorem Fz.keep {K : PySem.W.Frag} {H H' : Hp} {a : Addr} {xs : List V} (h : Fz K H a xs) (k : ∀ o u, H a = some (.frz o u) → H' a = some (.frz o u)) : Fz K H' a xs := by
  rcases h with ⟨o, h⟩ | h
  · exact .inl ⟨o, k _ _ h⟩
  · exact .inr h
section
variable {c : Adr} {H H' : Hp} {a b d t : Addr} {L : Lay} {s : Kp427.Store} {st : Kp427.State} {W : List Addr} {xs : List V}
theorem StL.other (S : StL c H a L s) (ht : H t = some (.lst xs)) (n : t ∉ own a L) (k : Kept t H H') : StL c H' a L s := by
  have nf : ∀ {b : Addr}, b ∈ foot a L → b ≠ t := fun {b} hb z => n (List.mem_append_left _ (z ▸ hb))
  have nl : ∀ {b : Addr}, b ∈ lists L → b ≠ t := fun {b} hb z => n (List.mem_append_right _ (z ▸ hb))
  have i1 : ∀ u ∈ L.its, u.1 ∈ foot a L := fun u hu => its_foot hu
  have i2 : ∀ u ∈ L.its, u.2.1 ∈ lists L := fun u hu => List.mem_cons_of_mem _ (List.mem_map.mpr ⟨u, hu, rfl⟩)
  refine ⟨⟨k _ _ S.ob (nf (by simp [foot])), k _ _ S.wt (nl (by simp [lists])), k _ _ S.sh (nf (by simp [foot])), fun u hu => ?_, S.its, k _ _ S.ev (nf (by simp [foot])), fun u hu => ?_, S.eve, S.good⟩, k _ _ S.mb (nf (by simp [foot]))⟩
  · obtain ⟨⟨dx, o1⟩, o2⟩ := S.it u hu
    exact ⟨⟨dx, k _ _ o1 (nf (i1 u hu))⟩, k _ _ o2 (nl (i2 u hu))⟩
  · obtain ⟨dx, o1⟩ := S.evs u hu
    exact ⟨dx, k _ _ o1 (ho_ne ht o1 lst_ins).symm⟩
theorem DeskAt.other (h : DeskAt c H d st W) (ht : H t = some (.lst xs)) (n : t ∉ W) (k : Kept t H H') : DeskAt c H' d st W := by
  cases st with
  | none =>
    obtain ⟨h1, dx, h2⟩ := h
    exact ⟨h1, dx, k _ _ h2 (ho_ne ht h2 lst_ins).symm⟩
  | some s =>
    obtain ⟨a, L, dx, h1, h2, h3, h4⟩ := h
    subst h1
    exact ⟨a, L, dx, rfl, k _ _ h2 (ho_ne ht h2 lst_ins).symm, h3.other ht n k, h4⟩
end
/-- what the loop keeps; t: the answers told so far -/
structure Told (K : PySem.W.Frag) (c : Adr) (PT ca d t : Addr) (ms : List Nat) (R : List Int) (i : Nat) (H : Hp) : Prop where
  ex : ∃ (st : Kp427.State) (W : List Addr) (acc : List Int) (f : Nat) (rest : List (List (List Int))), PyWide.calls f (intL (ms.drop i)) = some rest ∧ rest.all Kp427Neutral.asked1 = true ∧ DeskAt c H d st W ∧ H t = some (.lst (acc.map V.int)) ∧ t ∉ W ∧
    acc ++ PyFlat.told (PyFlat.played Kp427Neutral.step st rest) = R
  le : i ≤ ms.length
  fz : Fz K H ca (ms.map nV)
  tb : Tabs (tabG PT) H
section
variable {K : PySem.W.Frag} {c : Adr} {PT ca d t : Addr} {ms : List Nat} {R : List Int} {i : Nat} {H H' : Hp}
theorem Told.exx (h : Told K c PT ca d t ms R i H) (e : Ex H H') : Told K c PT ca d t ms R i H' := by
  obtain ⟨⟨st, W, acc, f, rest, h1, h2, h3, h4, h5, h6⟩, le, fz, tb⟩ := h
  exact ⟨⟨st, W, acc, f, rest, h1, h2, h3.ex e, e _ _ h4, h5, h6⟩, le, fz.keep fun o u z => e _ _ z, tb.ext e⟩
variable {σ : L2.St} {D : Ends} {tz : TS} {ta te : TE} {C : Addr} {fs : List (Str × V)}
theorem q_asgI {j : Nat} (h : EvI te σ H C fs) (k : ∀ x H1, H x = none → Ex H H1 → (∃ dx, H1 x = some (.ins C dx fs)) → tz D (σ.set j (some (.ref x))) H1) : tSeq (tAsg te (gName j)) tz D σ H := h H (Ex.refl H) _ fun x H1 hx e hi => k x H1 hx e hi
theorem q_appS {l : Addr} {xs : List V} {v : V} (hl : H l = some (.lst xs)) (ha : Ev ta σ H (.ref l)) (h : Ev te σ H v) (hz : xs.length < sizeLine) (k : ∀ H1, Ex H H1 → tz D σ (upd H1 l (.lst (xs ++ [v])))) :
    tSeq (tDrop (tBM K "list" rAppend ta (tCons te tNil))) tz D σ H := ha H (Ex.refl H) _ fun H1 e1 =>
  ⟨Or.inl ⟨rfl, xs, sq_of (e1 l _ hl)⟩, h H1 e1 _ fun H2 e2 => ⟨l, xs, v, rfl, rfl, e2 l _ (e1 l _ hl), hz, k H2 (e1.trans e2)⟩⟩
theorem q_extS {l p : Addr} {xs ys : List V} (hl : H l = some (.lst xs)) (hp : H p = some (.lst ys)) (ha : Ev ta σ H (.ref l)) (h : Ev te σ H (.ref p)) (hz : xs.length + ys.length ≤ sizeLine) (k : ∀ H1, Ex H H1 → tz D σ (upd H1 l (.lst (xs ++ ys)))) :
    tSeq (tDrop (tBM K "list" rExtend ta (tCons te tNil))) tz D σ H := ha H (Ex.refl H) _ fun H1 e1 =>
  ⟨Or.inl ⟨rfl, xs, sq_of (e1 l _ hl)⟩, h H1 e1 _ fun H2 e2 => ⟨l, p, xs, ys, rfl, rfl, e2 l _ (e1 l _ hl), e2 p _ (e1 p _ hp), hz, k H2 (e1.trans e2)⟩⟩
end
section
variable {P : Program} {w : World} {K : PySem.W.Frag} {mg : Str → Option Value} {base : Heap} {c : Adr} {PT : Addr}
abbrev s_answers : Stmt := top 116
abbrev n_answers : List Str := ["calls", "desk", "told", "position", "first", "behind", "answer"]
theorem sc_answers : FnScope n_answers ["calls"] (defScope s_answers) := ⟨rfl, rfl, rfl, by decide +kernel, rfl, by decide +kernel, by decide +kernel⟩
def sp_answers (K : PySem.W.Frag) (PT : Addr) : Sp := fun vs H Q _ => ∃ (ca : Addr) (ms : List Nat) (f : Nat) (cs : List (List (List Int))), vs = [.ref ca] ∧ Fz K H ca (ms.map nV) ∧ ms.length ≤ 1000 ∧ Tabs (tabG PT) H ∧ PyWide.calls f (intL ms) = some cs ∧ cs.all Kp427Neutral.asked1 = true ∧
  (PyFlat.told (PyFlat.played Kp427Neutral.step Kp427Neutral.start cs)).length ≤ 10000000 ∧ ∀ p H', H' p = some (.lst ((PyFlat.told (PyFlat.played Kp427Neutral.step Kp427Neutral.start cs)).map V.int)) → Q (.ref p) H'
theorem d_answers (T : Txt K mg c) (D_Desk : NewAt P w K mg base 1 "Desk" c.D ["self"] (p_new c.D 0 fun _ => [("store", .non)])) (D_answer_call : DefAt P w K mg base 6 "answer_call" ["desk", "number", "numbers"] (sp_call c PT))
    {f : Addr} {fd : FuncData} (F : Fun K "answers" "answers" s_answers f fd) : FnOk P w K mg base CX0 7 f fd ["calls"] (sp_answers K PT) := by
  refine F.ok sc_answers (fun vs H Q E h => ?_) (fun cdv A outer s H vs Q E hr h => ?_)
  · obtain ⟨ca, ms, f, cs, rfl, _⟩ := h
    rfl
  · obtain ⟨ca, ms, f0, cs, rfl, hfz, hml, hT, hc, hask, hlen, k⟩ := h
    generalize hR : PyFlat.told (PyFlat.played Kp427Neutral.step Kp427Neutral.start cs) = R at hlen k
    refine ⟨_, (pss_cons (ps_set (i := 1) sc_answers.nd rfl (Or.inl rfl) (pmD0 D_Desk (hr.mono (by decide)))) (pss_cons (ps_set (i := 2) sc_answers.nd rfl (Or.inl rfl) (pe_lst pa_nil)) (pss_cons (ps_set (i := 3) sc_answers.nd rfl (Or.inl rfl) pe_int) (pss_cons (ps_while PassesOwn.never (pt_cmpR op_lt (pv 3) (pe_callB call_len_seq (by rfl) T.b_len PySem.boot_len (pa_cons (pv 0) pa_nil)) (nomark _)) (pss_cons (ps_set (i := 4) sc_answers.nd rfl (Or.inl rfl) (pe_op op_add (pv 3) pe_int)) (pss_cons (ps_set (i := 5) sc_answers.nd rfl (Or.inl rfl) (pe_op op_add (pv 4) (ixK (K := K) (pv 0) (pe_op op_add (pv 3) pe_int)))) (pss_cons (ps_set (i := 6) sc_answers.nd rfl (Or.inl rfl) (pcD D_answer_call hr (pa_cons (pv 1) (pa_cons (ixK (K := K) (pv 0) (pv 3)) (pa_cons (pe_slice sl_list (pv 0) (po_some (pv 4)) (po_some (pv 5))) pa_nil))))) (pss_cons (ps_expr (pe_bm PySem.F.plainAttrs_list PySem.F.slot_list_append PySem.F.type_list_append mt_append (pv 2) (pa_cons (pe_callB call_len_seq (by rfl) T.b_len PySem.boot_len (pa_cons (pv 6) pa_nil)) pa_nil))) (pss_cons (ps_expr (pe_bm PySem.F.plainAttrs_list PySem.F.slot_list_extend PySem.F.type_list_extend mt_extend (pv 2) (pa_cons (pv 6) pa_nil))) (pss_one (ps_set (i := 3) sc_answers.nd rfl (Or.inl rfl) (pe_op op_add (pv 5) pe_int))))))))) (pss_one (ps_ret (pv 2))))))), ?_⟩
    refine q_asgI (C := c.D) (fs := [("store", .non)]) (ei_make (F := fun _ => [("store", .non)]) (args := []) ea_nil rfl) fun d H1 nd e1 ⟨dx, od⟩ => ?_
    refine q_asgL (xs := []) (el_lst ea_nil (by show 0 ≤ 100000; decide)) fun t H2 nt e2 h2 => ?_
    refine q_asg (v := nV 0) (ev_n 0) fun H3 e3 => ?_
    have e23 := e2.trans e3
    have e13 := e1.trans e23
    have start : Told K c PT ca d t ms R 0 H3 := ⟨⟨none, [], [], f0, cs, hc, hask, ⟨rfl, dx, e23 _ _ od⟩, e3 _ _ h2, (fun z => by cases z), by rw [← hR]; rfl⟩, Nat.zero_le _, hfz.keep fun o u z => e13 _ _ z, hT.ext e13⟩
    refine q_while (fun m σ' H' => ∃ i v4 v5 v6, m = ms.length - i ∧ σ' = [some (.ref ca), some (.ref d), some (.ref t), some (nV i), v4, v5, v6] ∧ Told K c PT ca d t ms R i H') ms.length ⟨0, none, none, none, by omega, rfl, start⟩ ?_
    rintro m σ' H' ⟨i, v4, v5, v6, rfl, rfl, I⟩
    refine ⟨decide (i < ms.length), et_test (ev_op (ev_var rfl) (ev_lenM (r := nV) (ev_var rfl) I.fz.sq) rv_ltN), fun hb H4 e4 => ?_, fun hb H4 e4 => ?_⟩
    · have hi := of_decide_eq_true hb
      refine ⟨fun σ2 H2 => ∃ m', m' < ms.length - i ∧ ∃ i v4 v5 v6, m' = ms.length - i ∧ σ2 = [some (.ref ca), some (.ref d), some (.ref t), some (nV i), v4, v5, v6] ∧ Told K c PT ca d t ms R i H2, fun σ2 H2 h => h, ?_⟩
      obtain ⟨⟨st, W, acc, f, rest, h1, h2, h3, h4, h5, h6⟩, le, fz, tb⟩ := I.exx e4
      have gi : ms[i]? = some ms[i] := List.getElem?_eq_getElem hi
      have dr : ms.drop i = ms[i] :: ms.drop (i + 1) := List.drop_eq_getElem_cons hi
      rw [dr] at h1
      obtain ⟨n, tl, tt, f', rest', call, r1, r2, he, r4, r5, r6, r7, r8, r9⟩ := calls_step h1 h2
      subst r4
      have l1 : (ms.drop (i + 1)).length = ms.length - (i + 1) := List.length_drop
      have l2 : tl.length = ms.length - (i + 2) := by
        rw [r1, List.length_cons] at l1
        omega
      have lt : n < tl.length := by
        have z := congrArg List.length r2
        rw [List.length_drop, List.length_cons] at z
        omega
      have g1 : ms[i + 1]? = some n := by
        have z : (ms.drop (i + 1))[0]? = some n := by rw [r1]; rfl
        rw [List.getElem?_drop] at z
        exact z
      have tl' : ms.drop (i + 2) = tl := by
        have z : (ms.drop (i + 1)).drop 1 = tl := by rw [r1]; rfl
        rw [List.drop_drop] at z
        exact z
      have tt' : ms.drop (i + 2 + n + 1) = tt := by
        have z : (tl.drop n).drop 1 = tt := by rw [r2]; rfl
        rw [← tl', List.drop_drop, List.drop_drop] at z
        rw [← z]
        congr 1
      refine q_asg (v := nV (i + 2)) (ev_op (ev_var rfl) (ev_n 2) rv_addN) fun H5 e5 => ?_
      have fz5 := fz.keep (H' := H5) fun o u z => e5 _ _ z
      refine q_asg (v := nV (i + 2 + n)) (ev_op (ev_var rfl) (ev_ixM (r := nV) (n := i + 1) (ev_var rfl) (ev_op (ev_var rfl) (ev_n 1) rv_addN) fz5.sq g1) rv_addN) fun H6 e6 => ?_
      have e56 := e5.trans e6
      have fz6 := fz.keep (H' := H6) fun o u z => e56 _ _ z
      have hsl : cutV (ms.map nV) (some ((i + 2 : Nat) : Int)) (some ((i + 2 + n : Nat) : Int)) = (tl.take n).map nV := by
        rw [cut_mid _ _ _ (by omega) (by rw [List.length_map]; omega), ← List.map_drop, ← List.map_take, tl']
        congr 2
        omega
      refine q_asgSp' (ea_V (ev_var rfl) (ea_V (ev_ixM (r := nV) (n := i) (ev_var rfl) (ev_var rfl) fz6.sq gi) (ea_LN (el_is (el_sl (lo := some ((i + 2 : Nat) : Int)) (hi := some ((i + 2 + n : Nat) : Int)) (ev_var rfl) (eo_some (ev_var rfl)) (eo_some (ev_var rfl)) fz6.sq) hsl) ea_nil'))) fun vs H7 e7 hp => ?_
      obtain ⟨q1, rfl, q2, rfl, nq, q3, rfl, fr, hnq, rfl⟩ := hp
      have e57 := e56.trans e7
      have T7 := e57 _ _ h4
      refine ⟨d, nq, st, W, ms[i], tl.take n, call, rfl, he, r8, by omega, h3.ex e57, hnq, tb.ext e57, fun p H8 W' a1 a2 a3 a4 a5 a6 => ?_⟩
      have ntd : t ≠ d := by
        obtain ⟨dy, v, oo⟩ := (h3.ex e57).ob
        exact ho_ne T7 oo lst_ins
      have T8 : H8 t = some (.lst (acc.map V.int)) := a3 _ _ T7 ntd h5 fun ps z => by cases z
      have nW' : t ∉ W' := fun z => by
        rcases a2 t z with z | z
        · exact h5 z
        · obtain ⟨ps, z⟩ := z _ T7
          cases z
      have npt : p ≠ t := fun z => by
        rw [z] at a4
        obtain ⟨ps, z⟩ := a4 _ T7
        cases z
      have fz8 : Fz K H8 ca (ms.map nV) := by
        have fz7 := fz.keep (H' := H7) fun o u z => e57 _ _ z
        refine fz7.keep fun o u z => a3 _ _ z ?_ ?_ fun ps z => by cases z
        · obtain ⟨dy, v, oo⟩ := (h3.ex e57).ob
          exact ho_ne z oo fun z => by cases z
        · intro hm
          obtain ⟨u2, hu, pu⟩ := (h3.ex e57).plain hm
          rw [hu] at z
          exact pu.2.2.1 _ _ (Option.some.inj z)
      have est : Kp427Neutral.step st [(ms[i] : Int) :: intL (tl.take n)] = ((Kp427.step st call).1, (Kp427.step st call).2.num :: (Kp427.step st call).2.nums) := by
        unfold Kp427Neutral.step
        rw [r5]
      have hR2 : acc ++ (((Kp427.step st call).2.num :: (Kp427.step st call).2.nums).length : Int) :: (((Kp427.step st call).2.num :: (Kp427.step st call).2.nums) ++ PyFlat.told (PyFlat.played Kp427Neutral.step (Kp427.step st call).1 rest')) = R := by
        rw [← h6]
        show _ = acc ++ PyFlat.told ((Kp427Neutral.step st [(ms[i] : Int) :: intL (tl.take n)]).2 :: PyFlat.played Kp427Neutral.step (Kp427Neutral.step st [(ms[i] : Int) :: intL (tl.take n)]).1 rest')
        rw [est]
        rfl
      generalize hA : ((Kp427.step st call).2.num :: (Kp427.step st call).2.nums) = an at hR2
      have a6' : H8 p = some (.lst (an.map V.int)) := by
        rw [← hA]
        exact a6
      have sz : sizeLine = 16777216 := sizeLine_eq
      have lR := congrArg List.length hR2
      simp only [List.length_append, List.length_cons] at lR
      refine q_appS (v := .int (an.length : Int)) T8 (ev_var rfl) (ev_lenX (ev_var rfl) (sq_of a6') (List.length_map ..)) (by rw [List.length_map, sz]; omega) fun H9 e9 => ?_
      have P9 : (upd H9 t (.lst (acc.map V.int ++ [.int (an.length : Int)]))) p = some (.lst (an.map V.int)) := by
        rw [upd_ne npt]
        exact e9 _ _ a6'
      have k9 : Kept t H8 (upd H9 t (.lst (acc.map V.int ++ [.int (an.length : Int)]))) := Kept.first e9
      refine q_extS upd_same P9 (ev_var rfl) (ev_var rfl) (by simp only [List.length_append, List.length_map, List.length_cons, List.length_nil]; rw [sz]; omega) fun H10 e10 => ?_
      have k10 := k9.step (o := .lst (acc.map V.int ++ [.int (an.length : Int)] ++ an.map V.int)) e10
      refine s_asg (v := nV (i + 2 + n + 1)) (ev_op (ev_var rfl) (ev_n 1) rv_addN) fun H11 e11 => ?_
      have k11 := k10.grow e11
      refine ⟨_, ?_, i + 2 + n + 1, _, _, _, rfl, rfl, ⟨(Kp427.step st call).1, W', acc ++ (an.length : Int) :: an, f', rest', ?_, r7, a1.other T8 nW' k11, ?_, nW', ?_⟩, by omega, fz8.keep fun o u z => k11 _ _ z (ho_ne z T8 fun z => by cases z), tabs_keep a5 fun b o hb ko => k11 _ _ hb fun z => ?_⟩
      · omega
      · rw [tt']
        exact r6
      · refine (e11 _ _ upd_same).trans ?_
        rw [List.map_append, List.map_cons, List.append_assoc]
        rfl
      · rw [← hR2, List.append_assoc]
        rfl
      · rw [z, T8] at hb
        rcases ko with ⟨ps, z⟩ | ⟨φ, z⟩
        · rw [z] at hb
          cases hb
        · rw [z] at hb
          cases hb
    · have hi := of_decide_eq_false hb
      obtain ⟨⟨st, W, acc, f, rest, h1, h2, h3, h4, h5, h6⟩, le, fz, tb⟩ := I.exx e4
      have ei : i = ms.length := by omega
      rw [List.drop_of_length_le (by omega)] at h1
      have er : rest = [] := by
        cases f with
        | zero => exact (Option.some.inj h1).symm
        | succ f => exact (Option.some.inj h1).symm
      subst er
      have ea : acc = R := by
        rw [← h6]
        show acc = acc ++ []
        rw [List.append_nil]
      rw [ea] at h4
      exact s_ret (ev_var rfl) fun H5 e5 => k t H5 (e5 _ _ h4)
end
end Shelf
end

section
set_option maxHeartbeats 4000000
/-! The end of the row of a specification with tables of code objects. -/
namespace Shelf
open PySem PySem.Spec PyProof.Rows L2 LamX
open PySem.W (WData Codec OpenSpec Well WellAll ReadsW ReadsAllW)
theorem spec_callTs {P : Program} {w : World} {K : PySem.W.Frag} {mg mb : Str → Option Value} {CX : CXT} {k : Nat} {fa : Addr} {cs : List (Addr × Addr)} {fd : FuncData} {ps : List Str} {sp : Sp} {s₁ : Shared} {vals : List Value} {ds : List WData} {R : PySem.W.WRecords} {cl : Str → Option Addr} {d0 : WData}
    (KX : K.In s₁.heap) (hns : s₁.heap.Ns mainGlobals mg) (hb : s₁.heap.Ns builtinsNs mb) (hbb : ∀ x : Str, x ≠ "__name__" → mb x = bootBuiltins x) (hlim : s₁.heap.NoLimit) (hg : s₁.gens = #[])
    (hT : ∀ p ∈ cs, s₁.heap.get? p.2 = some { cls := .none, data := .fields #[] }) (nT : ∀ p ∈ cs, K.lookup p.2 = none) (C : ∀ p ∈ cs, PySem.W.CodeHd s₁.heap p.1 p.2)
    (hbm : ∃ (bm : Addr) (ob : Obj), mg "__builtins__" = some (.ref bm) ∧ bm ≠ builtinsNs ∧ s₁.heap.get? bm = some ob ∧ ob.cls = .type "module" ∧ ob.dict = some builtinsNs ∧ ob.data = .plain)
    (hwl : WellAll w.params s₁.heap vals ds) (hpl : plWs ds = true) (hwt : ∀ d ∈ ds, d.weight ≤ 1048576) (hr : Room k callerA)
    (F : ∀ base : Heap, K.In base → base.Ns mainGlobals mg → (∀ p ∈ cs, TabB base mg p.1 p.2) → FnOk P w K mg base CX k fa fd ps sp) (hbind : ∀ (s : Shared) (us : List Value), us.length = ps.length → BindsTo s fd ⟨us, []⟩ (ps.zip us)) (hlen : ds.length = ps.length)
    (hsp : ∀ (H0 H : Hp) (xs : List V), OnlyF H0 → (∀ b o, H0 b = some o → H b = some o) → (∀ p ∈ cs, H p.2 = some (.tbl #[])) → DwAll K H0 xs ds → sp xs H (fun v H' => Dw K H' v d0) fun _ _ _ => False)
    (hCX : ∀ H e s', CX [] H s₁ (fun _ _ _ => False) e s' → False) :
    codeAny (model P w) callerA (.call (.ref fa) ⟨vals, []⟩) (fun r s' => ∃ u as, r = .ok (.ret u) ∧ ReadsW R cl s'.heap u d0 as ∧ OldK s₁.heap s'.heap ∧ s'.os = s₁.os ∧ AllBare s'.gens) s₁ := by
  obtain ⟨A, ho, ar⟩ := area_all ds vals hwl hpl hwt
  have hO : OnlyF (argH K s₁.heap A) := argH_only ar
  have hok0 : ∀ (Hx : Hp) (b : Addr) (u : HO), argH K s₁.heap A b = some u → ObjOk P w Hx s₁.heap b u := fun Hx b u q => by
    obtain ⟨_, vs, h1, h2, ⟨e, rfl⟩ | ⟨e, rfl⟩⟩ := argH_is ar q
    · exact ⟨e, by rw [List.length_map]; exact h1, vs, _, vals_toV h2, e⟩
    · exact ⟨e, by rw [List.length_map]; exact h1, vs, vals_toV h2, _, e, rfl, _, rfl⟩
  have hS := dw_all KX ar ds vals hwl hpl ho
  have hV := vals_toV ho
  have isSeq : ∀ b u, argH K s₁.heap A b = some u → K.lookup b = none ∧ ∃ vs c, s₁.heap.get? b = some { cls := .type c, data := .seq vs } := fun b u q => by
    obtain ⟨h1, vs, _, _, ⟨e2, _⟩ | ⟨e2, _⟩⟩ := argH_is ar q
    · exact ⟨h1, _, _, e2⟩
    · exact ⟨h1, _, _, e2⟩
  generalize argH K s₁.heap A = H0 at hO hok0 hS isSeq
  have isT : ∀ b : Addr, b ∈ cs.map (·.2) → s₁.heap.get? b = some { cls := .none, data := .fields #[] } := fun b hb => by
    obtain ⟨p, hp, e⟩ := List.mem_map.mp hb
    rw [← e]
    exact hT p hp
  have memT : ∀ p ∈ cs, p.2 ∈ cs.map (·.2) := fun p hp => List.mem_map.mpr ⟨p, hp, rfl⟩
  have h0T : ∀ b ∈ cs.map (·.2), H0 b = none := fun b hb => by
    cases q : H0 b with
    | none => rfl
    | some u =>
      obtain ⟨_, vs, c, e⟩ := isSeq b u q
      rw [isT b hb] at e
      cases e
  let H : Hp := fun b => if b ∈ cs.map (·.2) then some (.tbl #[]) else H0 b
  have hH : ∀ p ∈ cs, H p.2 = some (.tbl #[]) := fun p hp => if_pos (memT p hp)
  have hHn : ∀ b, b ∉ cs.map (·.2) → H b = H0 b := fun b hb => if_neg hb
  have hHp : ∀ b, b ∈ cs.map (·.2) → H b = some (.tbl #[]) := fun b hb => if_pos hb
  have up : ∀ b o, H0 b = some o → H b = some o := fun b o e => by
    by_cases hb : b ∈ cs.map (·.2)
    · rw [h0T b hb] at e
      cases e
    · rw [hHn b hb]
      exact e
  have hok : HOk P w H s₁.heap := fun b u z => by
    by_cases hb : b ∈ cs.map (·.2)
    · rw [hHp b hb] at z
      cases z
      exact isT b hb
    · rw [hHn b hb] at z
      exact hok0 H b u z
  have nK : ∀ b o, K.lookup b = some o → H b = none := fun b o e => by
    by_cases hb : b ∈ cs.map (·.2)
    · obtain ⟨p, hp, ep⟩ := List.mem_map.mp hb
      rw [← ep, nT p hp] at e
      cases e
    · rw [hHn b hb]
      cases q : H0 b with
      | none => rfl
      | some u =>
        rw [(isSeq b u q).1] at e
        cases e
  have noD : ∀ {b : Addr} {o : Obj}, s₁.heap.get? b = some o → (∀ vs n, o.data ≠ .seq vs n) → o.data ≠ .fields #[] → H b = none := fun {b o} e h1 h2 => by
    by_cases hb : b ∈ cs.map (·.2)
    · rw [isT b hb] at e
      cases e
      exact (h2 rfl).elim
    · rw [hHn b hb]
      cases q : H0 b with
      | none => rfl
      | some u =>
        obtain ⟨_, vs, c, e2⟩ := isSeq b u q
        rw [e2] at e
        cases e
        exact (h1 _ _ rfl).elim
  have base_of : ∀ {b : Addr} {o : Obj}, s₁.heap.get? b = some o → H b = none → (hidT s₁.heap H).get? b = some o := fun e n => hidT_get e n
  have noA : ∀ {b : Addr} {o : Obj} {es : Array DictEntry} {ep : Nat}, s₁.heap.get? b = some o → o.data = .dict es ep → H b = none := fun {b o es ep} e d => by
    refine noD e (fun vs n z => ?_) fun z => ?_
    · rw [d] at z
      cases z
    · rw [d] at z
      cases z
  have nsK : ∀ {b : Addr} {m : Str → Option Value}, s₁.heap.Ns b m → (hidT s₁.heap H).Ns b m := fun {b m} ⟨o, es, ep, e, d, r⟩ => ⟨o, es, ep, base_of e (noA e d), d, r⟩
  have hKb : K.In (hidT s₁.heap H) := fun b o e => base_of (KX b o e) (nK b o e)
  have hM : L2.Mod K mg (hidT s₁.heap H) := ⟨hKb, nsK hns, ⟨mb, nsK hb, hbb⟩, let ⟨mc, h1, h2⟩ := hlim; ⟨mc, nsK h1, h2⟩⟩
  have TB : ∀ p ∈ cs, TabB (hidT s₁.heap H) mg p.1 p.2 := fun p hp => by
    have hTp := hT p hp
    refine ⟨?_, ?_, fun z => ?_⟩
    · obtain ⟨o, us, file, tf, flags, tg, inF, text, tt, e1, r1, r2, r3, r4, r5, r6, r7, r8, hne⟩ := C p hp
      refine ⟨o, us, file, tf, flags, tg, inF, text, tt, base_of e1 (noD e1 (fun vs n z => ?_) fun z => ?_), r1, r2, r3, r4, r5, r6, r7, r8, hne⟩
      · rw [r2] at z
        cases z
      · rw [r2] at z
        cases z
        simp at r3
    · obtain ⟨bm, ob, b1, b2, b3, b4, b5, b6⟩ := hbm
      have nG : bm ≠ mainGlobals := fun q => by
        obtain ⟨o, es, ep, e, hd, _⟩ := hns
        rw [q, e] at b3
        cases b3
        rw [hd] at b6
        cases b6
      have nP : bm ≠ p.2 := fun q => by
        rw [q, hTp] at b3
        cases b3
        cases b6
      refine ⟨bm, ob, b1, b2, nG, nP, base_of b3 (noD b3 (fun vs n z => ?_) fun z => ?_), b4, b5, b6⟩
      · rw [b6] at z
        cases z
      · rw [b6] at z
        cases z
    · obtain ⟨o, es, ep, e, hd, _⟩ := hns
      rw [z, hTp] at e
      cases e
      cases hd
  have e0 : Env0 P w K mg (hidT s₁.heap H) callerA [] s₁ H := ⟨rfl, hM, fun b o e => of_hidT e, Nat.le_of_eq (hidT_size _ _), trivial, fun b hb => absurd (show b ∈ ([] : List Addr) from hb) (by simp), hok, .of_eq hg⟩
  have hl : vals.length = ps.length := by rw [wellAll_len hwl]; exact hlen
  refine codeAny_mono ((F _ hKb (nsK hns) TB).run callerA [] s₁ H ⟨vals, []⟩ vals (vals.map toV) _ _ hr e0 (hbind s₁ vals hl) hV (hsp H0 H _ hO up hH hS)) fun r s' x => ?_
  cases r with
  | error e => exact (hCX H e s' x).elim
  | ok fl =>
    cases fl with
    | next => exact False.elim x
    | brk => exact False.elim x
    | cont => exact False.elim x
    | ret u =>
      obtain ⟨v, H', os, bare, un, hok', r', q⟩ := x
      have key : ∀ b o, b ∉ cs.map (·.2) → s₁.heap.get? b = some o → s'.heap.get? b = some o := fun b o nb e => by
        cases q2 : H b with
        | none => exact un.keep b o e q2 (by intro z; exact absurd (show b ∈ ([] : List Addr) from z) (by simp)) (by simp)
        | some u2 =>
          rw [hHn b nb] at q2
          rcases hO b with z | ⟨ob, u3, z⟩
          · rw [q2] at z
            cases z
          · have z2 := un.frzs b ob _ (up _ _ z)
            obtain ⟨e1, _⟩ := hok b _ (up _ _ z)
            obtain ⟨e2, _⟩ := hok' b _ z2
            rw [e] at e1
            cases e1
            exact e2
      have grown : ∀ p ∈ cs, ∃ more : Array Value, s'.heap.get? p.2 = some { cls := .none, data := .fields more } := fun p hp => by
        obtain ⟨more, z⟩ := un.tbls p.2 #[] (hH p hp)
        exact ⟨_, hok' p.2 _ z⟩
      have KX' : K.In s'.heap := fun b o e => key b o (fun hb => by
        obtain ⟨p, hp, ep⟩ := List.mem_map.mp hb
        rw [← ep, nT p hp] at e
        cases e) (KX b o e)
      obtain ⟨as, hrd⟩ := Dw.reads (R := R) (cl := cl) hok' KX' d0 v u q r'
      refine ⟨u, as, rfl, hrd, ⟨fun b o e => ?_, fun b o e => ?_⟩, os, bare⟩
      · by_cases hb : b ∈ cs.map (·.2)
        · obtain ⟨p, hp, ep⟩ := List.mem_map.mp hb
          obtain ⟨more, hm⟩ := grown p hp
          rw [← ep] at e ⊢
          rw [hT p hp] at e
          cases e
          exact .inr (.inl ⟨((C p hp).tab (hT p hp)).isCodeTable, rfl, #[], more, rfl, by rw [Array.empty_append]; exact hm⟩)
        · exact .inl (key b o hb e)
      · by_cases hb : b ∈ cs.map (·.2)
        · obtain ⟨p, hp, ep⟩ := List.mem_map.mp hb
          obtain ⟨more, hm⟩ := grown p hp
          rw [← ep]
          exact ⟨_, hm⟩
        · exact ⟨o, key b o hb e⟩
/-- what is known of the asked def's promise at the head's heap h -/
def SpecAt (r : OpenSpec) (w : World) (K : PySem.W.Frag) (CX : CXT) (k : Nat) (ps : List Str) (mg : Str → Option Value) (fa : Addr) (h : Heap) : Prop :=
  ∃ (fd : FuncData) (cs : List (Addr × Addr)) (sp : Sp), (∀ p ∈ cs, h.get? p.2 = some { cls := .none, data := .fields #[] }) ∧ (∀ p ∈ cs, K.lookup p.2 = none) ∧ (∀ p ∈ cs, PySem.W.CodeHd h p.1 p.2) ∧ (∀ (s : Shared) (us : List Value), us.length = ps.length → BindsTo s fd ⟨us, []⟩ (ps.zip us)) ∧
    (∀ (H0 H : Hp) (xs : List V) (a : Codec.denoteAll r.args), OnlyF H0 → (∀ b o, H0 b = some o → H b = some o) → (∀ p ∈ cs, H p.2 = some (.tbl #[])) → Codec.withinAll r.args a = true → Codec.app r.args r.asked a = true → DwAll K H0 xs (Codec.encAll r.args a) →
      sp xs H (fun v H' => Dw K H' v (r.ret.enc (Codec.app r.args r.f a))) fun _ _ _ => False) ∧
    ∀ base : Heap, K.In base → base.Ns mainGlobals mg → (∀ p ∈ cs, TabB base mg p.1 p.2) → FnOk r.prog w K mg base CX k fa fd ps sp
theorem walk_specTs {r : OpenSpec} {k : Nat} {q : Program} {loose : List Str} {XP : (Str → Option Value) → Heap → Prop} {YP : World → Heap → Prop} {d : DefRec} {CX : World → CXT} {ps : List Str}
    (hwell : r.wellSaid = true) (hlen : r.args.length = ps.length) (hr : Room k callerA)
    (F : ∀ (w : World) (mg : Str → Option Value) (fa : Addr) (h : Heap), YP w h → h.Ns mainGlobals mg → mg d.name = some (.ref fa) → ∃ K : PySem.W.Frag, K.In h ∧ SpecAt r w K (CX w) k ps mg fa h)
    (hCX : ∀ (w : World) (H : Hp) (s : Shared) (e : Value) (s' : Shared), CX w [] H s (fun _ _ _ => False) e s' → False) :
    PySem.W.WalkOS q loose XP YP r d [] (fun f vs => PySem.call f vs) := by
  intro w s₀ s₁ mg mb G Y fa o pm cd doc dV kV ho hd hcd hD hmg hg args vals as hpre hlay hrd hwl hlo
  obtain ⟨a, e1, e2⟩ := PySem.W.os_pre_some hpre
  obtain ⟨e3, hwi⟩ := Codec.encAll_of_decAll r.args args a e1
  subst e3
  obtain ⟨K, KX, fd, cs, sp, hT, nT, C, hb, hsp, hF⟩ := F w mg fa _ Y G.T.g hmg
  refine PySem.W.enter_call (codeAny_mono (spec_callTs (R := []) (cl := classAt s₀.heap) (d0 := r.ret.enc (Codec.app r.args r.f a)) KX G.T.g G.T.b G.T.builtins G.T.nolimit hg hT nT C G.T.bmain hwl (pl_encAll _ _) (layable_weight hlay) hr hF hb (by rw [encAll_len]; exact hlen)
    (fun H0 H xs hO up hH hS => hsp H0 H xs a hO up hH hwi e2 hS) fun H e s' => hCX w H s₁ e s') fun r' s' hq => ?_)
  obtain ⟨u, as', rfl, h1, h2, h3, h4⟩ := hq
  exact ⟨.inl ⟨u, _, as', rfl, fun _ => rfl, h1, (OpenSpec.post_iff hwell hwi _ _).mpr rfl, fun z => Bool.noConfusion (show false = true from z)⟩, h2, h3, h4⟩
end Shelf
end

section
set_option maxHeartbeats 4000000
namespace Shelf
open PySem PySem.Spec PyProof.Rows L2 LamX
/-! ### what the top leaves, by names -/
def nd (x : Str) (st : Stmt) : He.DefD := ⟨(x, none), x, x, defArgs st, defBody st, defScope st, [], []⟩
def ni (C q : Str) (st : Stmt) : He.DefD := ⟨(C, some "__init__"), "__init__", q, defArgs st, defBody st, defScope st, [], []⟩
def fn0 : List He.DefD := [nd "weights_fit" s_weights_fit, nd "categories_fit" s_categories_fit, nd "value_fits" s_value_fits, nd "time_and_span_fit" s_time_and_span_fit, nd "kinds_fit" s_kinds_fit, nd "no_store" s_no_store, nd "not_found" s_not_found, nd "outside_limits" s_outside_limits, nd "number_taken" s_number_taken, nd "too_many" s_too_many, nd "not_possible" s_not_possible, nd "item_exists" s_item_exists, nd "member_exists" s_member_exists, nd "is_available" s_is_available, nd "item_data" s_item_data, nd "events_between" s_events_between, nd "events_of" s_events_of, nd "last_time" s_last_time, nd "items_met" s_items_met, nd "add_item" s_add_item, nd "set_price" s_set_price, nd "set_withdrawn" s_set_withdrawn, nd "item_info" s_item_info, nd "time_follows" s_time_follows, nd "record" s_record, nd "expire" s_expire, nd "kinds_told" s_kinds_told, nd "counts" s_counts, nd "by_creator" s_by_creator, nd "categories_told" s_categories_told, nd "categories" s_categories, nd "profile" s_profile, nd "split" s_split, nd "add_member" s_add_member, nd "delete_member" s_delete_member, nd "member_info" s_member_info, nd "lowest_terms" s_lowest_terms, nd "last_ratings" s_last_ratings, nd "ratings" s_ratings, nd "scaled_popularity" s_scaled_popularity]
def fn1 : List He.DefD := [nd "popularity" s_popularity, nd "greatest" s_greatest, nd "top_items" s_top_items, nd "weight_of_each" s_weight_of_each, nd "scaled_growths" s_scaled_growths, nd "trending" s_trending, nd "sessions_of" s_sessions_of, nd "all_sessions" s_all_sessions, nd "sessions" s_sessions, nd "together" s_together, nd "steps_reached" s_steps_reached, nd "conversion" s_conversion, nd "events_of_pairs" s_events_of_pairs, nd "funnel" s_funnel, nd "contents" s_contents, nd "hashed" s_hashed, nd "digest" s_digest, nd "status" s_status, nd "history" s_history, nd "unseen" s_unseen, nd "opinion" s_opinion, nd "opinions" s_opinions, nd "has_met" s_has_met, nd "common_members" s_common_members, nd "create" s_create, nd "answer_change" s_answer_change, nd "answer_question" s_answer_question, nd "answer_later_question" s_answer_later_question, nd "answer_last_question" s_answer_last_question, nd "answer_call" s_answer_call, nd "answers" s_answers, ni "Item" "Item.__init__" s_Item, ni "Event" "Event.__init__" s_Event, ni "Store" "Store.__init__" s_Store, ni "Desk" "Desk.__init__" s_Desk]
def fns : List He.DefD := fn0 ++ fn1
def fa0 : List He.Fa := [.cls "Item", .cls "Event", .cls "Store", .cls "Desk", .noat "Item" "creator", .noat "Item" "price", .noat "Item" "day", .noat "Item" "categories", .noat "Item" "withdrawn", .noat "Event" "time", .noat "Event" "member", .noat "Event" "item", .noat "Event" "kind", .noat "Event" "value", .noat "Store" "retention", .noat "Store" "gap", .noat "Store" "weights", .noat "Store" "shelf", .noat "Store" "members", .noat "Store" "events", .noat "Desk" "store", .glo "Item", .glo "Event", .glo "Store", .glo "Desk", .free "len", .free "sum", .free "all", .free "max", .free "list", .free "sorted", .free "set", .free "range", .free "reversed", .int "MAX_RETENTION" 10000, .int "MAX_GAP" 10000, .int "KIND_COUNT" 6, .int "MAX_WEIGHT" 1000, .int "MAX_CREATOR" 1000, .int "MAX_PRICE" 1000000]
def fa1 : List He.Fa := [.int "MAX_DAY" 100000, .int "CATEGORY_COUNT" 32, .int "MAX_CATEGORIES_OF_ITEM" 4, .int "MAX_MEMBER" 1000000, .int "MAX_TIME" 100000000, .int "MAX_FLAG" 1, .int "VIEW" 0, .int "LIKE" 1, .int "DISLIKE" 2, .int "RATING" 3, .int "PURCHASE" 4, .int "MAX_RATING" 10, .int "MAX_ITEMS" 40, .int "MAX_MEMBERS" 40, .int "MAX_EVENTS" 200, .int "MAX_STEPS" 6, .int "MINUTES_OF_DAY" 1440, .int "MAX_HALVINGS" 40, .int "HASH_START" 14695981039346656037, .int "HASH_FACTOR" 1099511628211, .int "HASH_RANGE" 18446744073709551616, .int "LIKED" 10, .int "DISLIKED" 1, .int "UNDECIDED" 5, .glo "weights_fit", .glo "categories_fit", .glo "value_fits", .glo "time_and_span_fit", .glo "kinds_fit", .glo "no_store", .glo "not_found", .glo "outside_limits", .glo "number_taken", .glo "too_many", .glo "not_possible", .glo "item_exists", .glo "member_exists", .glo "is_available", .glo "item_data", .glo "events_between"]
def fa2 : List He.Fa := [.glo "events_of", .glo "last_time", .glo "items_met", .glo "add_item", .glo "set_price", .glo "set_withdrawn", .glo "item_info", .glo "time_follows", .glo "record", .glo "expire", .glo "kinds_told", .glo "counts", .glo "by_creator", .glo "categories_told", .glo "categories", .glo "profile", .glo "split", .glo "add_member", .glo "delete_member", .glo "member_info", .glo "lowest_terms", .glo "last_ratings", .glo "ratings", .glo "scaled_popularity", .glo "popularity", .glo "greatest", .glo "top_items", .glo "weight_of_each", .glo "scaled_growths", .glo "trending", .glo "sessions_of", .glo "all_sessions", .glo "sessions", .glo "together", .glo "steps_reached", .glo "conversion", .glo "events_of_pairs", .glo "funnel", .glo "contents", .glo "hashed"]
def fa3 : List He.Fa := [.glo "digest", .glo "status", .glo "history", .glo "unseen", .glo "opinion", .glo "opinions", .glo "has_met", .glo "common_members", .glo "create", .glo "answer_change", .glo "answer_question", .glo "answer_later_question", .glo "answer_last_question", .glo "answer_call", .glo "answers", .mkr "Item", .mkr "Event", .mkr "Store", .mkr "Desk"]
def fas : List He.Fa := fa0 ++ fa1 ++ fa2 ++ fa3
def tfs : List He.Defn := [("greatest", none)]
theorem fun_of {K : PySem.W.Frag} {x q : Str} {st : Stmt} {f : Addr} {fd : FuncData} (F : FunD K x q (defArgs st) (defBody st) (defScope st) [] [] f fd) : Fun K x q st f fd := by
  obtain ⟨oc, od, dV, kV, doc, pm, an, cdv, ct, osl, e, lk, hcd, hD, _⟩ := F.ex
  have ed : dV = .none := by
    rcases hD with ⟨_, e⟩ | ⟨n, _⟩
    · exact e
    · exact absurd rfl n
  subst ed
  exact ⟨⟨oc, od, kV, doc, pm, an, cdv, ct, osl, e, lk, hcd⟩, F.kp⟩
theorem def0_of {K : PySem.W.Frag} {h : Heap} {mg : Str → Option Value} {x : Str} {st : Stmt} {ps : List Str} (g : mg x = some (.ref (He.ga K x))) (F : ∃ fd, FunD K x x (defArgs st) (defBody st) (defScope st) [] [] (He.ga K x) fd)
    (hb : ∀ (kV doc pm : Value) (an : Option Addr) (cdv ct : Value) (us : List Value), us.length = ps.length → bindArgs (PySem.W.fnOf x x (defArgs st) (defBody st) (defScope st) .none kV doc pm an cdv ct) ⟨us, []⟩ = pure (ps.zip us)) : Def0 K mg x st ps := by
  obtain ⟨fd, F⟩ := F
  exact ⟨_, fd, fun_of F, g, (fun_of F).binds hb⟩
theorem cls0_of {K : PySem.W.Frag} {mg : Str → Option Value} {x q : Str} {st : Stmt} {ps : List Str} (g : mg x = some (.ref (He.ga K x))) (M : Mk K (He.ga K x) (He.ma K (He.ga K x) "__init__")) (F : ∃ fd, FunD K "__init__" q (defArgs st) (defBody st) (defScope st) [] [] (He.ma K (He.ga K x) "__init__") fd)
    (hb : ∀ (kV doc pm : Value) (an : Option Addr) (cdv ct : Value) (us : List Value), us.length = ps.length → bindArgs (PySem.W.fnOf "__init__" q (defArgs st) (defBody st) (defScope st) .none kV doc pm an cdv ct) ⟨us, []⟩ = pure (ps.zip us)) : Cls0 K mg x q (He.ga K x) st ps := by
  obtain ⟨fd, F⟩ := F
  exact ⟨_, fd, fun_of F, M, g, (fun_of F).binds hb⟩
theorem defC_of {K : PySem.W.Frag} {mg : Str → Option Value} {x : Str} {st : Stmt} {ps : List Str} (g : mg x = some (.ref (He.ga K x))) (F : ∃ fd, FunD K x x (defArgs st) (defBody st) (defScope st) [] [] (He.ga K x) fd)
    (hb : ∀ (kV doc pm : Value) (an : Option Addr) (cdv ct : Value) (us : List Value), us.length = ps.length → bindArgs (PySem.W.fnOf x x (defArgs st) (defBody st) (defScope st) .none kV doc pm an cdv ct) ⟨us, []⟩ = pure (ps.zip us)) : DefC K mg x st ps (He.codeOf K (x, none)) := by
  obtain ⟨fd, F⟩ := F
  have F' := fun_of F
  refine ⟨_, fd, F', g, F'.binds hb, ?_⟩
  obtain ⟨oc, od, kV, doc, pm, an, cdv, ct, osl, e, lk, hcd⟩ := F'.ex
  obtain ⟨c, hc⟩ := He.codeIn_ref hcd
  have ec : fd.code = .ref c := by
    rw [e]
    exact hc
  rw [ec, He.codeOf_eq (K := K) (p := (x, none)) lk ec]
def adr (K : PySem.W.Frag) : Adr := ⟨He.ga K "Item", He.ga K "Event", He.ga K "Store", He.ga K "Desk"⟩
theorem txt_of {K : PySem.W.Frag} {h : Heap} {mg : Str → Option Value} (X : K.In h) (G : h.Ns mainGlobals mg) (c : He.SaysD fas fns K) : Txt K mg (adr K) :=
  ⟨He.cls_ok (c.fact 0),
    He.cls_ok (c.fact 1),
    He.cls_ok (c.fact 2),
    He.cls_ok (c.fact 3),
    He.noat_ok (c.fact 4),
    He.noat_ok (c.fact 5),
    He.noat_ok (c.fact 6),
    He.noat_ok (c.fact 7),
    He.noat_ok (c.fact 8),
    He.noat_ok (c.fact 9),
    He.noat_ok (c.fact 10),
    He.noat_ok (c.fact 11),
    He.noat_ok (c.fact 12),
    He.noat_ok (c.fact 13),
    He.noat_ok (c.fact 14),
    He.noat_ok (c.fact 15),
    He.noat_ok (c.fact 16),
    He.noat_ok (c.fact 17),
    He.noat_ok (c.fact 18),
    He.noat_ok (c.fact 19),
    He.noat_ok (c.fact 20),
    He.glo_ok X G (c.fact 21),
    He.glo_ok X G (c.fact 22),
    He.glo_ok X G (c.fact 23),
    He.glo_ok X G (c.fact 24),
    He.free_ok X G (c.fact 25),
    He.free_ok X G (c.fact 26),
    He.free_ok X G (c.fact 27),
    He.free_ok X G (c.fact 28),
    He.free_ok X G (c.fact 29),
    He.free_ok X G (c.fact 30),
    He.free_ok X G (c.fact 31),
    He.free_ok X G (c.fact 32),
    He.free_ok X G (c.fact 33),
    He.int_ok X G (c.fact 34),
    He.int_ok X G (c.fact 35),
    He.int_ok X G (c.fact 36),
    He.int_ok X G (c.fact 37),
    He.int_ok X G (c.fact 38),
    He.int_ok X G (c.fact 39),
    He.int_ok X G (c.fact 40),
    He.int_ok X G (c.fact 41),
    He.int_ok X G (c.fact 42),
    He.int_ok X G (c.fact 43),
    He.int_ok X G (c.fact 44),
    He.int_ok X G (c.fact 45),
    He.int_ok X G (c.fact 46),
    He.int_ok X G (c.fact 47),
    He.int_ok X G (c.fact 48),
    He.int_ok X G (c.fact 49),
    He.int_ok X G (c.fact 50),
    He.int_ok X G (c.fact 51),
    He.int_ok X G (c.fact 52),
    He.int_ok X G (c.fact 53),
    He.int_ok X G (c.fact 54),
    He.int_ok X G (c.fact 55),
    He.int_ok X G (c.fact 56),
    He.int_ok X G (c.fact 57),
    He.int_ok X G (c.fact 58),
    He.int_ok X G (c.fact 59),
    He.int_ok X G (c.fact 60),
    He.int_ok X G (c.fact 61),
    He.int_ok X G (c.fact 62),
    He.int_ok X G (c.fact 63)⟩
theorem ok_answers {P : Program} {w : World} {K : PySem.W.Frag} {base h : Heap} {mg : Str → Option Value} (X : K.In h) (G : h.Ns mainGlobals mg) (c : He.SaysD fas fns K) (TB : TabB base mg (He.cT K ("greatest", none)).1 (He.cT K ("greatest", none)).2) {f : Addr} {fd : FuncData} (F : Fun K "answers" "answers" s_answers f fd) :
    FnOk P w K mg base CX0 7 f fd ["calls"] (sp_answers K (He.cT K ("greatest", none)).2) := by
  have T := txt_of X G c
  have D_Item := d_Item (P := P) (w := w) (base := base) T (cls0_of (He.glo_ok X G (c.fact 21)) (He.mkr_ok (c.fact 135)) (c.def_ 71) (fun _ _ _ _ _ _ us hl => match us, hl with | [_, _, _, _, _], _ => rfl))
  have D_Event := d_Event (P := P) (w := w) (base := base) T (cls0_of (He.glo_ok X G (c.fact 22)) (He.mkr_ok (c.fact 136)) (c.def_ 72) (fun _ _ _ _ _ _ us hl => match us, hl with | [_, _, _, _, _, _], _ => rfl))
  have D_Store := d_Store (P := P) (w := w) (base := base) T (cls0_of (He.glo_ok X G (c.fact 23)) (He.mkr_ok (c.fact 137)) (c.def_ 73) (fun _ _ _ _ _ _ us hl => match us, hl with | [_, _, _, _], _ => rfl))
  have D_Desk := d_Desk (P := P) (w := w) (base := base) T (cls0_of (He.glo_ok X G (c.fact 24)) (He.mkr_ok (c.fact 138)) (c.def_ 74) (fun _ _ _ _ _ _ us hl => match us, hl with | [_], _ => rfl))
  have D_weights_fit := d_weights_fit (P := P) (w := w) (base := base) T (def0_of (h := h) (He.glo_ok X G (c.fact 64)) (c.def_ 0) (fun _ _ _ _ _ _ us hl => match us, hl with | [_], _ => rfl))
  have D_categories_fit := d_categories_fit (P := P) (w := w) (base := base) T (def0_of (h := h) (He.glo_ok X G (c.fact 65)) (c.def_ 1) (fun _ _ _ _ _ _ us hl => match us, hl with | [_], _ => rfl))
  have D_value_fits := d_value_fits (P := P) (w := w) (base := base) T (def0_of (h := h) (He.glo_ok X G (c.fact 66)) (c.def_ 2) (fun _ _ _ _ _ _ us hl => match us, hl with | [_, _], _ => rfl))
  have D_time_and_span_fit := d_time_and_span_fit (P := P) (w := w) (base := base) T (def0_of (h := h) (He.glo_ok X G (c.fact 67)) (c.def_ 3) (fun _ _ _ _ _ _ us hl => match us, hl with | [_, _], _ => rfl))
  have D_kinds_fit := d_kinds_fit (P := P) (w := w) (base := base) T (def0_of (h := h) (He.glo_ok X G (c.fact 68)) (c.def_ 4) (fun _ _ _ _ _ _ us hl => match us, hl with | [_], _ => rfl))
  have D_no_store := d_no_store (P := P) (w := w) (base := base) (def0_of (h := h) (He.glo_ok X G (c.fact 69)) (c.def_ 5) (fun _ _ _ _ _ _ us hl => match us, hl with | [], _ => rfl))
  have D_not_found := d_not_found (P := P) (w := w) (base := base) (def0_of (h := h) (He.glo_ok X G (c.fact 70)) (c.def_ 6) (fun _ _ _ _ _ _ us hl => match us, hl with | [], _ => rfl))
  have D_outside_limits := d_outside_limits (P := P) (w := w) (base := base) (def0_of (h := h) (He.glo_ok X G (c.fact 71)) (c.def_ 7) (fun _ _ _ _ _ _ us hl => match us, hl with | [], _ => rfl))
  have D_number_taken := d_number_taken (P := P) (w := w) (base := base) (def0_of (h := h) (He.glo_ok X G (c.fact 72)) (c.def_ 8) (fun _ _ _ _ _ _ us hl => match us, hl with | [], _ => rfl))
  have D_too_many := d_too_many (P := P) (w := w) (base := base) (def0_of (h := h) (He.glo_ok X G (c.fact 73)) (c.def_ 9) (fun _ _ _ _ _ _ us hl => match us, hl with | [], _ => rfl))
  have D_not_possible := d_not_possible (P := P) (w := w) (base := base) (def0_of (h := h) (He.glo_ok X G (c.fact 74)) (c.def_ 10) (fun _ _ _ _ _ _ us hl => match us, hl with | [], _ => rfl))
  have D_item_exists := d_item_exists (P := P) (w := w) (base := base) T (def0_of (h := h) (He.glo_ok X G (c.fact 75)) (c.def_ 11) (fun _ _ _ _ _ _ us hl => match us, hl with | [_, _], _ => rfl))
  have D_member_exists := d_member_exists (P := P) (w := w) (base := base) T (def0_of (h := h) (He.glo_ok X G (c.fact 76)) (c.def_ 12) (fun _ _ _ _ _ _ us hl => match us, hl with | [_, _], _ => rfl))
  have D_is_available := d_is_available (P := P) (w := w) (base := base) T (def0_of (h := h) (He.glo_ok X G (c.fact 77)) (c.def_ 13) (fun _ _ _ _ _ _ us hl => match us, hl with | [_, _], _ => rfl))
  have D_item_data := d_item_data (P := P) (w := w) (base := base) T (def0_of (h := h) (He.glo_ok X G (c.fact 78)) (c.def_ 14) (fun _ _ _ _ _ _ us hl => match us, hl with | [_, _], _ => rfl))
  have D_events_between := d_events_between (P := P) (w := w) (base := base) T (def0_of (h := h) (He.glo_ok X G (c.fact 79)) (c.def_ 15) (fun _ _ _ _ _ _ us hl => match us, hl with | [_, _, _], _ => rfl))
  have D_events_of := d_events_of (P := P) (w := w) (base := base) T (def0_of (h := h) (He.glo_ok X G (c.fact 80)) (c.def_ 16) (fun _ _ _ _ _ _ us hl => match us, hl with | [_, _], _ => rfl))
  have D_last_time := d_last_time (P := P) (w := w) (base := base) T (def0_of (h := h) (He.glo_ok X G (c.fact 81)) (c.def_ 17) (fun _ _ _ _ _ _ us hl => match us, hl with | [_], _ => rfl))
  have D_items_met := d_items_met (P := P) (w := w) (base := base) T (def0_of (h := h) (He.glo_ok X G (c.fact 82)) (c.def_ 18) (fun _ _ _ _ _ _ us hl => match us, hl with | [_], _ => rfl))
  have D_add_item := d_add_item (P := P) (w := w) (base := base) T D_outside_limits D_too_many D_categories_fit D_Item (def0_of (h := h) (He.glo_ok X G (c.fact 83)) (c.def_ 19) (fun _ _ _ _ _ _ us hl => match us, hl with | [_, _, _, _, _], _ => rfl))
  have D_set_price := d_set_price (P := P) (w := w) (base := base) T D_item_exists D_not_found D_outside_limits (def0_of (h := h) (He.glo_ok X G (c.fact 84)) (c.def_ 20) (fun _ _ _ _ _ _ us hl => match us, hl with | [_, _, _], _ => rfl))
  have D_set_withdrawn := d_set_withdrawn (P := P) (w := w) (base := base) T D_item_exists D_not_found D_outside_limits (def0_of (h := h) (He.glo_ok X G (c.fact 85)) (c.def_ 21) (fun _ _ _ _ _ _ us hl => match us, hl with | [_, _, _], _ => rfl))
  have D_item_info := d_item_info (P := P) (w := w) (base := base) T D_item_exists D_not_found D_item_data (def0_of (h := h) (He.glo_ok X G (c.fact 86)) (c.def_ 22) (fun _ _ _ _ _ _ us hl => match us, hl with | [_, _], _ => rfl))
  have D_time_follows := d_time_follows (P := P) (w := w) (base := base) T D_last_time (def0_of (h := h) (He.glo_ok X G (c.fact 87)) (c.def_ 23) (fun _ _ _ _ _ _ us hl => match us, hl with | [_, _], _ => rfl))
  have D_record := d_record (P := P) (w := w) (base := base) T D_member_exists D_item_exists D_not_found D_outside_limits D_not_possible D_too_many D_time_follows D_value_fits D_Event (def0_of (h := h) (He.glo_ok X G (c.fact 88)) (c.def_ 24) (fun _ _ _ _ _ _ us hl => match us, hl with | [_, _, _, _, _, _], _ => rfl))
  have D_expire := d_expire (P := P) (w := w) (base := base) T D_outside_limits (def0_of (h := h) (He.glo_ok X G (c.fact 89)) (c.def_ 25) (fun _ _ _ _ _ _ us hl => match us, hl with | [_, _], _ => rfl))
  have D_kinds_told := d_kinds_told (P := P) (w := w) (base := base) T (def0_of (h := h) (He.glo_ok X G (c.fact 90)) (c.def_ 26) (fun _ _ _ _ _ _ us hl => match us, hl with | [_], _ => rfl))
  have D_counts := d_counts (P := P) (w := w) (base := base) T D_item_exists D_not_found D_events_between D_kinds_told (def0_of (h := h) (He.glo_ok X G (c.fact 91)) (c.def_ 27) (fun _ _ _ _ _ _ us hl => match us, hl with | [_, _, _, _], _ => rfl))
  have D_by_creator := d_by_creator (P := P) (w := w) (base := base) T D_events_between D_kinds_told (def0_of (h := h) (He.glo_ok X G (c.fact 92)) (c.def_ 28) (fun _ _ _ _ _ _ us hl => match us, hl with | [_, _, _, _], _ => rfl))
  have D_categories_told := d_categories_told (P := P) (w := w) (base := base) T (def0_of (h := h) (He.glo_ok X G (c.fact 93)) (c.def_ 29) (fun _ _ _ _ _ _ us hl => match us, hl with | [_, _], _ => rfl))
  have D_categories := d_categories (P := P) (w := w) (base := base) T D_events_between D_categories_told (def0_of (h := h) (He.glo_ok X G (c.fact 94)) (c.def_ 30) (fun _ _ _ _ _ _ us hl => match us, hl with | [_, _, _], _ => rfl))
  have D_profile := d_profile (P := P) (w := w) (base := base) T D_member_exists D_not_found D_events_of D_categories_told (def0_of (h := h) (He.glo_ok X G (c.fact 95)) (c.def_ 31) (fun _ _ _ _ _ _ us hl => match us, hl with | [_, _], _ => rfl))
  have D_split := d_split (P := P) (w := w) (base := base) T (def0_of (h := h) (He.glo_ok X G (c.fact 96)) (c.def_ 32) (fun _ _ _ _ _ _ us hl => match us, hl with | [_, _], _ => rfl))
  have D_add_member := d_add_member (P := P) (w := w) (base := base) T D_member_exists D_outside_limits D_number_taken D_too_many (def0_of (h := h) (He.glo_ok X G (c.fact 97)) (c.def_ 33) (fun _ _ _ _ _ _ us hl => match us, hl with | [_, _, _], _ => rfl))
  have D_delete_member := d_delete_member (P := P) (w := w) (base := base) T D_member_exists D_not_found (def0_of (h := h) (He.glo_ok X G (c.fact 98)) (c.def_ 34) (fun _ _ _ _ _ _ us hl => match us, hl with | [_, _], _ => rfl))
  have D_member_info := d_member_info (P := P) (w := w) (base := base) T D_member_exists D_not_found D_events_of D_items_met (def0_of (h := h) (He.glo_ok X G (c.fact 99)) (c.def_ 35) (fun _ _ _ _ _ _ us hl => match us, hl with | [_, _], _ => rfl))
  have D_lowest_terms := d_lowest_terms (P := P) (w := w) (base := base) T (def0_of (h := h) (He.glo_ok X G (c.fact 100)) (c.def_ 36) (fun _ _ _ _ _ _ us hl => match us, hl with | [_, _], _ => rfl))
  have D_last_ratings := d_last_ratings (P := P) (w := w) (base := base) T (def0_of (h := h) (He.glo_ok X G (c.fact 101)) (c.def_ 37) (fun _ _ _ _ _ _ us hl => match us, hl with | [_, _], _ => rfl))
  have D_ratings := d_ratings (P := P) (w := w) (base := base) T D_item_exists D_not_found D_not_possible D_lowest_terms D_last_ratings (def0_of (h := h) (He.glo_ok X G (c.fact 102)) (c.def_ 38) (fun _ _ _ _ _ _ us hl => match us, hl with | [_, _], _ => rfl))
  have D_scaled_popularity := d_scaled_popularity (P := P) (w := w) (base := base) T (def0_of (h := h) (He.glo_ok X G (c.fact 103)) (c.def_ 39) (fun _ _ _ _ _ _ us hl => match us, hl with | [_, _, _, _], _ => rfl))
  have D_popularity := d_popularity (P := P) (w := w) (base := base) T D_item_exists D_not_found D_time_and_span_fit D_outside_limits D_lowest_terms D_scaled_popularity (def0_of (h := h) (He.glo_ok X G (c.fact 104)) (c.def_ 40) (fun _ _ _ _ _ _ us hl => match us, hl with | [_, _, _, _], _ => rfl))
  have D_greatest := d_greatest (P := P) (w := w) (base := base) T TB D_is_available (defC_of (He.glo_ok X G (c.fact 105)) (c.def_ 41) (fun _ _ _ _ _ _ us hl => match us, hl with | [_, _, _], _ => rfl))
  have D_top_items := d_top_items (P := P) (w := w) (base := base) T D_time_and_span_fit D_outside_limits D_scaled_popularity D_greatest (def0_of (h := h) (He.glo_ok X G (c.fact 106)) (c.def_ 42) (fun _ _ _ _ _ _ us hl => match us, hl with | [_, _, _, _], _ => rfl))
  have D_weight_of_each := d_weight_of_each (P := P) (w := w) (base := base) T (def0_of (h := h) (He.glo_ok X G (c.fact 107)) (c.def_ 43) (fun _ _ _ _ _ _ us hl => match us, hl with | [_, _], _ => rfl))
  have D_scaled_growths := d_scaled_growths (P := P) (w := w) (base := base) T (def0_of (h := h) (He.glo_ok X G (c.fact 108)) (c.def_ 44) (fun _ _ _ _ _ _ us hl => match us, hl with | [_, _], _ => rfl))
  have D_trending := d_trending (P := P) (w := w) (base := base) T D_time_and_span_fit D_outside_limits D_weight_of_each D_events_between D_scaled_growths D_greatest (def0_of (h := h) (He.glo_ok X G (c.fact 109)) (c.def_ 45) (fun _ _ _ _ _ _ us hl => match us, hl with | [_, _, _, _], _ => rfl))
  have D_sessions_of := d_sessions_of (P := P) (w := w) (base := base) T D_events_of (def0_of (h := h) (He.glo_ok X G (c.fact 110)) (c.def_ 46) (fun _ _ _ _ _ _ us hl => match us, hl with | [_, _], _ => rfl))
  have D_all_sessions := d_all_sessions (P := P) (w := w) (base := base) T D_sessions_of (def0_of (h := h) (He.glo_ok X G (c.fact 111)) (c.def_ 47) (fun _ _ _ _ _ _ us hl => match us, hl with | [_], _ => rfl))
  have D_sessions := d_sessions (P := P) (w := w) (base := base) T D_member_exists D_not_found D_sessions_of D_items_met (def0_of (h := h) (He.glo_ok X G (c.fact 112)) (c.def_ 48) (fun _ _ _ _ _ _ us hl => match us, hl with | [_, _], _ => rfl))
  have D_together := d_together (P := P) (w := w) (base := base) T D_item_exists D_not_found D_all_sessions D_items_met D_greatest (def0_of (h := h) (He.glo_ok X G (c.fact 113)) (c.def_ 49) (fun _ _ _ _ _ _ us hl => match us, hl with | [_, _, _], _ => rfl))
  have D_steps_reached := d_steps_reached (P := P) (w := w) (base := base) T (def0_of (h := h) (He.glo_ok X G (c.fact 114)) (c.def_ 50) (fun _ _ _ _ _ _ us hl => match us, hl with | [_, _], _ => rfl))
  have D_conversion := d_conversion (P := P) (w := w) (base := base) T D_item_exists D_not_found D_not_possible D_lowest_terms D_all_sessions D_steps_reached (def0_of (h := h) (He.glo_ok X G (c.fact 115)) (c.def_ 51) (fun _ _ _ _ _ _ us hl => match us, hl with | [_, _], _ => rfl))
  have D_events_of_pairs := d_events_of_pairs (P := P) (w := w) (base := base) T (def0_of (h := h) (He.glo_ok X G (c.fact 116)) (c.def_ 52) (fun _ _ _ _ _ _ us hl => match us, hl with | [_], _ => rfl))
  have D_funnel := d_funnel (P := P) (w := w) (base := base) T D_kinds_fit D_outside_limits D_events_of_pairs D_events_between D_steps_reached (def0_of (h := h) (He.glo_ok X G (c.fact 117)) (c.def_ 53) (fun _ _ _ _ _ _ us hl => match us, hl with | [_, _, _, _], _ => rfl))
  have D_contents := d_contents (P := P) (w := w) (base := base) T D_item_data (def0_of (h := h) (He.glo_ok X G (c.fact 118)) (c.def_ 54) (fun _ _ _ _ _ _ us hl => match us, hl with | [_], _ => rfl))
  have D_hashed := d_hashed (P := P) (w := w) (base := base) T (def0_of (h := h) (He.glo_ok X G (c.fact 119)) (c.def_ 55) (fun _ _ _ _ _ _ us hl => match us, hl with | [_], _ => rfl))
  have D_digest := d_digest (P := P) (w := w) (base := base) T D_contents D_hashed (def0_of (h := h) (He.glo_ok X G (c.fact 120)) (c.def_ 56) (fun _ _ _ _ _ _ us hl => match us, hl with | [_], _ => rfl))
  have D_status := d_status (P := P) (w := w) (base := base) T D_is_available D_last_time (def0_of (h := h) (He.glo_ok X G (c.fact 121)) (c.def_ 57) (fun _ _ _ _ _ _ us hl => match us, hl with | [_], _ => rfl))
  have D_history := d_history (P := P) (w := w) (base := base) T D_member_exists D_not_found D_events_of (def0_of (h := h) (He.glo_ok X G (c.fact 122)) (c.def_ 58) (fun _ _ _ _ _ _ us hl => match us, hl with | [_, _, _], _ => rfl))
  have D_unseen := d_unseen (P := P) (w := w) (base := base) T D_member_exists D_not_found D_events_of D_items_met D_is_available (def0_of (h := h) (He.glo_ok X G (c.fact 123)) (c.def_ 59) (fun _ _ _ _ _ _ us hl => match us, hl with | [_, _], _ => rfl))
  have D_opinion := d_opinion (P := P) (w := w) (base := base) T (def0_of (h := h) (He.glo_ok X G (c.fact 124)) (c.def_ 60) (fun _ _ _ _ _ _ us hl => match us, hl with | [_], _ => rfl))
  have D_opinions := d_opinions (P := P) (w := w) (base := base) T D_member_exists D_not_found D_events_of D_items_met D_opinion (def0_of (h := h) (He.glo_ok X G (c.fact 125)) (c.def_ 61) (fun _ _ _ _ _ _ us hl => match us, hl with | [_, _], _ => rfl))
  have D_has_met := d_has_met (P := P) (w := w) (base := base) T D_events_of D_items_met (def0_of (h := h) (He.glo_ok X G (c.fact 126)) (c.def_ 62) (fun _ _ _ _ _ _ us hl => match us, hl with | [_, _, _], _ => rfl))
  have D_common_members := d_common_members (P := P) (w := w) (base := base) T D_item_exists D_not_found D_has_met (def0_of (h := h) (He.glo_ok X G (c.fact 127)) (c.def_ 63) (fun _ _ _ _ _ _ us hl => match us, hl with | [_, _, _], _ => rfl))
  have D_create := d_create (P := P) (w := w) (base := base) T D_weights_fit D_outside_limits D_Store (def0_of (h := h) (He.glo_ok X G (c.fact 128)) (c.def_ 64) (fun _ _ _ _ _ _ us hl => match us, hl with | [_, _, _, _], _ => rfl))
  have D_answer_change := d_answer_change (P := P) (w := w) (base := base) T D_add_item D_set_price D_set_withdrawn D_add_member D_delete_member D_record D_expire (def0_of (h := h) (He.glo_ok X G (c.fact 129)) (c.def_ 65) (fun _ _ _ _ _ _ us hl => match us, hl with | [_, _, _], _ => rfl))
  have D_answer_question := d_answer_question (P := P) (w := w) (base := base) T D_item_info D_member_info D_counts D_ratings D_popularity D_top_items D_categories (def0_of (h := h) (He.glo_ok X G (c.fact 130)) (c.def_ 66) (fun _ _ _ _ _ _ us hl => match us, hl with | [_, _, _], _ => rfl))
  have D_answer_later_question := d_answer_later_question (P := P) (w := w) (base := base) T D_profile D_history D_sessions D_together D_common_members D_conversion D_funnel (def0_of (h := h) (He.glo_ok X G (c.fact 131)) (c.def_ 67) (fun _ _ _ _ _ _ us hl => match us, hl with | [_, _, _], _ => rfl))
  have D_answer_last_question := d_answer_last_question (P := P) (w := w) (base := base) T D_trending D_unseen D_opinions D_split D_by_creator D_digest D_status (def0_of (h := h) (He.glo_ok X G (c.fact 132)) (c.def_ 68) (fun _ _ _ _ _ _ us hl => match us, hl with | [_, _, _], _ => rfl))
  have D_answer_call := d_answer_call (P := P) (w := w) (base := base) T D_create D_no_store D_answer_change D_answer_question D_answer_later_question D_answer_last_question (def0_of (h := h) (He.glo_ok X G (c.fact 133)) (c.def_ 69) (fun _ _ _ _ _ _ us hl => match us, hl with | [_, _, _], _ => rfl))
  exact d_answers T D_Desk D_answer_call F
end Shelf
end

section
set_option maxHeartbeats 0
/-! The facts of the head, over the addresses that a few steps reach; the run in parts. -/
noncomputable section
namespace Shelf
open PySem PySem.W PySem.Calls PyProof.Rows
/-- what these name -/
def lvl (g : Addr → Option Obj) (as : List Addr) : List Addr := as.flatMap fun a => match g a with
  | some o => He.refsD o
  | none => []
/-- the names' objects; their parts; the parts of these; two steps more from the classes alone -/
def asL (g : Addr → Option Obj) (cls : List PySem.Str) : List Addr :=
  let l1 := lvl g [mainGlobals]
  let l2 := lvl g l1
  let cs := cls.map fun x => He.ga (He.frG g [mainGlobals]) x
  let c3 := lvl g (lvl g (lvl g cs))
  [mainGlobals] ++ l1 ++ l2 ++ c3 ++ lvl g c3
abbrev AlY : Type := He.AlD × Bool
def obsY (cls : List PySem.Str) (fa : List He.Fa) (fn : List He.DefD) (tf : List He.Defn) (g : Addr → Option Obj) : AlY := (He.obsD fa fn (He.frT g (asL g cls)), He.tabsB g tf (He.frT g (asL g cls)))
def valY (fn : List He.DefD) : AlY := (He.valD fn, true)
structure SaysY (fa : List He.Fa) (fn : List He.DefD) (tf : List He.Defn) (h : Heap) (K : PySem.W.Frag) : Prop where
  d : He.SaysD fa fn K
  hd : ∀ p ∈ tf, PySem.W.codeHdIn K (He.cT K p).1 (He.cT K p).2 = true
  out : ∀ p ∈ tf, K.lookup (He.cT K p).2 = none
  empty : ∀ p ∈ tf, h.get? (He.cT K p).2 = some { cls := .none, data := .fields #[] }
theorem saysY_of {cls : List PySem.Str} {fa : List He.Fa} {fn : List He.DefD} {tf : List He.Defn} {h : Heap} (e : obsY cls fa fn tf h.get? = valY fn) : SaysY fa fn tf h (He.frT h.get? (asL h.get? cls)) := by
  have e1 : He.obsD fa fn (He.frT h.get? (asL h.get? cls)) = He.valD fn := congrArg (fun z : AlY => z.1) e
  have e2 : He.tabsB h.get? tf (He.frT h.get? (asL h.get? cls)) = true := congrArg (fun z : AlY => z.2) e
  have key : ∀ p ∈ tf, PySem.W.codeHdIn (He.frT h.get? (asL h.get? cls)) (He.cT (He.frT h.get? (asL h.get? cls)) p).1 (He.cT (He.frT h.get? (asL h.get? cls)) p).2 = true ∧ ∃ o, h.get? (He.cT (He.frT h.get? (asL h.get? cls)) p).2 = some o ∧ He.emptyTab o = true := fun p hp => by
    obtain ⟨h3, h4⟩ := He.ba (List.all_eq_true.mp e2 p hp)
    refine ⟨h3, ?_⟩
    cases q : h.get? (He.cT (He.frT h.get? (asL h.get? cls)) p).2 with
    | none =>
      rw [q] at h4
      cases h4
    | some o =>
      rw [q] at h4
      exact ⟨o, rfl, h4⟩
  exact ⟨e1, fun p hp => (key p hp).1, fun p hp => by
    obtain ⟨_, o, q, z⟩ := key p hp
    exact He.frT_none q z, fun p hp => by
    obtain ⟨_, o, q, z⟩ := key p hp
    rw [q, He.emptyTab_eq z]⟩
def hookY (cls : List PySem.Str) (fa : List He.Fa) (fn : List He.DefD) (tf : List He.Defn) : PySem.W.Hook where
  α := AlY
  obs := fun s => obsY cls fa fn tf s.heap.get?
  val := fun _ => valY fn
  says := fun _ h => ∃ K : PySem.W.Frag, K.In h ∧ SaysY fa fn tf h K
  of := fun _ _ e => ⟨_, He.frT_in, saysY_of e⟩
  keeps := fun _ _ _ ⟨K, hK, c⟩ k => ⟨K, PySem.W.Frag.In.keeps hK k, ⟨c.d, c.hd, c.out, fun p hp => k _ _ (c.empty p hp)⟩⟩
theorem obsY_eq {cls : List PySem.Str} {fa : List He.Fa} {fn : List He.DefD} {tf : List He.Defn} {g : Addr → Option Obj} {s : Shared} (h : ∀ a, g a = s.heap.get? a) : obsY cls fa fn tf g = (hookY cls fa fn tf).obs s := by
  have e : g = s.heap.get? := funext h
  rw [e] <;> rfl
theorem map_two {α β γ : Type} {o : Option α} {f : α → β} {g : α → γ} {b : β} {c : γ} (h1 : o.map f = some b) (h2 : o.map g = some c) : o.map (fun s => (f s, g s)) = some (b, c) := by
  cases o with
  | none => cases h1
  | some s =>
    have e1 : f s = b := Option.some.inj h1
    have e2 : g s = c := Option.some.inj h2
    show some (f s, g s) = some (b, c)
    rw [e1, e2]
abbrev Rw : OpenSpec := PySem.Challenge.rw_eventshelf_s01_answers
abbrev Qv : Program := view Rw.prog [116]
abbrev clsN : List PySem.Str := [("Item" : PySem.Str), ("Event" : PySem.Str), ("Store" : PySem.Str), ("Desk" : PySem.Str)]
abbrev hk : PySem.W.Hook := hookY clsN fas fns tfs
def ob (s : PySem.W.SharedT) : AlY := obsY clsN fas fns tfs (HandSHeadRun.getT s)
theorem ob_eq (s : PySem.W.SharedT) : ob s = hk.obs s.abs := obsY_eq (HandSHeadRun.getT_eq s)
def endS (w : World) (os : OsState) := HandSHeadRun.endF (HandSHeadRun.stepQ (HandSHeadRun.denQ HandSHeadRun.tabQ) Rw.prog w) 6000 Rw.prog w os
end Shelf
end
end

section
set_option maxHeartbeats 0
noncomputable section
namespace Shelf
open PySem PySem.W PySem.Calls PyProof.Rows
theorem run2 (w : World) (os : OsState) : (endS w os).map ob = some (hk.val w) := by kernel_rfl
end Shelf
end
end

section
set_option maxHeartbeats 0
noncomputable section
namespace Shelf
open PySem PySem.W PySem.Calls PyProof.Rows
def lo0 : List PySem.Str := [("MAX_RETENTION" : PySem.Str), ("MAX_GAP" : PySem.Str), ("KIND_COUNT" : PySem.Str), ("MAX_WEIGHT" : PySem.Str), ("MAX_CREATOR" : PySem.Str), ("MAX_PRICE" : PySem.Str), ("MAX_DAY" : PySem.Str), ("CATEGORY_COUNT" : PySem.Str), ("MAX_CATEGORIES_OF_ITEM" : PySem.Str), ("MAX_MEMBER" : PySem.Str), ("MAX_TIME" : PySem.Str), ("MAX_FLAG" : PySem.Str), ("VIEW" : PySem.Str), ("LIKE" : PySem.Str), ("DISLIKE" : PySem.Str), ("RATING" : PySem.Str), ("PURCHASE" : PySem.Str), ("MAX_RATING" : PySem.Str), ("MAX_ITEMS" : PySem.Str), ("MAX_MEMBERS" : PySem.Str), ("MAX_EVENTS" : PySem.Str), ("MAX_STEPS" : PySem.Str), ("weights_fit" : PySem.Str), ("categories_fit" : PySem.Str), ("value_fits" : PySem.Str), ("time_and_span_fit" : PySem.Str), ("kinds_fit" : PySem.Str), ("no_store" : PySem.Str), ("not_found" : PySem.Str), ("outside_limits" : PySem.Str), ("number_taken" : PySem.Str), ("too_many" : PySem.Str), ("not_possible" : PySem.Str), ("Item" : PySem.Str), ("Event" : PySem.Str), ("Store" : PySem.Str), ("item_exists" : PySem.Str), ("member_exists" : PySem.Str), ("is_available" : PySem.Str), ("item_data" : PySem.Str)]
def lo1 : List PySem.Str := [("events_between" : PySem.Str), ("events_of" : PySem.Str), ("last_time" : PySem.Str), ("items_met" : PySem.Str), ("add_item" : PySem.Str), ("set_price" : PySem.Str), ("set_withdrawn" : PySem.Str), ("item_info" : PySem.Str), ("MINUTES_OF_DAY" : PySem.Str), ("time_follows" : PySem.Str), ("record" : PySem.Str), ("expire" : PySem.Str), ("kinds_told" : PySem.Str), ("counts" : PySem.Str), ("by_creator" : PySem.Str), ("categories_told" : PySem.Str), ("categories" : PySem.Str), ("profile" : PySem.Str), ("split" : PySem.Str), ("add_member" : PySem.Str), ("delete_member" : PySem.Str), ("member_info" : PySem.Str), ("lowest_terms" : PySem.Str), ("MAX_HALVINGS" : PySem.Str), ("last_ratings" : PySem.Str), ("ratings" : PySem.Str), ("scaled_popularity" : PySem.Str), ("popularity" : PySem.Str), ("greatest" : PySem.Str), ("top_items" : PySem.Str), ("weight_of_each" : PySem.Str), ("scaled_growths" : PySem.Str), ("trending" : PySem.Str), ("sessions_of" : PySem.Str), ("all_sessions" : PySem.Str), ("sessions" : PySem.Str), ("together" : PySem.Str), ("steps_reached" : PySem.Str), ("conversion" : PySem.Str), ("events_of_pairs" : PySem.Str)]
def lo2 : List PySem.Str := [("funnel" : PySem.Str), ("HASH_START" : PySem.Str), ("HASH_FACTOR" : PySem.Str), ("HASH_RANGE" : PySem.Str), ("contents" : PySem.Str), ("hashed" : PySem.Str), ("digest" : PySem.Str), ("status" : PySem.Str), ("LIKED" : PySem.Str), ("DISLIKED" : PySem.Str), ("UNDECIDED" : PySem.Str), ("history" : PySem.Str), ("unseen" : PySem.Str), ("opinion" : PySem.Str), ("opinions" : PySem.Str), ("has_met" : PySem.Str), ("common_members" : PySem.Str), ("Desk" : PySem.Str), ("create" : PySem.Str), ("answer_change" : PySem.Str), ("answer_question" : PySem.Str), ("answer_later_question" : PySem.Str), ("answer_last_question" : PySem.Str), ("answer_call" : PySem.Str)]
def loose : List PySem.Str := lo0 ++ lo1 ++ lo2
theorem run1 (w : World) (os : OsState) : (endS w os).map (fun s => (HandSHeadRun.looksF Rw.prog (boot_heap w.params) s.abs, HandSHeadRun.seenQ Qv loose (importedModules Rw.prog.main.body) (fun s => xlAt Qv [] s && recOk [] s) s.abs)) = some (true, openGood Qv loose) := by kernel_rfl
end Shelf
end
end

section
set_option maxHeartbeats 4000000
namespace Shelf
open PySem PySem.Spec PyProof.Rows L2 LamX
open PySem.W (Codec)
theorem map_three {S A B C : Type} {o : Option S} {f : S → A} {g : S → B} {k : S → C} {a : A} {b : B} {c : C} (h1 : o.map (fun s => (f s, g s)) = some (a, b)) (h2 : o.map k = some c) : o.map (fun s => (f s, g s, k s)) = some (a, b, c) := by
  cases o with
  | none => cases h1
  | some s =>
    have e1 : (f s, g s) = (a, b) := Option.some.inj h1
    have e2 : k s = c := Option.some.inj h2
    injection e1 with e3 e4
    show some (f s, g s, k s) = some (a, b, c)
    rw [e3, e4, e2]
theorem run (w : World) : HandSHeadRun.RunEqS Rw Qv hk ob 6000 loose w := fun os => map_three (run1 w os) (run2 w os)
theorem int_nat : ∀ {l : List Int}, (∀ x ∈ l, 0 ≤ x) → intL (l.map Int.toNat) = l
  | [], _ => rfl
  | x :: r, h => by
    have h1 := int_nat (l := r) fun y hy => h y (List.mem_cons_of_mem _ hy)
    have h2 := h x List.mem_cons_self
    show (x.toNat : Int) :: intL (r.map Int.toNat) = x :: r
    rw [h1, Int.toNat_of_nonneg h2]
theorem spec_at {w : World} {K : PySem.W.Frag} {h : Heap} {mg : Str → Option Value} {fa : Addr} (KX : K.In h) (G : h.Ns mainGlobals mg) (hmg : mg ("answers" : Str) = some (.ref fa)) (c : SaysY fas fns tfs h K) : SpecAt Rw w K CX0 7 ["calls"] mg fa h := by
  obtain ⟨fd, FD⟩ := c.d.def_ 70 (d := nd "answers" s_answers) rfl
  have e := hmg.symm.trans (He.glo_ok KX G (c.d.fact 134 (f := .glo "answers") rfl))
  cases e
  have mem : (("greatest", none) : He.Defn) ∈ tfs := List.mem_singleton.mpr rfl
  refine ⟨fd, [He.cT K ("greatest", none)], sp_answers K (He.cT K ("greatest", none)).2, fun p hp => ?_, fun p hp => ?_, fun p hp => ?_, fun s us hl => FunD.bindsA (ps := ["calls"]) FD (fun _ _ _ _ _ _ us hl => match us, hl with | [_], _ => rfl) s us hl, ?_, fun base X2 G2 TB => ok_answers KX G c.d (TB _ (List.mem_singleton.mpr rfl)) (fun_of FD)⟩
  · rw [List.mem_singleton.mp hp]
    exact c.empty _ mem
  · rw [List.mem_singleton.mp hp]
    exact c.out _ mem
  · rw [List.mem_singleton.mp hp]
    exact PySem.W.codeHd_of_K KX (c.hd _ mem)
  · intro H0 H xs a hO up hT hwi hask hx
    cases hx with
    | cons h1 h2 =>
      cases h2
      cases h1 with
      | lst hs ha =>
        have e := L2.ints_dw a.1 _ ha
        subst e
        have q : ((Codec.inLen 0 720 a.1 && a.1.all (Codec.inInt 0 4294967295)) && true) = true := hwi
        rw [Bool.and_true, Bool.and_eq_true] at q
        have hl := (Codec.inNat_iff.mp q.1).2
        have hz : ∀ x ∈ a.1, 0 ≤ x := fun x hx => by
          have z := List.all_eq_true.mp q.2 x hx
          unfold Codec.inInt at z
          rw [Bool.and_eq_true, decide_eq_true_eq, decide_eq_true_eq] at z
          exact z.1
        have ei := int_nat hz
        have q2 : PyKp427.answers_asked a.1 = true := hask
        unfold PyKp427.answers_asked at q2
        cases hc : PyKp427.calls a.1 with
        | none =>
          rw [hc] at q2
          cases q2
        | some cs =>
          rw [hc] at q2
          have q3 : (PyFlat.atMost 60 cs && Kp427Neutral.asked cs && PyFlat.short 10000000 (PyKp427.answers a.1)) = true := q2
          rw [Bool.and_eq_true, Bool.and_eq_true] at q3
          have ea : PyKp427.answers a.1 = PyFlat.told (PyFlat.played Kp427Neutral.step Kp427Neutral.start cs) := by
            unfold PyKp427.answers
            rw [hc]
          have qa := q3.1.2
          unfold Kp427Neutral.asked at qa
          rw [Bool.and_eq_true, Bool.and_eq_true] at qa
          have qs : (PyKp427.answers a.1).length ≤ 10000000 := of_decide_eq_true q3.2
          rw [ea] at qs
          have ev : (a.1.map Int.toNat).map nV = a.1.map V.int := by
            have z := congrArg (List.map V.int) ei
            rw [List.map_map] at z
            exact z
          refine ⟨_, a.1.map Int.toNat, a.1.length, cs, rfl, ?_, ?_, ?_, ?_, qa.2.2, qs, fun p H2 hp => ?_⟩
          · rw [ev]
            rcases hs with (z | ⟨o, z⟩) | z
            · rcases hO _ with n | ⟨o, u, n⟩
              · rw [z] at n
                cases n
              · rw [z] at n
                cases n
            · exact .inl ⟨o, up _ _ z⟩
            · exact .inr fun H3 => .inr z
          · rw [List.length_map]
            have : a.1.length ≤ 720 := hl
            omega
          · intro x hx
            rw [List.mem_singleton.mp hx]
            exact TabS.nil (hT _ (List.mem_singleton.mpr rfl))
          · rw [ei]
            exact hc
          · show Dw K H2 (.ref p) (.list ((PyKp427.answers a.1).map PySem.W.WData.int))
            rw [ea]
            exact .lst (Evl.sq_of hp) (L2.dw_ints _)
end Shelf
end

noncomputable section
namespace Shelf
open PySem PySem.W PyProof.Rows
theorem e_open : opening Rw.prog = plainProg Rw.prog.main.scope.names := by kernel_rfl
theorem e_fence (s : Shared) : fenceModules? Rw.prog s = some s := by kernel_rfl
abbrev dA : DefRec := HandSHeadRun.topDef Rw.prog 116
theorem e_def : defOf Qv Rw.name = some (dA, []) := by kernel_rfl
theorem e_the : Rw.prog.theDef Rw.name = some (dA.params, dA.body, dA.scope) := by kernel_rfl
theorem e_kw : kwWritten? dA.params.kwonlyargs dA.params.kw_defaults = some [] := by kernel_rfl
/-! the looks at the text, one by one -/
theorem k_fenced : sreFenced Rw.prog.main = true := by
  have h : PySem.W.Fast.tw11788848310118352699 Rw.prog.main = true := by kernel_rfl
  rw [PySem.W.Fast.te11788848310118352699]
  exact h
theorem k_mods : ((moduleNames Rw.prog.main.body).isEmpty || lookedIntoSs (moduleNames Rw.prog.main.body) Rw.prog.main.body) = true := by kernel_rfl
theorem k_names : namesResolve Rw.prog = true := by
  have h : PySem.W.Fast.tw8377067652309620493 Rw.prog = true := by kernel_rfl
  rw [PySem.W.Fast.te8377067652309620493]
  exact h
theorem k_world : Rw.prog.boundNames.all (fun n => !worldNames.contains n) = true := by kernel_rfl
theorem k_roads : noRoadLSs { strict := !(importedModules Rw.prog.main.body).all cThrough.contains, foot := none, bare := (["vars", "dir", "locals"] : List PySem.Str).filter (readsOut Rw.prog Rw.prog.main.body) } Rw.prog.main.body = true := by
  have h : PySem.W.Fast.tw8326940854005059898 { strict := !(importedModules Rw.prog.main.body).all cThrough.contains, foot := none, bare := (["vars", "dir", "locals"] : List PySem.Str).filter (readsOut Rw.prog Rw.prog.main.body) } Rw.prog.main.body = true := by kernel_rfl
  rw [PySem.W.Fast.te8326940854005059898]
  exact h
theorem k_meet : (namesMeet Rw.prog Rw.prog.main.body fun _ n => attrL n) = true := by
  have h : PySem.W.Fast.tw17119622794617984870 Rw.prog Rw.prog.main.body (fun _ n => PySem.W.Fast.tw17868728402115742887 n) = true := by kernel_rfl
  rw [PySem.W.Fast.te17119622794617984870, PySem.W.Fast.te17868728402115742887]
  exact h
theorem all_six {a b c d e f : Bool} (h1 : a = true) (h2 : b = true) (h3 : c = true) (h4 : d = true) (h5 : e = true) (h6 : f = true) : (a && b && c && d && e && f) = true := by
  rw [h1, h2, h3, h4, h5, h6]
  rfl
theorem e_looks : looksOpen Rw.prog = true := all_six k_fenced k_mods k_names k_world k_roads k_meet
theorem e_bound : Rw.prog.boundNames.contains Rw.name = true := by kernel_rfl
theorem e_start : (!startupNames.contains Rw.name) = true := by kernel_rfl
theorem e_sdef : specDef Rw.prog Rw.name Rw.args.length = true := by kernel_rfl
theorem e_fits : Rw.args.all Codec.fits = true := by kernel_rfl
theorem e_ret : Rw.ret.ok = true := by kernel_rfl
theorem e_said : Rw.wellSaid = true := all_six e_looks e_bound e_start e_sdef e_fits e_ret
theorem e_ok : (chainsOk Qv && opensWell Rw.prog) = true := by decide +kernel
theorem e_bare : Rw.prog.bare := ⟨rfl, rfl, rfl, rfl, rfl, by decide +kernel⟩
theorem e_wit : ∃ args, Rw.pre args = true ∧ WData.layableAll args = true := ⟨[.list [.int 28, .int 0, .int 0]], by kernel_rfl, by kernel_rfl⟩
theorem e_name : dA.name = ("answers" : PySem.Str) := by kernel_rfl
end Shelf
end
open PySem PySem.W PyProof.Rows
set_option maxRecDepth 100000 in
set_option maxHeartbeats 8000000 in
theorem PySem.Challenge.cw_eventshelf_s01_answers_holds : PySem.Challenge.rw_eventshelf_s01_answers.Holds := by
  w_on
  refine HandSHeadRun.head_spec (r := Shelf.Rw) (q := Shelf.Qv) (H := Shelf.hk) (ob := Shelf.ob) (M := 6000) (loose := Shelf.loose) (d := Shelf.dA) (kwd := []) Shelf.ob_eq Shelf.e_open Shelf.e_fence Shelf.run Shelf.e_def Shelf.e_the Shelf.e_kw os_shapes Shelf.e_said Shelf.e_ok Shelf.e_bare Shelf.e_wit ?hc
  refine Shelf.walk_specTs (r := Shelf.Rw) (k := 7) (CX := fun _ => L2.CX0) (ps := [("calls" : PySem.Str)]) Shelf.e_said rfl ⟨rfl, by decide, by decide⟩ ?F (fun _ _ _ _ _ z => z)
  intro w mg fa h Y G hmg0
  obtain ⟨K, KX, c⟩ := Y
  have hmg : mg ("answers" : PySem.Str) = some (.ref fa) := by
    rw [← Shelf.e_name]
    exact hmg0
  exact ⟨K, KX, Shelf.spec_at KX G hmg c⟩
