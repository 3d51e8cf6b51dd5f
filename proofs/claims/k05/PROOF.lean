import PyProof.Rows.All
import Wide.All
import OpenK.AllK
import Wide.FinOn
import HandS.ForMost
import HandS.ForExc
import HandS.Wide
import HandS.Evl
import HandS.SortRule
import HandS.IsInst
import HandS.Flow
import HandS.More
import HandS.Zip
import HandS.SortKw
import KE.DataAny
import KE.DatumOrd
import PyProof.TypeEq
import HandS.SortInts
import HandS.Rev
import PySem.Challenge.RW_deadlinerun_k05_run_does_all
set_option Elab.async false
set_option linter.all false
set_option maxRecDepth 100000
namespace L2
open PySem PySem.Spec PyProof.Rows PySem.W
/-! ### rules of my own -/
section
variable {X : Cx} {a b c d : Expr} {ta tb tc td : TE} {pos : Pos}
/-- three comparisons in a row -/
def tChain3 (r r' r'' : R2) (ta tb tc td : TE) : TE := fun σ H Q => ta σ H fun x H1 => tb σ H1 fun y H2 => r x y H2 fun z H3 => ∃ k, z = .bl k ∧
  (if k = true then tc σ H3 fun w' H4 => r' y w' H4 fun z2 H5 => ∃ k2, z2 = .bl k2 ∧ (if k2 = true then td σ H5 fun w2 H6 => r'' w' w2 H6 Q else Q (.bl false) H5) else Q (.bl false) H3)
theorem pe_chain3 {op op' op'' : CmpOp} {r r' r'' : R2} (ho : OpR X (compareOp op) r) (ho' : OpR X (compareOp op') r') (ho'' : OpR X (compareOp op'') r'') (ha : PE X a ta) (hb : PE X b tb) (hc : PE X c tc) (hd : PE X d td)
    (hm : lastMarks [op, op', op''] [b, c, d] = false := by with_unfolding_all rfl) : PE X (.Compare a [op, op', op''] [b, c, d] pos) (tChain3 r r' r'' ta tb tc td) := by
  refine ⟨fun pn t₀ τ G Q J rd => ?_⟩
  refine Compare_chain (thn (ha.run pn t₀ τ G _ J rd) fun v₁ t₁ ⟨x₁, G₁, J₁, k₁, w₁⟩ => chain_link (thn (hb.run pn t₁ τ G₁ _ J₁ w₁) fun v₂ t₂ ⟨x₂, G₂, J₂, k₂, w₂⟩ =>
    thn (ho pn t₂ τ G₂ x₁ x₂ v₁ v₂ _ J₂ k₁ k₂ w₂) fun b₁ t₃ ⟨y₁, G₃, J₃, l₁, m, em, w₃⟩ => ?_)) hm
  subst em
  cases l₁
  refine wpAny_truthy_bool ?_
  cases m with
  | false =>
    refine ite_ff ⟨.bl false, G₃, J₃, rfl, w₃⟩
  | true =>
    refine ite_tt (chain_link (thn (hc.run pn t₃ τ G₃ _ J₃ w₃) fun v₃ t₄ ⟨x₃, G₄, J₄, k₃, w₄⟩ => thn (ho' pn t₄ τ G₄ x₂ x₃ v₂ v₃ _ J₄ k₂ k₃ w₄) fun b₂ t₅ ⟨y₂, G₅, J₅, l₂, m₂, em₂, w₅⟩ => ?_))
    subst em₂
    cases l₂
    refine wpAny_truthy_bool ?_
    cases m₂ with
    | false =>
      refine ite_ff ⟨.bl false, G₅, J₅, rfl, w₅⟩
    | true => exact ite_tt (chain_last (thn (hd.run pn t₅ τ G₅ _ J₅ w₅) fun v₄ t₆ ⟨x₄, G₆, J₆, k₄, w₆⟩ => ho'' pn t₆ τ G₆ x₃ x₄ v₃ v₄ Q J₆ k₃ k₄ w₆))

/-- xs[i], by values, for a store by an operator -/
theorem get_list : PGet X (rIxL X.K) := by
  intro pn t₀ τ G o i ov iv Q J ro ri rd
  obtain ⟨p, xs, k, z, rfl, rfl, isl, at_, q⟩ := rd
  cases ro
  obtain ⟨tk, rfl⟩ := ri
  obtain ⟨items, rel, place, size⟩ := J.list isl
  obtain ⟨n, n1, n2, n3, n4, n5⟩ := atI_get at_
  obtain ⟨u, eu, ru⟩ := rel.get n2
  have len := rel.length
  have most := line63
  have done : EP X pn τ Q u t₀ := ⟨z, G, J, ru, q⟩
  by_cases h0 : 0 ≤ k
  · have same : k.toNat = n := by
      rw [seqIndex_of h0 n5] at n1
      exact Option.some.inj n1
    exact thn (wpAny_getItem_list (Q := fun r t => r = u ∧ EP X pn τ Q r t) place.isList h0 (by omega) (by rw [same]; simpa using eu) ⟨rfl, done⟩) fun _ _ y => y.2
  · have same : (k + (items.toArray.size : Int)).toNat = n := by
      have n1' := n1
      rw [seqIndex_neg (by omega) n4] at n1'
      rw [List.size_toArray, ← len]
      exact Option.some.inj n1'
    exact thn (wpAny_getItem_list_neg (Q := fun r t => r = u ∧ EP X pn τ Q r t) place.isList (by omega) (by rw [List.size_toArray] <;> omega) (by omega) (by rw [same]; simpa using eu) ⟨rfl, done⟩) fun _ _ y => y.2

/-- any(xs) of whole numbers -/
theorem reads_ints {h : Heap} : ∀ {ns : List Int} {us : List Value}, Vals (ns.map V.int) us → ∃ as, ReadsAll h us (ns.map PyData.int) as
  | [], _, r => by cases r; exact ⟨_, ReadsAll.nil⟩
  | n :: ns, _, r => by
    cases r with
    | cons r1 r2 =>
      obtain ⟨t, rfl⟩ := r1
      obtain ⟨as, q⟩ := reads_ints r2
      exact ⟨_, ReadsAll.cons (Reads.int n t) q⟩
theorem plain_ints : ∀ ns : List Int, PyData.plainAll (ns.map PyData.int) = true
  | [] => rfl
  | n :: ns => by
    show ((PyData.int n).plain && PyData.plainAll (ns.map PyData.int)) = true
    rw [plain_ints ns]
    rfl
theorem any_ints (ns : List Int) : (ns.map PyData.int).any PyData.truthy = ns.any (fun n => n != 0) := by
  rw [List.any_map]
  rfl
def rAnyI (K : PySem.W.Frag) : List V → Hp → VK → Prop := fun vs H Q => ∃ (a : Addr) (ns : List Int), vs = [V.ref a] ∧ SqL K H a (ns.map V.int) ∧ Q (.bl (ns.any (fun n => n != 0))) H
theorem cr_anyI (hc : X.calm = true) : CallR X (.builtin "any") (rAnyI X.K) := by
  intro pn t₀ τ G vs us Q J rel rd
  obtain ⟨a, ns, rfl, isl, q⟩ := rd
  obtain ⟨items, each, place, _⟩ := J.list isl
  rw [Vals.ref1 rel]
  obtain ⟨as, hr⟩ := reads_ints (h := t₀.heap) each
  refine any_list_data (J.ok.hd hc) place.isList (vs := items.toArray) (xs := ns.map PyData.int) (as := as) (by simpa using hr) (plain_ints ns) (fun x hx => ?_) fun h' tk hk => ?_
  · obtain ⟨n, _, rfl⟩ := List.mem_map.mp hx
    trivial
  · rw [any_ints]
    exact ⟨.bl _, G, J.kept hk, rfl, q⟩
theorem alike_ints (ns : List Int) : AlikeAll (ns.map PyData.int) := by
  refine ⟨fun x hx y hy => ?_, fun x hx => ?_⟩
  · obtain ⟨n, _, rfl⟩ := List.mem_map.mp hx
    obtain ⟨m, _, rfl⟩ := List.mem_map.mp hy
    rfl
  · obtain ⟨n, _, rfl⟩ := List.mem_map.mp hx
    intro e; cases e
theorem depth_ints : ∀ ns : List Int, PyData.depthAll (ns.map PyData.int) ≤ 2
  | [] => by decide
  | n :: ns => by
    have h := depth_ints ns
    show max (PyData.int n).depth (PyData.depthAll (ns.map PyData.int)) ≤ 2
    have h1 : (PyData.int n).depth ≤ 2 := Nat.zero_le 2
    omega
/-- min(xs, default=d) of whole numbers -/
def rMinD (K : PySem.W.Frag) : List V → List V → Hp → VK → Prop := fun vs zs H Q => ∃ (a : Addr) (ns : List Int) (d : Int), vs = [V.ref a] ∧ zs = [V.int d] ∧ SqL K H a (ns.map V.int) ∧ (ns = [] → Q (.int d) H) ∧ (ns ≠ [] → ∀ m, m ∈ ns → (∀ y, y ∈ ns → m ≤ y) → Q (.int m) H)
theorem foldl_min : ∀ (ns : List Int) (n : Int), (ns.foldl min n = n ∨ ns.foldl min n ∈ ns) ∧ ns.foldl min n ≤ n ∧ ∀ y ∈ ns, ns.foldl min n ≤ y
  | [], n => ⟨.inl rfl, Int.le_refl _, fun y h => by simp at h⟩
  | m :: ns, n => by
    obtain ⟨h1, h2, h3⟩ := foldl_min ns (min n m)
    rw [List.foldl_cons]
    refine ⟨?_, by omega, fun y hy => ?_⟩
    · rcases h1 with e | e
      · by_cases c : n ≤ m
        · left; rw [e, Int.min_eq_left c]
        · right; rw [e, Int.min_eq_right (by omega)]; exact List.mem_cons_self
      · right; exact List.mem_cons_of_mem _ e
    · rcases List.mem_cons.mp hy with e | e
      · rw [e]; omega
      · exact h3 y e
theorem cr_minD (hc : X.calm = true) (hu : X.A.units + 64 < cLine) : CallRK X (.builtin "min") [Str.ofString "default"] (rMinD X.K) := by
  intro pn t₀ τ H vs zs us ws Q I rel relK rd
  obtain ⟨a, ns, d, rfl, rfl, isl, q0, q1⟩ := rd
  obtain ⟨items, each, place, _⟩ := I.list isl
  rw [Vals.ref1 rel]
  obtain ⟨wd, rfl, rd⟩ := vals1 relK
  obtain ⟨as, hr⟩ := reads_ints (h := t₀.heap) each
  show wpAny _ _ (call (.builtin "min") [.ref a] [(Str.ofString "default", wd)]) _ _ _
  refine min_list_default (I.ok.hd hc) place.isList (vs := items.toArray) (xs := ns.map PyData.int) (as := as) (by simpa using hr) (alike_ints ns) (by have := depth_ints ns; omega) (fun e h' tk hk => ?_) fun y ys i v h' tk bs e hv hrd hk => ?_
  · exact ⟨.int d, H, I.kept hk, rd, q0 (List.map_eq_nil_iff.mp e)⟩
  · cases ns with
    | nil => cases e
    | cons n ns =>
      rw [List.map_cons] at e
      injection e with e1 e2
      subst e1
      subst e2
      rw [minD_ints] at hrd
      obtain ⟨t, ev⟩ : ∃ t, v = Value.int (ns.foldl min n) t := by
        cases hrd with
        | int _ t => exact ⟨t, rfl⟩
      obtain ⟨g1, g2, g3⟩ := foldl_min ns n
      refine ⟨.int (ns.foldl min n), H, I.kept hk, ⟨t, ev⟩, q1 (List.cons_ne_nil _ _) _ ?_ fun y hy => ?_⟩
      · rcases g1 with z | z
        · rw [z]; exact List.mem_cons_self
        · exact List.mem_cons_of_mem _ z
      · rcases List.mem_cons.mp hy with z | z
        · rw [z]; exact g2
        · exact g3 y z

/-! ### == and != of built-in types -/
theorem meta_of {T : String} (h : T = "int" ∨ T = "bool" ∨ T = "str" ∨ T = "NoneType" ∨ T = "list" ∨ T = "tuple") : ∀ s' : Shared, s'.TypeIs (.type T) "type" := by
  intro s'
  rcases h with rfl | rfl | rfl | rfl | rfl | rfl
  · exact TypeEq.meta_int s'
  · exact TypeEq.meta_bool s'
  · exact TypeEq.meta_str s'
  · exact TypeEq.meta_NoneType s'
  · exact TypeEq.meta_list s'
  · exact TypeEq.meta_tuple s'
def SmallTy (T : String) : Prop := T = "int" ∨ T = "bool" ∨ T = "str" ∨ T = "NoneType" ∨ T = "list" ∨ T = "tuple"
def rEqTy : R2 := fun x y H Q => ∃ a b, x = .ty a ∧ y = .ty b ∧ SmallTy a ∧ SmallTy b ∧ Q (.bl (decide (a = b))) H
theorem op_eqTy : OpR X (compareOp .Eq) rEqTy := by
  intro pn t₀ τ G p₁ p₂ v₁ v₂ Q J rel₁ rel₂ rd
  obtain ⟨a, b, rfl, rfl, ha, hb, q⟩ := rd
  cases (show v₁ = Value.type a from rel₁)
  cases (show v₂ = Value.type b from rel₂)
  by_cases e : a = b
  · subst e
    exact TypeEq.eq_type_same (meta_of ha) (fin_bl J q (decide_eq_true rfl))
  · exact TypeEq.eq_type_other (meta_of ha) (meta_of hb) (beq_eq_false_iff_ne.mpr fun z => e (Value.type.inj z)) (fin_bl J q (decide_eq_false e))
end
end L2
namespace PySem.TypeEq
open Sem (wp)
theorem slot_type_ne : Slot "type" (cmpInfo .NotEq).2.1 "object.__ne__" := by
  refine .of (owner := "object") (n := "__ne__") ?_ (by decide +kernel) (by decide +kernel) (by decide +kernel) ?_ ?_
  · rw [typeLookup_type, builtinLookup_eq_fast]
    kernel_rfl
  · first
      | exact .inl (by decide +kernel)
      | exact .inr (by decide +kernel)
  · rw [isSubtype_type]
    kernel_rfl
theorem slot_type_ne_refl : Slot "type" (cmpInfo .NotEq).2.2 "object.__ne__" := slot_type_ne
section
variable {prog : Program} {w : World} {A : Around} {s : Shared} {E : Value → Shared → Prop}
theorem object_ne_run {X Y : String} {Q : Fin → Shared → Prop} (hX : ∀ s' : Shared, s'.TypeIs (.type X) "type")
    (h : if (Value.type X == Value.type Y) = true then Q (.done (.ret (.bool false))) s else Q (.done (.ret .notImplemented)) s) :
    wpAny (model prog w) A (Builtin.«object.__ne__» ⟨[.type X, .type Y], []⟩) Q E s := by
  show wpAny _ _ (Builtin.«object.__ne__» _) _ _ _
  delta Builtin.«object.__ne__»
  refine wpAny_bind (wpAny_pure (wpAny_bind (wpAny_cRoomFor_byValue rfl (wpAny_bind (wpAny_callSpecialIfBound?_slot (hX s) slot_type_eq ?_)))))
  by_cases e : (Value.type X == Value.type Y) = true
  · rw [if_pos e] at h
    refine call_gives slot_type_eq (hX s) F.entry_object_eq (F.args_object_eq_2 _ _) (object_eq_same rfl e) ?_
    refine wpAny_bind (wpAny_truthy_bool ?_)
    exact wpAny_pure h
  · rw [if_neg e] at h
    refine call_gives slot_type_eq (hX s) F.entry_object_eq (F.args_object_eq_2 _ _) (object_eq_other rfl (by simpa using e)) ?_
    exact wpAny_pure h
/-- != of two values of one type, where either method declines -/
theorem ne_declined {M : Model} {p q : Value} {T id : String} {k : Bool} {Q : Value → Shared → Prop} (tp : ∀ s' : Shared, s'.TypeIs p T) (tq : ∀ s' : Shared, s'.TypeIs q T)
    (one : Slot T (cmpInfo .NotEq).2.1 id) (two : Slot T (cmpInfo .NotEq).2.2 id) (off : [p, q].any Value.onHeap = false) (same : isSame p q = pure k)
    (run : wpAny M A (call (.builtin id) [p, q]) (fun v t₁ => v = .notImplemented ∧ wpAny M A (call (.builtin id) [q, p]) (fun v t₂ => v = .notImplemented ∧ Q (.bool (!k)) t₂) E t₁) E s) :
    wpAny M A (richCompare .NotEq p q) Q E s := by
  rcases how : cmpInfo .NotEq with ⟨g, f, r⟩
  rw [how] at one two
  simp only [richCompare, how, (tp s).oneThing_none]
  try with_reducible refine wpAny_holding ?_
  refine wpAny_bind (wpAny_cRoomFor_or (.inl off) (wpAny_bind (wpAny_typeOf (tp s) (wpAny_bind (wpAny_typeOf (tq s) ?_)))))
  simp only [Bool.not_false, if_true, if_false, Bool.false_eq_true, bne_self_eq_false, pure_bind]
  refine wpAny_bind (m := tryCompare p _ q) (wpAny_tryCompare_declines (tp s) one (wpAny_mono run (fun v t₁ z₁ => ⟨z₁.1, ?_⟩) fun _ _ y => y))
  refine wpAny_bind (m := tryCompare q _ p) (wpAny_tryCompare_declines (tq t₁) two (wpAny_mono z₁.2 (fun v t₂ z₂ => ⟨z₂.1, ?_⟩) fun _ _ y => y))
  exact wpAny_bind (wpAny_rule (wpAny_bind (wpAny_of_eq same (wpAny_pure z₂.2))))
theorem ne_type {X Y : String} {Q : Value → Shared → Prop} (hX : ∀ s' : Shared, s'.TypeIs (.type X) "type") (hY : ∀ s' : Shared, s'.TypeIs (.type Y) "type") (h : Q (.bool (!(Value.type X == Value.type Y))) s) : wpAny (model prog w) A (compareOp .NotEq (.type X) (.type Y)) Q E s := by
  show wpAny _ A (richCompare .NotEq _ _) Q E s
  by_cases e : (Value.type X == Value.type Y) = true
  · rw [e] at h
    refine wpAny_richCompare_same (T := "type") (hX s) (hY s) slot_type_ne (wpAny_call_entry slot_type_ne (hX s) F.entry_object_ne (object_ne_run hX ?_) (F.args_object_ne_2 _ _))
    rw [if_pos e]
    exact ⟨_, rfl, nofun, h⟩
  · have e0 : (Value.type X == Value.type Y) = false := by simpa using e
    have e' : ¬ (Value.type Y == Value.type X) = true := fun z => e (by rw [beq_iff_eq] at z ⊢; exact z.symm)
    rw [e0] at h
    refine ne_declined (T := "type") (k := false) hX hY slot_type_ne slot_type_ne_refl rfl (by rw [isSame_plain rfl, e0]) ?_
    refine wpAny_call_entry slot_type_ne (hX s) F.entry_object_ne (object_ne_run hX ?_) (F.args_object_ne_2 _ _)
    rw [if_neg e]
    refine ⟨_, rfl, rfl, ?_⟩
    refine wpAny_call_entry slot_type_ne_refl (hY s) F.entry_object_ne (object_ne_run hY ?_) (F.args_object_ne_2 _ _)
    rw [if_neg e']
    exact ⟨_, rfl, rfl, h⟩
end
end PySem.TypeEq
namespace L2
open PySem PySem.Spec PyProof.Rows PySem.W
section
variable {X : Cx}
def rNeTy : R2 := fun x y H Q => ∃ a b, x = .ty a ∧ y = .ty b ∧ SmallTy a ∧ SmallTy b ∧ Q (.bl (!decide (a = b))) H
theorem op_neTy : OpR X (compareOp .NotEq) rNeTy := by
  intro pn t₀ τ G p₁ p₂ v₁ v₂ Q J rel₁ rel₂ rd
  obtain ⟨a, b, rfl, rfl, ha, hb, q⟩ := rd
  cases (show v₁ = Value.type a from rel₁)
  cases (show v₂ = Value.type b from rel₂)
  exact TypeEq.ne_type (meta_of ha) (meta_of hb) (fin_bl J q (congrArg not (ty_beq a b).symm))
end
end L2
/-! the mathematics of the run, in plain Lean -/
namespace DL
abbrev T3 := Int × Int × Int
def cm (js : List T3) (i : Nat) : Int := (js.getD i (0, 0, 0)).1
def ln (js : List T3) (i : Nat) : Int := (js.getD i (0, 0, 0)).2.1
def du (js : List T3) (i : Nat) : Int := (js.getD i (0, 0, 0)).2.2
def SoundJ (j : T3) : Prop := 0 ≤ j.1 ∧ 1 ≤ j.2.1 ∧ j.1 < j.2.2
def Sound (js : List T3) : Prop := ∀ j ∈ js, SoundJ j
theorem getD_lt {α : Type} {l : List α} {i : Nat} {d : α} (h : i < l.length) : l.getD i d = l[i] := by
  simp [List.getD, List.getElem?_eq_getElem h]
theorem getD_of {α : Type} {l : List α} {i : Nat} {d x : α} (h : l[i]? = some x) : l.getD i d = x := by
  simp [List.getD, h]
theorem getD_ge {α : Type} {l : List α} {i : Nat} {d : α} (h : l.length ≤ i) : l.getD i d = d := by
  simp [List.getD, List.getElem?_eq_none h]
theorem getD_set_same {l : List Int} {i : Nat} {v : Int} (h : i < l.length) : (l.set i v).getD i 0 = v := by
  simp [List.getD, List.getElem?_set_self h]
theorem getD_set_ne {l : List Int} {i j : Nat} {v : Int} (h : i ≠ j) : (l.set i v).getD j 0 = l.getD j 0 := by
  simp [List.getD, List.getElem?_set_ne h]
theorem Sound.at {js : List T3} (S : Sound js) {i : Nat} (h : i < js.length) : 0 ≤ cm js i ∧ 1 ≤ ln js i ∧ cm js i < du js i := by
  have q := S js[i] (List.getElem_mem h)
  unfold cm ln du
  rw [getD_lt h]
  exact q

/-! ### who is chosen -/
def there (js : List T3) (left : List Int) (t : Int) (i : Nat) : Prop := cm js i ≤ t ∧ left.getD i 0 ≠ 0
instance (js : List T3) (left : List Int) (t : Int) (i : Nat) : Decidable (there js left t i) := by
  unfold there; infer_instance
def first (js : List T3) (p o : Nat) : Prop := du js p < du js o ∨ (du js p = du js o ∧ p ≤ o)
theorem first_refl (js : List T3) (p : Nat) : first js p p := .inr ⟨rfl, Nat.le_refl _⟩
theorem first_trans {js : List T3} {a b c : Nat} (h : first js a b) (k : first js b c) : first js a c := by
  unfold first at *; omega
def fdStep (js : List T3) (left : List Int) (t : Int) (best : Option Nat) (i : Nat) : Option Nat :=
  if there js left t i then
    match best with
    | none => some i
    | some b => if du js i < du js b then some i else some b
  else best
def fdUpto (js : List T3) (left : List Int) (t : Int) : Nat → Option Nat
  | 0 => none
  | k + 1 => fdStep js left t (fdUpto js left t k) k
def firstDue (js : List T3) (left : List Int) (t : Int) : Option Nat := fdUpto js left t js.length
theorem fdUpto_spec (js : List T3) (left : List Int) (t : Int) : ∀ k,
    (fdUpto js left t k = none ∧ ∀ i, i < k → ¬ there js left t i) ∨
    ∃ p, fdUpto js left t k = some p ∧ p < k ∧ there js left t p ∧ ∀ i, i < k → there js left t i → first js p i
  | 0 => .inl ⟨rfl, fun i h => absurd h (Nat.not_lt_zero _)⟩
  | k + 1 => by
    show (fdStep js left t (fdUpto js left t k) k = none ∧ _) ∨ ∃ p, fdStep js left t (fdUpto js left t k) k = some p ∧ _
    unfold fdStep
    by_cases ht : there js left t k
    · rw [if_pos ht]
      rcases fdUpto_spec js left t k with ⟨e, h⟩ | ⟨p, e, hp, tp, h⟩
      · rw [e]
        refine .inr ⟨k, rfl, Nat.lt_succ_self _, ht, fun i hi hti => ?_⟩
        rcases Nat.lt_succ_iff_lt_or_eq.mp hi with q | q
        · exact absurd hti (h i q)
        · rw [q]; exact first_refl _ _
      · rw [e]
        show _ ∨ ∃ p', (if du js k < du js p then some k else some p) = some p' ∧ _
        by_cases hd : du js k < du js p
        · rw [if_pos hd]
          refine .inr ⟨k, rfl, Nat.lt_succ_self _, ht, fun i hi hti => ?_⟩
          rcases Nat.lt_succ_iff_lt_or_eq.mp hi with q | q
          · have z := h i q hti
            unfold first at *; omega
          · rw [q]; exact first_refl _ _
        · rw [if_neg hd]
          refine .inr ⟨p, rfl, by omega, tp, fun i hi hti => ?_⟩
          rcases Nat.lt_succ_iff_lt_or_eq.mp hi with q | q
          · exact h i q hti
          · rw [q]; unfold first; omega
    · rw [if_neg ht]
      rcases fdUpto_spec js left t k with ⟨e, h⟩ | ⟨p, e, hp, tp, h⟩
      · refine .inl ⟨e, fun i hi hti => ?_⟩
        rcases Nat.lt_succ_iff_lt_or_eq.mp hi with q | q
        · exact h i q hti
        · rw [q] at hti; exact ht hti
      · refine .inr ⟨p, e, by omega, tp, fun i hi hti => ?_⟩
        rcases Nat.lt_succ_iff_lt_or_eq.mp hi with q | q
        · exact h i q hti
        · rw [q] at hti; exact absurd hti ht

/-! ### the least of a list -/
def lmin : List Int → Int
  | [] => 0
  | [x] => x
  | x :: y :: r => min x (lmin (y :: r))
theorem lmin_mem : ∀ {l : List Int}, l ≠ [] → lmin l ∈ l
  | [], h => absurd rfl h
  | [x], _ => List.mem_singleton.mpr rfl
  | x :: y :: r, _ => by
    have ih := lmin_mem (l := y :: r) (List.cons_ne_nil _ _)
    show min x (lmin (y :: r)) ∈ x :: y :: r
    by_cases h : x ≤ lmin (y :: r)
    · rw [Int.min_eq_left h]; exact List.mem_cons_self
    · rw [Int.min_eq_right (by omega)]; exact List.mem_cons_of_mem _ ih
theorem lmin_le : ∀ {l : List Int} {x : Int}, x ∈ l → lmin l ≤ x
  | [], _, h => by simp at h
  | [y], x, h => by rw [List.mem_singleton.mp h]; exact Int.le_refl _
  | z :: y :: r, x, h => by
    show min z (lmin (y :: r)) ≤ x
    rcases List.mem_cons.mp h with q | q
    · rw [q]; exact Int.min_le_left _ _
    · exact Int.le_trans (Int.min_le_right _ _) (lmin_le q)
theorem lmin_uniq {l : List Int} {m : Int} (hm : m ∈ l) (h : ∀ x ∈ l, m ≤ x) : m = lmin l := by
  have h1 := h _ (lmin_mem (List.ne_nil_of_mem hm))
  have h2 := lmin_le hm
  omega

/-! ### the run -/
structure RS where
  left : List Int
  pieces : List T3
  time : Int
def comesAfter (js : List T3) (t : Int) : List Int := (js.filter fun j => decide (t < j.1)).map (·.1)
def comesWithin (js : List T3) (t d : Int) : List Int := (js.filter fun j => decide (t < j.1) && decide (j.1 < d)).map (·.1)
def nextCome (js : List T3) (t : Int) : Int := lmin (comesAfter js t)
def endOf (js : List T3) (t rest : Int) : Int := if comesWithin js t (t + rest) = [] then t + rest else lmin (comesWithin js t (t + rest))
def addPiece (ps : List T3) (p : Int) (b e : Int) : List T3 :=
  match ps.getLast? with
  | some q => if q.1 = p then ps.dropLast ++ [(p, q.2.1, e)] else ps ++ [(p, b, e)]
  | none => ps ++ [(p, b, e)]
def step (js : List T3) (s : RS) : RS :=
  match firstDue js s.left s.time with
  | none => { s with time := nextCome js s.time }
  | some p =>
    { left := s.left.set p (s.left.getD p 0 - (endOf js s.time (s.left.getD p 0) - s.time))
      pieces := addPiece s.pieces (p : Int) s.time (endOf js s.time (s.left.getD p 0))
      time := endOf js s.time (s.left.getD p 0) }
def done (s : RS) : Prop := ∀ x ∈ s.left, x = 0
instance (s : RS) : Decidable (done s) := by unfold done; infer_instance
def runFrom (js : List T3) : Nat → RS → RS
  | 0, s => s
  | k + 1, s => if done s then s else runFrom js k (step js s)
def rs0 (js : List T3) : RS := ⟨js.map (·.2.1), [], 0⟩
def runM (js : List T3) : List T3 := (runFrom js (2 * js.length) (rs0 js)).pieces
theorem runFrom_done {js : List T3} {k : Nat} {s : RS} (h : done s) : runFrom js k s = s := by
  cases k with
  | zero => rfl
  | succ k => show (if done s then s else _) = s; rw [if_pos h]

theorem mem_comesAfter {js : List T3} {t x : Int} : x ∈ comesAfter js t ↔ t < x ∧ ∃ i, i < js.length ∧ cm js i = x := by
  unfold comesAfter
  rw [List.mem_map]
  constructor
  · rintro ⟨j, hj, e⟩
    obtain ⟨h1, h2⟩ := List.mem_filter.mp hj
    obtain ⟨i, hi, e2⟩ := List.getElem_of_mem h1
    refine ⟨by rw [← e]; exact of_decide_eq_true h2, i, hi, ?_⟩
    unfold cm
    rw [getD_lt hi, e2, e]
  · rintro ⟨h1, i, hi, e⟩
    unfold cm at e
    rw [getD_lt hi] at e
    exact ⟨js[i], List.mem_filter.mpr ⟨List.getElem_mem hi, by rw [e]; exact decide_eq_true h1⟩, e⟩
theorem mem_comesWithin {js : List T3} {t d x : Int} : x ∈ comesWithin js t d ↔ t < x ∧ x < d ∧ ∃ i, i < js.length ∧ cm js i = x := by
  unfold comesWithin
  rw [List.mem_map]
  constructor
  · rintro ⟨j, hj, e⟩
    obtain ⟨h1, h2⟩ := List.mem_filter.mp hj
    obtain ⟨i, hi, e2⟩ := List.getElem_of_mem h1
    rw [Bool.and_eq_true] at h2
    refine ⟨by rw [← e]; exact of_decide_eq_true h2.1, by rw [← e]; exact of_decide_eq_true h2.2, i, hi, ?_⟩
    unfold cm
    rw [getD_lt hi, e2, e]
  · rintro ⟨h1, h2, i, hi, e⟩
    unfold cm at e
    rw [getD_lt hi] at e
    exact ⟨js[i], List.mem_filter.mpr ⟨List.getElem_mem hi, by rw [e, Bool.and_eq_true]; exact ⟨decide_eq_true h1, decide_eq_true h2⟩⟩, e⟩
theorem nextCome_spec {js : List T3} {t : Int} {o : Nat} (ho : o < js.length) (h : t < cm js o) :
    t < nextCome js t ∧ (∃ i, i < js.length ∧ cm js i = nextCome js t) ∧ ∀ i, i < js.length → t < cm js i → nextCome js t ≤ cm js i := by
  have m : cm js o ∈ comesAfter js t := mem_comesAfter.mpr ⟨h, o, ho, rfl⟩
  have q := mem_comesAfter.mp (lmin_mem (List.ne_nil_of_mem m))
  exact ⟨q.1, q.2, fun i hi hc => lmin_le (mem_comesAfter.mpr ⟨hc, i, hi, rfl⟩)⟩
theorem endOf_spec (js : List T3) (t rest : Int) (hr : 0 < rest) :
    t < endOf js t rest ∧ endOf js t rest ≤ t + rest ∧ (endOf js t rest = t + rest ∨ ∃ i, i < js.length ∧ cm js i = endOf js t rest) ∧
    ∀ i, i < js.length → t < cm js i → endOf js t rest ≤ cm js i := by
  unfold endOf
  by_cases h : comesWithin js t (t + rest) = []
  · rw [if_pos h]
    refine ⟨by omega, Int.le_refl _, .inl rfl, fun i hi hc => ?_⟩
    by_cases hd : cm js i < t + rest
    · have m : cm js i ∈ comesWithin js t (t + rest) := mem_comesWithin.mpr ⟨hc, hd, i, hi, rfl⟩
      rw [h] at m; simp at m
    · omega
  · rw [if_neg h]
    have q := mem_comesWithin.mp (lmin_mem h)
    refine ⟨q.1, by omega, .inr q.2.2, fun i hi hc => ?_⟩
    by_cases hd : cm js i < t + rest
    · exact lmin_le (mem_comesWithin.mpr ⟨hc, hd, i, hi, rfl⟩)
    · omega

/-! ### how much is left -/
def takeOff (left : List Int) (q : T3) : List Int := left.set q.1.toNat (left.getD q.1.toNat 0 - (q.2.2 - q.2.1))
def leftAfter (js : List T3) (ps : List T3) : List Int := ps.foldl takeOff (js.map (·.2.1))
def timeAfter (ps : List T3) : Int := match ps.getLast? with
  | some q => q.2.2
  | none => 0
theorem takeOff_len (left : List Int) (q : T3) : (takeOff left q).length = left.length := List.length_set
theorem leftAfter_snoc (js ps : List T3) (q : T3) : leftAfter js (ps ++ [q]) = takeOff (leftAfter js ps) q := by
  unfold leftAfter; rw [List.foldl_append]; rfl
theorem leftAfter_nil (js : List T3) : leftAfter js [] = js.map (·.2.1) := rfl
theorem foldl_takeOff_len : ∀ (ps : List T3) (l : List Int), (ps.foldl takeOff l).length = l.length
  | [], _ => rfl
  | q :: r, l => by rw [List.foldl_cons, foldl_takeOff_len r, takeOff_len]
theorem leftAfter_len (js ps : List T3) : (leftAfter js ps).length = js.length := by
  unfold leftAfter; rw [foldl_takeOff_len, List.length_map]
theorem timeAfter_snoc (ps : List T3) (q : T3) : timeAfter (ps ++ [q]) = q.2.2 := by
  unfold timeAfter; rw [List.getLast?_concat]
theorem timeAfter_nil : timeAfter [] = 0 := rfl

structure PieceOk (js : List T3) (left : List Int) (time : Int) (q : T3) : Prop where
  p0 : 0 ≤ q.1
  pn : q.1.toNat < js.length
  tb : time ≤ q.2.1
  be : q.2.1 < q.2.2
  come : cm js q.1.toNat ≤ q.2.1
  rest : q.2.2 - q.2.1 ≤ left.getD q.1.toNat 0
  gap : time < q.2.1 → ∀ o, o < js.length → left.getD o 0 > 0 → q.2.1 ≤ cm js o
  edf : ∀ o, o < js.length → left.getD o 0 > 0 → cm js o < q.2.2 → first js q.1.toNat o
  goes : time = q.2.1 ∨ ∃ o, o < js.length ∧ cm js o = q.2.1
def WayOk (js ps : List T3) : Prop := ∀ i q, ps[i]? = some q → PieceOk js (leftAfter js (ps.take i)) (timeAfter (ps.take i)) q
theorem WayOk.nil (js : List T3) : WayOk js [] := fun i q h => by simp at h
theorem WayOk.snoc {js ps : List T3} {q : T3} (h : WayOk js ps) (k : PieceOk js (leftAfter js ps) (timeAfter ps) q) : WayOk js (ps ++ [q]) := fun i r e => by
  rcases Nat.lt_or_ge i ps.length with hi | hi
  · rw [List.getElem?_append_left hi] at e
    rw [List.take_append_of_le_length (Nat.le_of_lt hi)]
    exact h i r e
  · rw [List.getElem?_append_right hi] at e
    have h0 : i - ps.length = 0 := by
      cases z : i - ps.length with
      | zero => rfl
      | succ m => rw [z] at e; simp at e
    have hi2 : i = ps.length := by omega
    rw [h0] at e
    have eq : q = r := by simpa using e
    subst eq
    subst hi2
    rw [List.take_left]
    exact k
theorem WayOk.last {js ps : List T3} {q : T3} (h : WayOk js (ps ++ [q])) : PieceOk js (leftAfter js ps) (timeAfter ps) q := by
  have := h ps.length q (by simp)
  rw [List.take_left] at this
  exact this
theorem WayOk.init {js ps : List T3} {q : T3} (h : WayOk js (ps ++ [q])) : WayOk js ps := fun i r e => by
  have hi : i < ps.length := (List.getElem?_eq_some_iff.mp e).1
  have := h i r (by rw [List.getElem?_append_left hi]; exact e)
  rw [List.take_append_of_le_length (Nat.le_of_lt hi)] at this
  exact this

/-! ### the run's invariant -/
theorem countP_lt {P Q : Nat → Bool} : ∀ {l : List Nat}, (∀ i ∈ l, Q i = true → P i = true) → (∃ i ∈ l, P i = true ∧ Q i = false) → l.countP Q < l.countP P
  | [], _, ⟨i, hi, _⟩ => by simp at hi
  | x :: r, h, ⟨i, hi, hp, hq⟩ => by
    have hle : ∀ {l : List Nat}, (∀ i ∈ l, Q i = true → P i = true) → l.countP Q ≤ l.countP P := fun {l} h => List.countP_mono_left h
    rw [List.countP_cons, List.countP_cons]
    rcases List.mem_cons.mp hi with q | q
    · subst q
      have := hle (l := r) fun j hj => h j (List.mem_cons_of_mem _ hj)
      rw [hp, hq]; simp; omega
    · have ih := countP_lt (l := r) (fun j hj => h j (List.mem_cons_of_mem _ hj)) ⟨i, q, hp, hq⟩
      have hx := h x List.mem_cons_self
      cases e1 : P x <;> cases e2 : Q x <;> simp_all <;> omega
def ahead (js : List T3) (t : Int) : Nat := (List.range js.length).countP fun i => decide (t < cm js i)
def open_ (n : Nat) (left : List Int) : Nat := (List.range n).countP fun i => decide (left.getD i 0 ≠ 0)
def mu (js : List T3) (s : RS) : Nat := ahead js s.time + open_ js.length s.left
theorem ahead_le (js : List T3) (t : Int) : ahead js t ≤ js.length := by
  have := List.countP_le_length (p := fun i => decide (t < cm js i)) (l := List.range js.length)
  rw [List.length_range] at this; exact this
theorem open_le (n : Nat) (l : List Int) : open_ n l ≤ n := by
  have := List.countP_le_length (p := fun i => decide (l.getD i 0 ≠ 0)) (l := List.range n)
  rw [List.length_range] at this; exact this
theorem ahead_mono {js : List T3} {t u : Int} (h : t ≤ u) : ahead js u ≤ ahead js t :=
  List.countP_mono_left fun i _ q => decide_eq_true (by have := of_decide_eq_true q; omega)
theorem ahead_lt {js : List T3} {t u : Int} {o : Nat} (ho : o < js.length) (h1 : t < cm js o) (h2 : cm js o ≤ u) : ahead js u < ahead js t :=
  countP_lt (fun i _ q => decide_eq_true (by have := of_decide_eq_true q; omega)) ⟨o, List.mem_range.mpr ho, decide_eq_true h1, decide_eq_false (by omega)⟩

structure RInv (js : List T3) (s : RS) : Prop where
  len : s.left.length = js.length
  leq : s.left = leftAfter js s.pieces
  nn : ∀ i, 0 ≤ s.left.getD i 0
  way : WayOk js s.pieces
  t0 : 0 ≤ s.time
  le : timeAfter s.pieces ≤ s.time
  gap : timeAfter s.pieces = s.time ∨ ((∃ o, o < js.length ∧ cm js o = s.time) ∧ ∀ o, o < js.length → s.left.getD o 0 > 0 → s.time ≤ cm js o)
  apart : ∀ i q r, s.pieces[i]? = some q → s.pieces[i + 1]? = some r → q.1 ≠ r.1
  few : s.pieces.length + mu js s < 2 * js.length ∨ (s.pieces = [] ∧ s.time = 0 ∧ (∀ o, o < js.length → 0 < cm js o) ∧ s.left = js.map (·.2.1))
theorem left0 (js : List T3) {i : Nat} (h : i < js.length) : (js.map (·.2.1)).getD i 0 = ln js i := by
  unfold ln
  rw [getD_lt h, getD_lt (by rw [List.length_map]; exact h), List.getElem_map]
theorem RInv.start {js : List T3} (S : Sound js) : RInv js (rs0 js) where
  len := List.length_map _
  leq := rfl
  nn := fun i => by
    show 0 ≤ (js.map (·.2.1)).getD i 0
    rcases Nat.lt_or_ge i js.length with h | h
    · rw [left0 js h]; have := S.at h; omega
    · rw [getD_ge (by rw [List.length_map]; exact h)]; exact Int.le_refl _
  way := WayOk.nil js
  t0 := Int.le_refl _
  le := Int.le_refl _
  gap := .inl rfl
  apart := fun i q r h => by simp [rs0] at h
  few := by
    by_cases h : ∃ o, o < js.length ∧ cm js o ≤ 0
    · obtain ⟨o, ho, hc⟩ := h
      left
      show 0 + mu js (rs0 js) < _
      have h1 := open_le js.length (rs0 js).left
      have h2 : ahead js 0 < js.length := by
        have e : js.length = (List.range js.length).countP fun _ => true := by simp
        have : ahead js 0 < (List.range js.length).countP fun _ => true := countP_lt (fun _ _ _ => rfl) ⟨o, List.mem_range.mpr ho, rfl, decide_eq_false (by omega)⟩
        omega
      show 0 + (ahead js 0 + open_ js.length (rs0 js).left) < _
      omega
    · exact .inr ⟨rfl, rfl, fun o ho => by
        by_cases hc : cm js o ≤ 0
        · exact absurd ⟨o, ho, hc⟩ h
        · omega, rfl⟩
theorem mu_le (js : List T3) (s : RS) : mu js s ≤ 2 * js.length := by
  have h1 := ahead_le js s.time
  have h2 := open_le js.length s.left
  unfold mu; omega
theorem left_open {js : List T3} {s : RS} (I : RInv js s) (h : ¬ done s) : ∃ i, i < js.length ∧ s.left.getD i 0 ≠ 0 := by
  have : ∃ x, x ∈ s.left ∧ x ≠ 0 := by
    refine Classical.byContradiction fun c => h fun x hx => Classical.byContradiction fun e => c ⟨x, hx, e⟩
  obtain ⟨x, hx, e⟩ := this
  obtain ⟨i, hi, e2⟩ := List.getElem_of_mem hx
  refine ⟨i, by rw [← I.len]; exact hi, ?_⟩
  rw [getD_lt hi, e2]; exact e
/-- nobody is there: someone comes later -/
theorem none_next {js : List T3} {s : RS} (I : RInv js s) (h : ¬ done s) (e : firstDue js s.left s.time = none) : ∃ i, i < js.length ∧ s.time < cm js i := by
  obtain ⟨i, hi, hl⟩ := left_open I h
  rcases fdUpto_spec js s.left s.time js.length with ⟨_, z⟩ | ⟨p, e2, _⟩
  · refine ⟨i, hi, ?_⟩
    by_cases c : cm js i ≤ s.time
    · exact absurd ⟨c, hl⟩ (z i hi)
    · omega
  · unfold firstDue at e; rw [e] at e2; cases e2
theorem some_spec {js : List T3} {left : List Int} {t : Int} {p : Nat} (e : firstDue js left t = some p) : p < js.length ∧ there js left t p ∧ ∀ i, i < js.length → there js left t i → first js p i := by
  unfold firstDue at e
  rcases fdUpto_spec js left t js.length with ⟨e2, _⟩ | ⟨p', e2, h1, h2, h3⟩
  · rw [e] at e2; cases e2
  · rw [e] at e2; cases e2; exact ⟨h1, h2, h3⟩
theorem none_spec {js : List T3} {left : List Int} {t : Int} (e : firstDue js left t = none) : ∀ i, i < js.length → ¬ there js left t i := by
  unfold firstDue at e
  rcases fdUpto_spec js left t js.length with ⟨_, z⟩ | ⟨p', e2, h1, h2, h3⟩
  · exact z
  · rw [e] at e2; cases e2
theorem open_lt {n : Nat} {l l' : List Int} {p : Nat} (hp : p < n) (h1 : l.getD p 0 ≠ 0) (h2 : l'.getD p 0 = 0) (h : ∀ i, i ≠ p → l'.getD i 0 = l.getD i 0) : open_ n l' < open_ n l :=
  countP_lt (fun i _ q => by
    by_cases e : i = p
    · rw [e, h2] at q; simp at q
    · rw [h i e] at q; exact q) ⟨p, List.mem_range.mpr hp, decide_eq_true h1, decide_eq_false (by rw [h2]; simp)⟩
theorem open_mono {n : Nat} {l l' : List Int} {p : Nat} (h1 : l.getD p 0 ≠ 0) (h : ∀ i, i ≠ p → l'.getD i 0 = l.getD i 0) : open_ n l' ≤ open_ n l :=
  List.countP_mono_left fun i _ q => by
    by_cases e : i = p
    · rw [e]; exact decide_eq_true h1
    · rw [h i e] at q; exact q
theorem last_cases (ps : List T3) : ps = [] ∨ ∃ r q, ps = r ++ [q] := by
  rcases List.eq_nil_or_concat ps with h | ⟨r, q, h⟩
  · exact .inl h
  · exact .inr ⟨r, q, by rw [h, List.concat_eq_append]⟩
/-! ### one step keeps the invariant -/
theorem step_none {js : List T3} {s : RS} (e : firstDue js s.left s.time = none) : step js s = { s with time := nextCome js s.time } := by
  unfold step; rw [e]
theorem step_some {js : List T3} {s : RS} {p : Nat} (e : firstDue js s.left s.time = some p) : step js s =
    { left := s.left.set p (s.left.getD p 0 - (endOf js s.time (s.left.getD p 0) - s.time))
      pieces := addPiece s.pieces (p : Int) s.time (endOf js s.time (s.left.getD p 0))
      time := endOf js s.time (s.left.getD p 0) } := by
  unfold step; rw [e]
theorem RInv.idle {js : List T3} {s : RS} (S : Sound js) (I : RInv js s) (nd : ¬ done s) (e : firstDue js s.left s.time = none) :
    RInv js (step js s) ∧ mu js (step js s) < mu js s := by
  obtain ⟨o, ho, hc⟩ := none_next I nd e
  have N := nextCome_spec ho hc
  have ns := none_spec e
  rw [step_none e]
  have hmu : mu js { s with time := nextCome js s.time } < mu js s := by
    obtain ⟨i, hi, hci⟩ := N.2.1
    have := ahead_lt (js := js) (t := s.time) (u := nextCome js s.time) hi (by omega) (by omega)
    show ahead js (nextCome js s.time) + open_ js.length s.left < ahead js s.time + open_ js.length s.left
    omega
  refine ⟨{ len := I.len, leq := I.leq, nn := I.nn, way := I.way, t0 := by have := I.t0; show 0 ≤ nextCome js s.time; omega, le := by have := I.le; show timeAfter s.pieces ≤ nextCome js s.time; omega, gap := ?_, apart := I.apart, few := ?_ }, hmu⟩
  · refine .inr ⟨N.2.1, fun i hi hl => N.2.2 i hi ?_⟩
    have := ns i hi
    have hl' : s.left.getD i 0 > 0 := hl
    by_cases c : cm js i ≤ s.time
    · exact absurd ⟨c, by omega⟩ this
    · omega
  · rcases I.few with h | ⟨h1, h2, h3, h4⟩
    · left
      show s.pieces.length + _ < _
      omega
    · left
      show s.pieces.length + mu js { s with time := nextCome js s.time } < _
      have hm : mu js s ≤ 2 * js.length := mu_le js s
      have hz : s.pieces.length = 0 := by rw [h1]; rfl
      omega
theorem addPiece_nil (p b e : Int) : addPiece [] p b e = [(p, b, e)] := rfl
theorem addPiece_snoc (r : List T3) (q : T3) (p b e : Int) : addPiece (r ++ [q]) p b e = if q.1 = p then r ++ [(p, q.2.1, e)] else (r ++ [q]) ++ [(p, b, e)] := by
  unfold addPiece
  rw [List.getLast?_concat]
  show (if q.1 = p then (r ++ [q]).dropLast ++ [(p, q.2.1, e)] else _) = _
  rw [List.dropLast_concat]
theorem timeAfter_addPiece (ps : List T3) (p b e : Int) : timeAfter (addPiece ps p b e) = e := by
  rcases last_cases ps with h | ⟨r, q, h⟩
  · subst h; rfl
  · subst h
    rw [addPiece_snoc]
    by_cases c : q.1 = p
    · rw [if_pos c, timeAfter_snoc]
    · rw [if_neg c, timeAfter_snoc]
theorem addPiece_len (ps : List T3) (p b e : Int) : (addPiece ps p b e).length ≤ ps.length + 1 := by
  rcases last_cases ps with h | ⟨r, q, h⟩
  · subst h; exact Nat.le_refl _
  · subst h
    rw [addPiece_snoc]
    by_cases c : q.1 = p
    · rw [if_pos c]; simp
    · rw [if_neg c]; simp
theorem RInv.work {js : List T3} {s : RS} (S : Sound js) (I : RInv js s) {p : Nat} (e : firstDue js s.left s.time = some p) :
    RInv js (step js s) ∧ mu js (step js s) < mu js s := by
  obtain ⟨hp, ⟨hc, hl⟩, hf⟩ := some_spec e
  have hl0 := I.nn p
  obtain ⟨E1, E2, E3, E4⟩ := endOf_spec js s.time (s.left.getD p 0) (by omega)
  rw [step_some e]
  generalize endOf js s.time (s.left.getD p 0) = d at *
  have hpl : p < s.left.length := by rw [I.len]; exact hp
  have hset : ∀ i, i ≠ p → (s.left.set p (s.left.getD p 0 - (d - s.time))).getD i 0 = s.left.getD i 0 := fun i hi => getD_set_ne (Ne.symm hi)
  have hsetp : (s.left.set p (s.left.getD p 0 - (d - s.time))).getD p 0 = s.left.getD p 0 - (d - s.time) := getD_set_same hpl
  have hmu : mu js ⟨s.left.set p (s.left.getD p 0 - (d - s.time)), addPiece s.pieces p s.time d, d⟩ < mu js s := by
    show ahead js d + open_ js.length (s.left.set p (s.left.getD p 0 - (d - s.time))) < ahead js s.time + open_ js.length s.left
    have ha : ahead js d ≤ ahead js s.time := ahead_mono (by omega)
    have ho : open_ js.length (s.left.set p (s.left.getD p 0 - (d - s.time))) ≤ open_ js.length s.left := open_mono hl hset
    rcases E3 with q | ⟨i, hi, hci⟩
    · have := open_lt (n := js.length) (l := s.left) (l' := s.left.set p (s.left.getD p 0 - (d - s.time))) hp hl (by rw [hsetp]; omega) hset
      omega
    · have := ahead_lt (js := js) (t := s.time) (u := d) hi (by omega) (by omega)
      omega
  -- others that come ahead of d are there now
  have hthere : ∀ o, o < js.length → s.left.getD o 0 > 0 → cm js o < d → first js p o := fun o ho hlo hco => by
    refine hf o ho ⟨?_, by omega⟩
    by_cases c : cm js o ≤ s.time
    · exact c
    · have := E4 o ho (by omega); omega
  refine ⟨{ len := ?_, leq := ?_, nn := ?_, way := ?_, t0 := by have := I.t0; show 0 ≤ d; omega, le := ?_, gap := ?_, apart := ?_, few := ?_ }, hmu⟩
  · show (s.left.set _ _).length = _
    rw [List.length_set]; exact I.len
  · show s.left.set p _ = leftAfter js (addPiece s.pieces p s.time d)
    rcases last_cases s.pieces with h | ⟨r, q, h⟩
    · have hl' := I.leq
      rw [h] at hl' ⊢
      rw [addPiece_nil]
      show _ = leftAfter js ([] ++ [_])
      rw [leftAfter_snoc, ← hl']
      show _ = s.left.set (p : Int).toNat (s.left.getD (p : Int).toNat 0 - (d - s.time))
      rw [Int.toNat_natCast]
    · have hl' := I.leq
      have hg := I.gap
      have hw := I.way
      have hle := I.le
      rw [h] at hl' hg hw hle ⊢
      rw [addPiece_snoc]
      by_cases c : q.1 = (p : Int)
      · rw [if_pos c, leftAfter_snoc]
        rw [leftAfter_snoc] at hl'
        have et : q.2.2 = s.time := by
          rw [timeAfter_snoc] at hg hle
          rcases hg with z | ⟨_, z⟩
          · exact z
          · have := z p hp (by omega)
            have k := hw.last
            have k1 := k.come
            have k2 := k.be
            rw [c, Int.toNat_natCast] at k1
            omega
        have ec : q.1.toNat = p := by rw [c, Int.toNat_natCast]
        unfold takeOff at hl' ⊢
        show _ = List.set _ (p : Int).toNat (_ - (d - q.2.1))
        rw [Int.toNat_natCast]
        rw [ec] at hl'
        have hpl2 : p < (leftAfter js r).length := by rw [leftAfter_len]; exact hp
        rw [hl', List.set_set, getD_set_same hpl2]
        congr 1
        omega
      · rw [if_neg c, leftAfter_snoc, ← hl']
        show _ = s.left.set (p : Int).toNat (s.left.getD (p : Int).toNat 0 - (d - s.time))
        rw [Int.toNat_natCast]
  · intro i
    show 0 ≤ (s.left.set p _).getD i 0
    by_cases c : i = p
    · rw [c, hsetp]; omega
    · rw [hset i c]; exact I.nn i
  · show WayOk js (addPiece s.pieces p s.time d)
    rcases last_cases s.pieces with h | ⟨r, q, h⟩
    · have hl' := I.leq
      have hg := I.gap
      have hle := I.le
      rw [h] at hl' hg hle ⊢
      rw [addPiece_nil]
      refine WayOk.snoc (ps := []) (WayOk.nil js) ?_
      rw [← hl']
      exact {
        p0 := Int.natCast_nonneg p
        pn := by show (p : Int).toNat < _; rw [Int.toNat_natCast]; exact hp
        tb := hle
        be := E1
        come := by show cm js (p : Int).toNat ≤ _; rw [Int.toNat_natCast]; exact hc
        rest := by show d - s.time ≤ s.left.getD (p : Int).toNat 0; rw [Int.toNat_natCast]; omega
        gap := fun hlt o ho hlo => by
          rcases hg with z | ⟨_, z⟩
          · have hlt' : timeAfter [] < s.time := hlt
            omega
          · exact z o ho hlo
        edf := fun o ho hlo hco => by show first js (p : Int).toNat o; rw [Int.toNat_natCast]; exact hthere o ho hlo hco
        goes := by
          rcases hg with z | ⟨z, _⟩
          · exact .inl z
          · exact .inr z }
    · have hl' := I.leq
      have hg := I.gap
      have hw := I.way
      have hle := I.le
      rw [h] at hl' hg hw hle ⊢
      rw [addPiece_snoc]
      have k := hw.last
      by_cases c : q.1 = (p : Int)
      · rw [if_pos c]
        have ec : q.1.toNat = p := by rw [c, Int.toNat_natCast]
        rw [timeAfter_snoc] at hg hle
        have k1 := k.come
        have k2 := k.be
        have k3 := k.rest
        rw [ec] at k1 k3
        have et : q.2.2 = s.time := by
          rcases hg with z | ⟨_, z⟩
          · exact z
          · have := z p hp (by omega)
            omega
        rw [leftAfter_snoc] at hl'
        have hpl2 : p < (leftAfter js r).length := by rw [leftAfter_len]; exact hp
        have hA : ∀ o, o ≠ p → s.left.getD o 0 = (leftAfter js r).getD o 0 := fun o ho => by
          rw [hl']; unfold takeOff; rw [ec]; exact getD_set_ne (Ne.symm ho)
        have hAp : s.left.getD p 0 = (leftAfter js r).getD p 0 - (q.2.2 - q.2.1) := by
          rw [hl']; unfold takeOff; rw [ec]; exact getD_set_same hpl2
        refine WayOk.snoc hw.init ?_
        exact {
          p0 := Int.natCast_nonneg p
          pn := by show (p : Int).toNat < _; rw [Int.toNat_natCast]; exact hp
          tb := k.tb
          be := by show q.2.1 < d; omega
          come := by show cm js (p : Int).toNat ≤ _; rw [Int.toNat_natCast]; exact k1
          rest := by show d - q.2.1 ≤ (leftAfter js r).getD (p : Int).toNat 0; rw [Int.toNat_natCast]; omega
          gap := k.gap
          edf := fun o ho hlo hco => by
            show first js (p : Int).toNat o
            rw [Int.toNat_natCast]
            by_cases co : o = p
            · rw [co]; exact first_refl _ _
            · exact hthere o ho (by rw [hA o co]; exact hlo) hco
          goes := k.goes }
      · rw [if_neg c]
        refine WayOk.snoc hw ?_
        rw [← hl']
        exact {
          p0 := Int.natCast_nonneg p
          pn := by show (p : Int).toNat < _; rw [Int.toNat_natCast]; exact hp
          tb := hle
          be := E1
          come := by show cm js (p : Int).toNat ≤ _; rw [Int.toNat_natCast]; exact hc
          rest := by show d - s.time ≤ s.left.getD (p : Int).toNat 0; rw [Int.toNat_natCast]; omega
          gap := fun hlt o ho hlo => by
            rcases hg with z | ⟨_, z⟩
            · have hlt' : timeAfter (r ++ [q]) < s.time := hlt
              omega
            · exact z o ho hlo
          edf := fun o ho hlo hco => by show first js (p : Int).toNat o; rw [Int.toNat_natCast]; exact hthere o ho hlo hco
          goes := by
            rcases hg with z | ⟨z, _⟩
            · exact .inl z
            · exact .inr z }
  · show timeAfter (addPiece s.pieces p s.time d) ≤ d
    rw [timeAfter_addPiece]; exact Int.le_refl _
  · show timeAfter (addPiece s.pieces p s.time d) = d ∨ _
    exact .inl (timeAfter_addPiece _ _ _ _)
  · show ∀ i q r, (addPiece s.pieces p s.time d)[i]? = some q → (addPiece s.pieces p s.time d)[i + 1]? = some r → q.1 ≠ r.1
    have ha := I.apart
    rcases last_cases s.pieces with h | ⟨r, q, h⟩
    · rw [h, addPiece_nil]
      intro i q r h1 h2
      simp at h2
    · rw [h] at ha ⊢
      rw [addPiece_snoc]
      by_cases c : q.1 = (p : Int)
      · rw [if_pos c]
        intro i x y h1 h2
        have hi : i + 1 < (r ++ [((p : Int), q.2.1, d)]).length := (List.getElem?_eq_some_iff.mp h2).1
        rw [List.length_append, List.length_singleton] at hi
        rw [List.getElem?_append_left (by omega)] at h1
        have h1' : (r ++ [q])[i]? = some x := by rw [List.getElem?_append_left (by omega)]; exact h1
        rcases Nat.lt_or_ge (i + 1) r.length with z | z
        · rw [List.getElem?_append_left z] at h2
          exact ha i x y h1' (by rw [List.getElem?_append_left z]; exact h2)
        · have e1 : i + 1 = r.length := by omega
          rw [e1, List.getElem?_concat_length] at h2
          have := ha i x q h1' (by rw [e1, List.getElem?_concat_length])
          have e2 := Option.some.inj h2
          rw [← e2]
          show x.1 ≠ (p : Int)
          rw [← c]; exact this
      · rw [if_neg c]
        intro i x y h1 h2
        have hi : i + 1 < ((r ++ [q]) ++ [((p : Int), s.time, d)]).length := (List.getElem?_eq_some_iff.mp h2).1
        rw [List.length_append, List.length_singleton] at hi
        rw [List.getElem?_append_left (by omega)] at h1
        rcases Nat.lt_or_ge (i + 1) (r ++ [q]).length with z | z
        · rw [List.getElem?_append_left z] at h2
          exact ha i x y h1 h2
        · have e1 : i + 1 = (r ++ [q]).length := by omega
          rw [e1, List.getElem?_concat_length] at h2
          have e2 := Option.some.inj h2
          rw [← e2]
          show x.1 ≠ (p : Int)
          have e3 : i = r.length := by rw [List.length_append, List.length_singleton] at e1; omega
          rw [e3, List.getElem?_concat_length] at h1
          rw [← Option.some.inj h1]; exact c
  · show (addPiece s.pieces p s.time d).length + _ < _ ∨ _
    have hal := addPiece_len s.pieces p s.time d
    left
    rcases I.few with h | ⟨h1, h2, h3, h4⟩
    · omega
    · have := h3 p hp
      omega
theorem RInv.step {js : List T3} {s : RS} (S : Sound js) (I : RInv js s) (nd : ¬ done s) : RInv js (step js s) ∧ mu js (step js s) < mu js s := by
  cases e : firstDue js s.left s.time with
  | none => exact I.idle S nd e
  | some p => exact I.work S e
theorem run_ends {js : List T3} (S : Sound js) : ∀ (k : Nat) (s : RS), RInv js s → mu js s ≤ k → RInv js (runFrom js k s) ∧ done (runFrom js k s)
  | 0, s, I, h => ⟨I, fun x hx => Classical.byContradiction fun c => by
      have nd : ¬ done s := fun z => c (z x hx)
      have := (I.step S nd).2
      omega⟩
  | k + 1, s, I, h => by
    show RInv js (if done s then s else runFrom js k (DL.step js s)) ∧ done (if done s then s else runFrom js k (DL.step js s))
    by_cases nd : done s
    · rw [if_pos nd]; exact ⟨I, nd⟩
    · rw [if_neg nd]
      have q := I.step S nd
      exact run_ends S k _ q.1 (by omega)
/-- what is known of the run -/
structure RunOk (js ps : List T3) : Prop where
  way : WayOk js ps
  all : ∀ i, (leftAfter js ps).getD i 0 = 0
  apart : ∀ i q r, ps[i]? = some q → ps[i + 1]? = some r → q.1 ≠ r.1
  few : ps.length < 2 * js.length ∨ (ps = [] ∧ js = [])
theorem run_ok {js : List T3} (S : Sound js) : RunOk js (runM js) := by
  obtain ⟨I, d⟩ := run_ends S (2 * js.length) (rs0 js) (RInv.start S) (mu_le js _)
  have hd : ∀ i, (runFrom js (2 * js.length) (rs0 js)).left.getD i 0 = 0 := fun i => by
    rcases Nat.lt_or_ge i (runFrom js (2 * js.length) (rs0 js)).left.length with h | h
    · rw [getD_lt h]; exact d _ (List.getElem_mem h)
    · exact getD_ge h
  refine ⟨I.way, fun i => ?_, I.apart, ?_⟩
  · show (leftAfter js (runFrom js (2 * js.length) (rs0 js)).pieces).getD i 0 = 0
    rw [← I.leq]; exact hd i
  · rcases I.few with h | ⟨h1, h2, h3, h4⟩
    · left
      show (runFrom js (2 * js.length) (rs0 js)).pieces.length < _
      omega
    · right
      refine ⟨h1, ?_⟩
      cases js with
      | nil => rfl
      | cons j r =>
        have z := hd 0
        rw [h4, left0 _ (by simp)] at z
        have := S.at (i := 0) (by simp)
        omega
/-! ### sums -/
theorem sum_setI : ∀ {l : List Int} {j : Nat} {y : Int}, j < l.length → (l.set j y).sum = l.sum - l.getD j 0 + y
  | [], j, y, h => absurd h (Nat.not_lt_zero _)
  | a :: r, 0, y, h => by
    show (y :: r).sum = (a :: r).sum - a + y
    rw [List.sum_cons, List.sum_cons]; omega
  | a :: r, j + 1, y, h => by
    have ih := sum_setI (l := r) (j := j) (y := y) (Nat.lt_of_succ_lt_succ h)
    show (a :: r.set j y).sum = (a :: r).sum - r.getD j 0 + y
    rw [List.sum_cons, List.sum_cons, ih]; omega
theorem sum_left {js ps : List T3} (W : WayOk js ps) : ∀ k, k ≤ ps.length → (leftAfter js (ps.take k)).sum + ((ps.take k).map fun q => q.2.2 - q.2.1).sum = (js.map (·.2.1)).sum
  | 0, _ => by
    show (js.map (·.2.1)).sum + 0 = _
    omega
  | k + 1, h => by
    have ih := sum_left W k (by omega)
    have hk : ps[k]? = some ps[k] := List.getElem?_eq_getElem (by omega)
    have O := W k _ hk
    rw [List.take_add_one, hk]
    show (leftAfter js (ps.take k ++ [ps[k]])).sum + ((ps.take k ++ [ps[k]]).map fun q => q.2.2 - q.2.1).sum = _
    rw [leftAfter_snoc, List.map_append, List.sum_append]
    unfold takeOff
    rw [sum_setI (by rw [leftAfter_len]; exact O.pn)]
    show _ + (_ + ([(ps[k]).2.2 - (ps[k]).2.1] : List Int).sum) = _
    rw [List.sum_singleton]
    omega
theorem run_sum {js ps : List T3} (R : RunOk js ps) : (ps.map fun q => q.2.2 - q.2.1).sum = (js.map (·.2.1)).sum := by
  have h := sum_left R.way ps.length (Nat.le_refl _)
  rw [List.take_length] at h
  have z : (leftAfter js ps).sum = 0 := by
    have : ∀ l : List Int, (∀ i, l.getD i 0 = 0) → l.sum = 0 := fun l => by
      induction l with
      | nil => intro _; rfl
      | cons a r ih =>
        intro h
        have h0 := h 0
        have h1 := ih fun i => h (i + 1)
        rw [List.sum_cons, h1]
        show a + 0 = 0
        have : a = 0 := h0
        omega
    exact this _ R.all
  omega
theorem RunOk.len {js ps : List T3} (R : RunOk js ps) (h : js.length ≤ 60) : ps.length ≤ 200 := by
  rcases R.few with z | z
  · omega
  · rw [z.1]; exact Nat.zero_le _
end DL
/-! whether a way meets the jobs -/
namespace DL
def fitB (js : List T3) (t : Int) (q : T3) : Bool :=
  decide (0 ≤ q.1) && (decide (q.1 < js.length) && (decide (t ≤ q.2.1) && (decide (cm js q.1.toNat ≤ q.2.1) && (decide (q.2.1 < q.2.2) && decide (q.2.2 ≤ du js q.1.toNat)))))
def fitsAll (js : List T3) : Int → List T3 → Bool
  | _, [] => true
  | t, q :: r => fitB js t q && fitsAll js q.2.2 r
def putOn (l : List Int) (q : T3) : List Int := l.set q.1.toNat (l.getD q.1.toNat 0 + (q.2.2 - q.2.1))
def workedFrom (l : List Int) (ws : List T3) : List Int := ws.foldl putOn l
def sumAt (ws : List T3) (k : Nat) : Int := ((ws.filter fun q => decide (q.1 = (k : Int))).map fun q => q.2.2 - q.2.1).sum
def meetsB (js ws : List T3) : Bool := fitsAll js 0 ws && decide (workedFrom (List.replicate js.length 0) ws = js.map (·.2.1))
def start0 (ws : List T3) : Int := match ws with
  | [] => 0
  | q :: _ => q.2.1
def dueB (js ws : List T3) : Bool := fitsAll js (start0 ws) ws && (List.range js.length).all fun k => decide (sumAt ws k = ln js k)
theorem fitB_iff {js : List T3} {t : Int} {q : T3} : fitB js t q = true ↔ 0 ≤ q.1 ∧ q.1 < js.length ∧ t ≤ q.2.1 ∧ cm js q.1.toNat ≤ q.2.1 ∧ q.2.1 < q.2.2 ∧ q.2.2 ≤ du js q.1.toNat := by
  unfold fitB
  simp only [Bool.and_eq_true, decide_eq_true_eq]
theorem workedFrom_len : ∀ (ws : List T3) (l : List Int), (workedFrom l ws).length = l.length
  | [], _ => rfl
  | q :: r, l => by
    show (workedFrom (putOn l q) r).length = _
    rw [workedFrom_len r]
    exact List.length_set
theorem sumAt_cons (q : T3) (r : List T3) (k : Nat) : sumAt (q :: r) k = (if q.1 = (k : Int) then q.2.2 - q.2.1 else 0) + sumAt r k := by
  unfold sumAt
  rw [List.filter_cons]
  by_cases h : q.1 = (k : Int)
  · rw [if_pos (decide_eq_true h), if_pos h, List.map_cons, List.sum_cons]
  · rw [if_neg (by simpa using h), if_neg h]
    omega
theorem worked_at : ∀ (ws : List T3) (l : List Int) (k : Nat), (∀ q ∈ ws, 0 ≤ q.1 ∧ q.1 < l.length) → k < l.length → (workedFrom l ws).getD k 0 = l.getD k 0 + sumAt ws k
  | [], l, k, _, _ => by
    show l.getD k 0 = l.getD k 0 + 0
    omega
  | q :: r, l, k, h, hk => by
    obtain ⟨h0, h1⟩ := h q List.mem_cons_self
    have hl : (putOn l q).length = l.length := List.length_set
    have ih := worked_at r (putOn l q) k (fun x hx => by rw [hl]; exact h x (List.mem_cons_of_mem _ hx)) (by rw [hl]; exact hk)
    show (workedFrom (putOn l q) r).getD k 0 = _
    rw [ih, sumAt_cons]
    unfold putOn
    by_cases e : q.1 = (k : Int)
    · have e2 : q.1.toNat = k := by omega
      rw [e2, getD_set_same hk, if_pos e]
      omega
    · have e2 : q.1.toNat ≠ k := by omega
      rw [getD_set_ne e2, if_neg e]
      omega
theorem fits_range {js : List T3} : ∀ {t : Int} {ws : List T3}, fitsAll js t ws = true → ∀ q ∈ ws, 0 ≤ q.1 ∧ q.1 < js.length
  | _, [], _, q, h => by simp at h
  | t, x :: r, h, q, hq => by
    obtain ⟨h1, h2⟩ := Bool.and_eq_true_iff.mp h
    rcases List.mem_cons.mp hq with e | e
    · rw [e]
      have := fitB_iff.mp h1
      exact ⟨this.1, this.2.1⟩
    · exact fits_range h2 q e
theorem list_ext0 {a b : List Int} (hl : a.length = b.length) (h : ∀ k, k < a.length → a.getD k 0 = b.getD k 0) : a = b := by
  refine List.ext_getElem hl fun k h1 h2 => ?_
  have := h k h1
  rw [getD_lt h1, getD_lt h2] at this
  exact this
theorem worked_eq {js ws : List T3} (h : ∀ q ∈ ws, 0 ≤ q.1 ∧ q.1 < js.length) : decide (workedFrom (List.replicate js.length 0) ws = js.map (·.2.1)) = (List.range js.length).all fun k => decide (sumAt ws k = ln js k) := by
  rw [Bool.eq_iff_iff, decide_eq_true_iff, List.all_eq_true]
  have hw : ∀ k, k < js.length → (workedFrom (List.replicate js.length 0) ws).getD k 0 = sumAt ws k := fun k hk => by
    have := worked_at ws (List.replicate js.length 0) k (fun q hq => by rw [List.length_replicate]; exact h q hq) (by rw [List.length_replicate]; exact hk)
    rw [this, getD_lt (by rw [List.length_replicate]; exact hk), List.getElem_replicate]
    omega
  constructor
  · intro e k hk
    have hk := List.mem_range.mp hk
    refine decide_eq_true ?_
    rw [← hw k hk, e]
    exact left0 js hk
  · intro e
    refine list_ext0 (by rw [workedFrom_len, List.length_replicate, List.length_map]) fun k hk => ?_
    rw [workedFrom_len, List.length_replicate] at hk
    rw [hw k hk, left0 js hk]
    exact of_decide_eq_true (e k (List.mem_range.mpr hk))
theorem fit_start {js : List T3} (S : Sound js) (q : T3) : fitB js 0 q = fitB js q.2.1 q := by
  rw [Bool.eq_iff_iff, fitB_iff, fitB_iff]
  constructor
  · rintro ⟨h1, h2, h3, h4⟩
    exact ⟨h1, h2, Int.le_refl _, h4⟩
  · rintro ⟨h1, h2, h3, h4, h5⟩
    have := S.at (i := q.1.toNat) (by omega)
    exact ⟨h1, h2, by omega, h4, h5⟩
theorem meets_due {js ws : List T3} (S : Sound js) : meetsB js ws = dueB js ws := by
  unfold meetsB dueB
  have e : fitsAll js 0 ws = fitsAll js (start0 ws) ws := by
    cases ws with
    | nil => rfl
    | cons q r =>
      show (fitB js 0 q && _) = (fitB js q.2.1 q && _)
      rw [fit_start S]
  rw [← e]
  cases h : fitsAll js 0 ws with
  | false => rfl
  | true => rw [worked_eq (fits_range h)]
/-- the time ahead of the i-th piece -/
def timeAt (t : Int) (ws : List T3) (i : Nat) : Int := match i with
  | 0 => t
  | k + 1 => (ws.getD k (0, 0, 0)).2.2
theorem fits_step {js : List T3} {t : Int} {ws : List T3} {i : Nat} {q : T3} (h : ws[i]? = some q) : fitsAll js (timeAt t ws i) (ws.drop i) = (fitB js (timeAt t ws i) q && fitsAll js (timeAt t ws (i + 1)) (ws.drop (i + 1))) := by
  have hi := (List.getElem?_eq_some_iff.mp h).1
  have e : ws.drop i = q :: ws.drop (i + 1) := by
    rw [List.drop_eq_getElem_cons hi]
    congr 1
    exact (List.getElem?_eq_some_iff.mp h).2
  rw [e]
  show (_ && fitsAll js q.2.2 _) = (_ && fitsAll js (ws.getD i (0, 0, 0)).2.2 _)
  rw [getD_of h]
theorem workedFrom_snoc (l : List Int) {ws : List T3} {i : Nat} {q : T3} (h : ws[i]? = some q) : workedFrom l (ws.take (i + 1)) = putOn (workedFrom l (ws.take i)) q := by
  unfold workedFrom
  rw [List.take_add_one, h, List.foldl_append]
  rfl
theorem cm_at {js : List T3} {i : Nat} {j : T3} (h : js[i]? = some j) : cm js i = j.1 ∧ ln js i = j.2.1 ∧ du js i = j.2.2 := by
  unfold cm ln du
  rw [getD_of h]
  exact ⟨rfl, rfl, rfl⟩
end DL
/-! late jobs, stretches that ask for more than they have -/
namespace DL
def inB (b e : Int) (j : T3) : Bool := decide (b ≤ j.1) && decide (j.2.2 ≤ e)
def loadJ (js : List T3) (b e : Int) : Int := ((js.filter (inB b e)).map (·.2.1)).sum
/-! ### sums over some places -/
def sumOn : (Nat → Bool) → List Int → Int
  | _, [] => 0
  | S, x :: r => (if S 0 then x else 0) + sumOn (fun i => S (i + 1)) r
theorem sumOn_set : ∀ {l : List Int} {S : Nat → Bool} {j : Nat} {y : Int}, j < l.length → sumOn S (l.set j y) = sumOn S l + if S j then y - l.getD j 0 else 0
  | [], _, j, y, h => absurd h (Nat.not_lt_zero _)
  | a :: r, S, 0, y, h => by
    show (if S 0 then y else 0) + sumOn _ r = (if S 0 then a else 0) + sumOn _ r + if S 0 then y - a else 0
    split <;> omega
  | a :: r, S, j + 1, y, h => by
    have ih := sumOn_set (l := r) (S := fun i => S (i + 1)) (j := j) (y := y) (Nat.lt_of_succ_lt_succ h)
    show (if S 0 then a else 0) + sumOn _ (r.set j y) = (if S 0 then a else 0) + sumOn _ r + if S (j + 1) then y - r.getD j 0 else 0
    rw [ih]
    omega
theorem sumOn_nn : ∀ {l : List Int} {S : Nat → Bool}, (∀ i, 0 ≤ l.getD i 0) → 0 ≤ sumOn S l
  | [], _, _ => Int.le_refl _
  | a :: r, S, h => by
    have ih := sumOn_nn (l := r) (S := fun i => S (i + 1)) fun i => h (i + 1)
    have h0 : 0 ≤ a := h 0
    show 0 ≤ (if S 0 then a else 0) + sumOn _ r
    split <;> omega
theorem sumOn_one : ∀ {l : List Int} {S : Nat → Bool} {j : Nat}, (∀ i, 0 ≤ l.getD i 0) → S j = true → l.getD j 0 ≤ sumOn S l
  | [], _, _, _, _ => Int.le_refl _
  | a :: r, S, 0, h, hj => by
    have ih := sumOn_nn (l := r) (S := fun i => S (i + 1)) fun i => h (i + 1)
    show a ≤ (if S 0 then a else 0) + sumOn _ r
    rw [if_pos hj]
    omega
  | a :: r, S, j + 1, h, hj => by
    have ih := sumOn_one (l := r) (S := fun i => S (i + 1)) (j := j) (fun i => h (i + 1)) hj
    have h0 : 0 ≤ a := h 0
    show r.getD j 0 ≤ (if S 0 then a else 0) + sumOn _ r
    split <;> omega
theorem sumOn_congr : ∀ {l l' : List Int} {S : Nat → Bool}, l.length = l'.length → (∀ i, i < l.length → S i = true → l.getD i 0 = l'.getD i 0) → sumOn S l = sumOn S l'
  | [], [], _, _, _ => rfl
  | [], _ :: _, _, h, _ => by cases h
  | _ :: _, [], _, h, _ => by cases h
  | a :: r, b :: s, S, h, k => by
    have ih := sumOn_congr (l := r) (l' := s) (S := fun i => S (i + 1)) (Nat.succ.inj h) fun i hi hs => k (i + 1) (Nat.succ_lt_succ hi) hs
    show (if S 0 then a else 0) + sumOn _ r = (if S 0 then b else 0) + sumOn _ s
    rw [ih]
    by_cases c : S 0 = true
    · have : a = b := k 0 (Nat.zero_lt_succ _) c
      rw [this]
    · rw [if_neg c, if_neg c]
theorem sumOn_zero : ∀ {l : List Int} {S : Nat → Bool}, (∀ i, l.getD i 0 = 0) → sumOn S l = 0
  | [], _, _ => rfl
  | a :: r, S, h => by
    have ih := sumOn_zero (l := r) (S := fun i => S (i + 1)) fun i => h (i + 1)
    have h0 : a = 0 := h 0
    show (if S 0 then a else 0) + sumOn _ r = 0
    rw [ih, h0]
    split <;> rfl
def inS (js : List T3) (b e : Int) (i : Nat) : Bool := inB b e (js.getD i (0, 0, 0))
theorem inS_iff {js : List T3} {b e : Int} {i : Nat} : inS js b e i = true ↔ b ≤ cm js i ∧ du js i ≤ e := by
  unfold inS inB cm du
  rw [Bool.and_eq_true, decide_eq_true_iff, decide_eq_true_iff]
theorem sumOn_load : ∀ {js : List T3} {b e : Int}, sumOn (inS js b e) (js.map (·.2.1)) = loadJ js b e
  | [], _, _ => rfl
  | j :: r, b, e => by
    have ih := sumOn_load (js := r) (b := b) (e := e)
    show (if inB b e j then j.2.1 else 0) + sumOn (inS r b e) (r.map (·.2.1)) = _
    rw [ih]
    unfold loadJ
    rw [List.filter_cons]
    by_cases c : inB b e j = true
    · rw [if_pos c, if_pos c, List.map_cons, List.sum_cons]
    · rw [if_neg c, if_neg c]
      omega
theorem load_append (js ks : List T3) (b e : Int) : loadJ (js ++ ks) b e = loadJ js b e + loadJ ks b e := by
  unfold loadJ
  rw [List.filter_append, List.map_append, List.sum_append]
theorem load_one (j : T3) (b e : Int) : loadJ [j] b e = if b ≤ j.1 ∧ j.2.2 ≤ e then j.2.1 else 0 := by
  unfold loadJ inB
  rw [List.filter_cons]
  by_cases c : b ≤ j.1 ∧ j.2.2 ≤ e
  · rw [if_pos c, if_pos (by rw [Bool.and_eq_true]; exact ⟨decide_eq_true c.1, decide_eq_true c.2⟩)]
    show ([j.2.1] : List Int).sum = _
    rw [List.sum_singleton]
  · rw [if_neg c, if_neg (by rw [Bool.and_eq_true, decide_eq_true_iff, decide_eq_true_iff]; exact c)]
    rfl
theorem load_nn {js : List T3} (S : Sound js) (b e : Int) : 0 ≤ loadJ js b e := by
  rw [← sumOn_load]
  refine sumOn_nn fun i => ?_
  rcases Nat.lt_or_ge i js.length with h | h
  · rw [left0 js h]; have := S.at h; omega
  · rw [getD_ge (by rw [List.length_map]; exact h)]; exact Int.le_refl _
/-! ### what is left of a job ahead of the k-th piece -/
def lf (js ps : List T3) (k i : Nat) : Int := (leftAfter js (ps.take k)).getD i 0
theorem lf_zero {js ps : List T3} {i : Nat} (h : i < js.length) : lf js ps 0 i = ln js i := left0 js h
theorem la_step {js ps : List T3} {k : Nat} {q : T3} (h : ps[k]? = some q) : leftAfter js (ps.take (k + 1)) = takeOff (leftAfter js (ps.take k)) q := by
  rw [List.take_add_one, h]
  exact leftAfter_snoc js (ps.take k) q
theorem ta_step {ps : List T3} {k : Nat} {q : T3} (h : ps[k]? = some q) : timeAfter (ps.take (k + 1)) = q.2.2 := by
  rw [List.take_add_one, h]
  exact timeAfter_snoc (ps.take k) q
theorem take_past {ps : List T3} {k : Nat} (h : ps[k]? = none) : ps.take (k + 1) = ps.take k := by
  rw [List.take_add_one, h]
  exact List.append_nil _
theorem lf_other {js ps : List T3} {k i : Nat} {q : T3} (h : ps[k]? = some q) (ne : q.1.toNat ≠ i) : lf js ps (k + 1) i = lf js ps k i := by
  unfold lf
  rw [la_step h]
  exact getD_set_ne ne
theorem lf_same {js ps : List T3} {k : Nat} {q : T3} (W : WayOk js ps) (h : ps[k]? = some q) : lf js ps (k + 1) q.1.toNat = lf js ps k q.1.toNat - (q.2.2 - q.2.1) := by
  unfold lf
  rw [la_step h]
  exact getD_set_same (by rw [leftAfter_len]; exact (W k q h).pn)
theorem lf_le {js ps : List T3} (W : WayOk js ps) (k i : Nat) : lf js ps (k + 1) i ≤ lf js ps k i := by
  cases h : ps[k]? with
  | none =>
    unfold lf
    rw [take_past h]
    exact Int.le_refl _
  | some q =>
    by_cases c : q.1.toNat = i
    · subst c
      have := lf_same W h
      have := (W k q h).be
      omega
    · rw [lf_other h c]
      exact Int.le_refl _
theorem lf_mono {js ps : List T3} (W : WayOk js ps) (i : Nat) {k : Nat} : ∀ {m : Nat}, k ≤ m → lf js ps m i ≤ lf js ps k i
  | 0, h => by
    have : k = 0 := by omega
    subst this
    exact Int.le_refl _
  | m + 1, h => by
    rcases Nat.lt_or_ge k (m + 1) with c | c
    · have := lf_mono W i (show k ≤ m by omega)
      have := lf_le W m i
      omega
    · have : k = m + 1 := by omega
      subst this
      exact Int.le_refl _
theorem lf_nn {js ps : List T3} (S : Sound js) (W : WayOk js ps) : ∀ k i, 0 ≤ lf js ps k i
  | 0, i => by
    rcases Nat.lt_or_ge i js.length with h | h
    · rw [lf_zero h]; have := S.at h; omega
    · show 0 ≤ (js.map (·.2.1)).getD i 0
      rw [getD_ge (by rw [List.length_map]; exact h)]; exact Int.le_refl _
  | k + 1, i => by
    have ih := lf_nn S W k i
    cases h : ps[k]? with
    | none =>
      unfold lf at *
      rw [take_past h]
      exact ih
    | some q =>
      by_cases c : q.1.toNat = i
      · subst c
        have := lf_same W h
        have := (W k q h).rest
        unfold lf at *
        omega
      · rw [lf_other h c]
        exact ih
theorem lf_full {js ps : List T3} {i : Nat} (hi : i < js.length) : ∀ {k : Nat}, (∀ m q, m < k → ps[m]? = some q → q.1.toNat ≠ i) → lf js ps k i = ln js i
  | 0, _ => lf_zero hi
  | k + 1, h => by
    have ih := lf_full hi (k := k) fun m q hm hq => h m q (by omega) hq
    cases e : ps[k]? with
    | none =>
      unfold lf at *
      rw [take_past e]
      exact ih
    | some q => rw [lf_other e (h k q (by omega) e)]; exact ih
theorem lf_pos {js ps : List T3} {k : Nat} {q : T3} (W : WayOk js ps) (h : ps[k]? = some q) : 0 < lf js ps k q.1.toNat := by
  have O := W k q h
  have := O.rest
  have := O.be
  unfold lf
  omega
theorem ta_le {js ps : List T3} (W : WayOk js ps) : ∀ {k m : Nat}, k ≤ m → timeAfter (ps.take k) ≤ timeAfter (ps.take m)
  | k, 0, h => by
    have : k = 0 := by omega
    subst this
    exact Int.le_refl _
  | k, m + 1, h => by
    rcases Nat.lt_or_ge k (m + 1) with c | c
    · have ih := ta_le W (show k ≤ m by omega)
      cases e : ps[m]? with
      | none => rw [take_past e]; exact ih
      | some q =>
        rw [ta_step e]
        have := (W m q e).tb
        have := (W m q e).be
        omega
    · have : k = m + 1 := by omega
      subst this
      exact Int.le_refl _
theorem ord {js ps : List T3} (W : WayOk js ps) {i j : Nat} {q r : T3} (h : i < j) (hq : ps[i]? = some q) (hr : ps[j]? = some r) : q.2.2 ≤ r.2.1 := by
  have h1 := ta_le W (show i + 1 ≤ j by omega)
  rw [ta_step hq] at h1
  have := (W j r hr).tb
  omega
theorem ta_nn {js ps : List T3} (W : WayOk js ps) (k : Nat) : 0 ≤ timeAfter (ps.take k) := ta_le W (Nat.zero_le k)
/-! ### a late job -/
structure LateAt (js ps : List T3) (p M : Nat) (z : T3) : Prop where
  pn : p < js.length
  at_ : ps[M]? = some z
  pl : z.1.toNat = p
  past : du js p < z.2.2
theorem least_ex {P : Nat → Prop} : ∀ n, P n → ∃ m, m ≤ n ∧ P m ∧ ∀ i, i < m → ¬ P i
  | n, h => by
    induction n using Nat.strongRecOn with
    | _ n ih =>
      by_cases c : ∃ i, i < n ∧ P i
      · obtain ⟨i, hi, hp⟩ := c
        obtain ⟨m, h1, h2, h3⟩ := ih i hi hp
        exact ⟨m, by omega, h2, h3⟩
      · exact ⟨n, Nat.le_refl _, h, fun i hi hp => c ⟨i, hi, hp⟩⟩
theorem cover {js ps : List T3} (S : Sound js) (W : WayOk js ps) {p M : Nat} {z : T3} (L : LateAt js ps p M z) :
    ∃ m q, m ≤ M ∧ ps[m]? = some q ∧ q.2.1 < du js p ∧ du js p ≤ q.2.2 ∧ du js q.1.toNat ≤ du js p := by
  have sp := S.at L.pn
  obtain ⟨m, hm, ⟨q, hq, hd⟩, hl⟩ := least_ex (P := fun m => ∃ q, ps[m]? = some q ∧ du js p ≤ q.2.2) M ⟨z, L.at_, by have := L.past; omega⟩
  have O := W m q hq
  have hp : 0 < lf js ps m p := by
    have h1 := lf_pos W L.at_
    rw [L.pl] at h1
    have := lf_mono W p hm
    omega
  have hb : q.2.1 < du js p := by
    refine Classical.byContradiction fun c => ?_
    have hlt : timeAfter (ps.take m) < q.2.1 := by
      cases m with
      | zero =>
        show 0 < q.2.1
        omega
      | succ k =>
        have hk : k < ps.length := by have := (List.getElem?_eq_some_iff.mp hq).1; omega
        have e := List.getElem?_eq_getElem hk
        rw [ta_step e]
        have := hl k (by omega)
        have : ¬ du js p ≤ (ps[k]).2.2 := fun y => this ⟨_, e, y⟩
        omega
    have := O.gap hlt p L.pn hp
    omega
  refine ⟨m, q, hm, hq, hb, hd, ?_⟩
  have := O.edf p L.pn hp (by omega)
  unfold first at this
  omega
/-- from the k-th piece to the m-th one the run never waits and works at no job that is due later than d -/
structure Bk (js ps : List T3) (d : Int) (k m : Nat) : Prop where
  km : k ≤ m
  due : ∀ i q, k ≤ i → i ≤ m → ps[i]? = some q → du js q.1.toNat ≤ d
  tight : ∀ i q r, k ≤ i → i < m → ps[i]? = some q → ps[i + 1]? = some r → q.2.2 = r.2.1
  stop : k = 0 ∨ ∃ q r, ps[k - 1]? = some q ∧ ps[k]? = some r ∧ (q.2.2 < r.2.1 ∨ d < du js q.1.toNat)
theorem bk_ex {js ps : List T3} (W : WayOk js ps) {d : Int} : ∀ {m : Nat} {q : T3}, ps[m]? = some q → du js q.1.toNat ≤ d → ∃ k, Bk js ps d k m
  | 0, q, hq, hd => ⟨0, Nat.le_refl _, fun i r h1 h2 hr => by
      have : i = 0 := by omega
      subst this
      rw [hq] at hr
      cases hr
      exact hd, fun i r s h1 h2 => absurd h2 (Nat.not_lt_zero _), .inl rfl⟩
  | m + 1, q, hq, hd => by
    have hm : m < ps.length := by have := (List.getElem?_eq_some_iff.mp hq).1; omega
    have e := List.getElem?_eq_getElem hm
    by_cases c : (ps[m]).2.2 < q.2.1 ∨ d < du js (ps[m]).1.toNat
    · exact ⟨m + 1, Nat.le_refl _, fun i r h1 h2 hr => by
        have : i = m + 1 := by omega
        subst this
        rw [hq] at hr
        cases hr
        exact hd, fun i r s h1 h2 => by omega, .inr ⟨_, _, e, hq, c⟩⟩
    · obtain ⟨k, B⟩ := bk_ex W (d := d) e (by omega)
      refine ⟨k, by have := B.km; omega, fun i r h1 h2 hr => ?_, fun i r s h1 h2 hr hs => ?_, B.stop⟩
      · rcases Nat.lt_or_ge i (m + 1) with y | y
        · exact B.due i r h1 (by omega) hr
        · have : i = m + 1 := by omega
          subst this
          rw [hq] at hr
          cases hr
          exact hd
      · rcases Nat.lt_or_ge i m with y | y
        · exact B.tight i r s h1 y hr hs
        · have : i = m := by omega
          subst this
          rw [e] at hr
          rw [hq] at hs
          cases hr
          cases hs
          have := ord W (Nat.lt_succ_self _) e hq
          omega
/-- whoever came ahead of the stretch and is due within it is done at its begin -/
theorem bk_done {js ps : List T3} (S : Sound js) (W : WayOk js ps) {d : Int} {k m : Nat} {r : T3} (B : Bk js ps d k m) (hr : ps[k]? = some r) {o : Nat} (ho : o < js.length) (hc : cm js o < r.2.1) (hd : du js o ≤ d) : lf js ps k o ≤ 0 := by
  refine Classical.byContradiction fun c => ?_
  have hp : 0 < lf js ps k o := by omega
  have O := W k r hr
  have tb := O.tb
  by_cases g : timeAfter (ps.take k) < r.2.1
  · have := O.gap g o ho hp
    omega
  · rcases B.stop with e | ⟨q, r', hq, hr', e⟩
    · subst e
      have := S.at ho
      have : ¬ (0 : Int) < r.2.1 := g
      omega
    · rw [hr] at hr'
      cases hr'
      cases k with
      | zero =>
        have : ¬ (0 : Int) < r.2.1 := g
        have := S.at ho
        omega
      | succ j =>
        have hq : ps[j]? = some q := hq
        rw [ta_step hq] at g tb
        have hj := lf_le W j o
        have := (W j q hq).edf o ho (by show lf js ps j o > 0; omega) (by omega)
        unfold first at this
        omega
theorem crowded {js ps : List T3} (S : Sound js) (W : WayOk js ps) {p M k m : Nat} {z q r : T3} (L : LateAt js ps p M z) (hq : ps[m]? = some q) (hqb : q.2.1 < du js p) (hqe : du js p ≤ q.2.2) (B : Bk js ps (du js p) k m) (hr : ps[k]? = some r) :
    0 ≤ r.2.1 ∧ r.2.1 ≤ cm js p ∧ r.2.1 < du js p ∧ du js p - r.2.1 < loadJ js r.2.1 (du js p) := by
  have sp := S.at L.pn
  have Or := W k r hr
  have hmM : m ≤ M := by
    rcases Nat.lt_or_ge M m with c | c
    · have := ord W c L.at_ hq
      have := L.past
      omega
    · exact c
  have hM : 0 < lf js ps M p := by
    have := lf_pos W L.at_
    rw [L.pl] at this
    exact this
  have hb0 : 0 ≤ r.2.1 := by
    have := Or.tb
    have := ta_nn W k
    omega
  have hbp : r.2.1 ≤ cm js p := by
    refine Classical.byContradiction fun c => ?_
    have h1 := bk_done S W B hr L.pn (by omega) (Int.le_refl _)
    have h2 := lf_mono W p (show k ≤ M by have := B.km; omega)
    omega
  refine ⟨hb0, hbp, by omega, ?_⟩
  have hin : ∀ i x, k ≤ i → i ≤ m → ps[i]? = some x → inS js r.2.1 (du js p) x.1.toNat = true := fun i x h1 h2 hx => by
    refine inS_iff.mpr ⟨?_, B.due i x h1 h2 hx⟩
    refine Classical.byContradiction fun c => ?_
    have h3 := bk_done S W B hr (W i x hx).pn (by omega) (B.due i x h1 h2 hx)
    have h4 := lf_mono W x.1.toNat h1
    have h5 := lf_pos W hx
    omega
  have hstart : sumOn (inS js r.2.1 (du js p)) (leftAfter js (ps.take k)) = loadJ js r.2.1 (du js p) := by
    rw [← sumOn_load]
    refine sumOn_congr (by rw [leftAfter_len, List.length_map]) fun i hi hs => ?_
    rw [leftAfter_len] at hi
    rw [left0 js hi]
    refine lf_full hi fun j x hj hx e => ?_
    have h1 := ord W hj hx hr
    have h2 := (W j x hx).come
    have h3 := (W j x hx).be
    rw [e] at h2
    have := (inS_iff.mp hs).1
    omega
  have hone : ∀ i x, k ≤ i → i ≤ m → ps[i]? = some x → sumOn (inS js r.2.1 (du js p)) (leftAfter js (ps.take (i + 1))) = sumOn (inS js r.2.1 (du js p)) (leftAfter js (ps.take i)) - (x.2.2 - x.2.1) := fun i x h1 h2 hx => by
    rw [la_step hx]
    unfold takeOff
    rw [sumOn_set (by rw [leftAfter_len]; exact (W i x hx).pn), if_pos (hin i x h1 h2 hx)]
    omega
  have htel : ∀ j x, k + j ≤ m → ps[k + j]? = some x → sumOn (inS js r.2.1 (du js p)) (leftAfter js (ps.take (k + j + 1))) = loadJ js r.2.1 (du js p) - (x.2.2 - r.2.1) := by
    intro j
    induction j with
    | zero =>
      intro x hx1 hx
      rw [Nat.add_zero] at *
      rw [hr] at hx
      cases hx
      rw [hone k r (Nat.le_refl _) hx1 hr, hstart]
    | succ j ih =>
      intro x hx1 hx
      have hy : k + j < ps.length := by have := (List.getElem?_eq_some_iff.mp hx).1; omega
      have e := List.getElem?_eq_getElem hy
      have h1 := ih _ (by omega) e
      rw [hone (k + (j + 1)) x (by omega) hx1 hx]
      have h2 := B.tight (k + j) _ x (by omega) (by omega) e hx
      show sumOn _ (leftAfter js (ps.take (k + j + 1))) - _ = _
      rw [h1]
      omega
  have hkm := B.km
  have hend := htel (m - k) q (by omega) (by rw [show k + (m - k) = m by omega]; exact hq)
  rw [show k + (m - k) + 1 = m + 1 by omega] at hend
  have hnn : ∀ i, 0 ≤ (leftAfter js (ps.take (m + 1))).getD i 0 := fun i => lf_nn S W (m + 1) i
  rcases Nat.lt_or_ge m M with c | c
  · have h1 := sumOn_one (S := inS js r.2.1 (du js p)) (j := p) hnn (inS_iff.mpr ⟨hbp, Int.le_refl _⟩)
    have h2 : lf js ps M p ≤ (leftAfter js (ps.take (m + 1))).getD p 0 := lf_mono W p c
    omega
  · have : m = M := by omega
    subst this
    have h1 := L.at_
    rw [hq] at h1
    cases h1
    have := L.past
    have := sumOn_nn (S := inS js r.2.1 (du js p)) hnn
    omega
/-! ### no stretch is crowded where none is late -/
def NoLate (js ps : List T3) : Prop := ∀ (i : Nat) (q : T3), ps[i]? = some q → q.2.2 ≤ du js q.1.toNat
theorem load_le {js ps : List T3} (R : RunOk js ps) (N : NoLate js ps) {b e : Int} (h : b ≤ e) : loadJ js b e ≤ e - b := by
  have W := R.way
  have key : ∀ k, k ≤ ps.length → loadJ js b e ≤ sumOn (inS js b e) (leftAfter js (ps.take k)) + (min e (max b (timeAfter (ps.take k))) - b) := by
    intro k
    induction k with
    | zero =>
      intro _
      have : sumOn (inS js b e) (leftAfter js (ps.take 0)) = loadJ js b e := sumOn_load
      rw [this]
      omega
    | succ k ih =>
      intro hk
      have ih := ih (by omega)
      have hq := List.getElem?_eq_getElem (show k < ps.length by omega)
      have O := W k _ hq
      have tb := O.tb
      have be := O.be
      rw [la_step hq, ta_step hq]
      unfold takeOff
      rw [sumOn_set (by rw [leftAfter_len]; exact O.pn)]
      by_cases c : inS js b e (ps[k]).1.toNat = true
      · rw [if_pos c]
        obtain ⟨c1, c2⟩ := inS_iff.mp c
        have := O.come
        have := N k _ hq
        omega
      · rw [if_neg c]
        omega
  have h1 := key ps.length (Nat.le_refl _)
  rw [List.take_length, sumOn_zero R.all] at h1
  omega
theorem late_at {js ps : List T3} (W : WayOk js ps) (h : ¬ NoLate js ps) : ∃ p M z, LateAt js ps p M z := by
  refine Classical.byContradiction fun c => h fun i q hq => ?_
  refine Classical.byContradiction fun d => c ⟨q.1.toNat, i, q, (W i q hq).pn, hq, rfl, by omega⟩
/-- a job is late just where some stretch asks for more than it has -/
theorem noLate_iff {js ps : List T3} (S : Sound js) (R : RunOk js ps) : NoLate js ps ↔ ∀ b e : Int, b ≤ e → loadJ js b e ≤ e - b := by
  refine ⟨fun N b e h => load_le R N h, fun h => Classical.byContradiction fun c => ?_⟩
  obtain ⟨p, M, z, L⟩ := late_at R.way c
  obtain ⟨m, q, hm, hq, h1, h2, h3⟩ := cover S R.way L
  obtain ⟨k, B⟩ := bk_ex R.way hq h3
  have hk : k < ps.length := by have := (List.getElem?_eq_some_iff.mp hq).1; have := B.km; omega
  have := crowded S R.way L hq h1 h2 B (List.getElem?_eq_getElem hk)
  have := h (ps[k]).2.1 (du js p) (by omega)
  omega
end DL
/-! ends, dues made later, one job more -/
namespace DL
def endsAfter (n : Nat) (ps : List T3) : List Int := ps.foldl (fun l q => l.set q.1.toNat q.2.2) (List.replicate n 0)
def endsM (js : List T3) : List Int := endsAfter js.length (runM js)
theorem endsAfter_step {n : Nat} {ps : List T3} {i : Nat} {q : T3} (h : ps[i]? = some q) : endsAfter n (ps.take (i + 1)) = (endsAfter n (ps.take i)).set q.1.toNat q.2.2 := by
  unfold endsAfter
  rw [List.take_add_one, h, List.foldl_append]
  rfl
theorem foldl_set_len : ∀ (ps : List T3) (l : List Int), (ps.foldl (fun l q => l.set q.1.toNat q.2.2) l).length = l.length
  | [], _ => rfl
  | q :: r, l => by rw [List.foldl_cons, foldl_set_len r, List.length_set]
theorem endsAfter_len (n : Nat) (ps : List T3) : (endsAfter n ps).length = n := by
  unfold endsAfter
  rw [foldl_set_len, List.length_replicate]
theorem ends_upto {n : Nat} {ps : List T3} {i : Nat} (hi : i < n) : ∀ k, (∀ (m : Nat) (q : T3), m < k → ps[m]? = some q → q.1.toNat ≠ i) ∨
    ∃ (M : Nat) (z : T3), M < k ∧ ps[M]? = some z ∧ z.1.toNat = i ∧ z.2.2 = (endsAfter n (ps.take k)).getD i 0 ∧ ∀ m q, m < k → ps[m]? = some q → q.1.toNat = i → m ≤ M
  | 0 => .inl fun m q h => absurd h (Nat.not_lt_zero _)
  | k + 1 => by
    have ih := ends_upto (ps := ps) hi k
    cases e : ps[k]? with
    | none =>
      rw [take_past e]
      rcases ih with h | ⟨M, z, h1, h2, h3, h4, h5⟩
      · refine .inl fun m q hm hq => ?_
        rcases Nat.lt_or_ge m k with c | c
        · exact h m q c hq
        · have : m = k := by omega
          subst this
          rw [e] at hq
          cases hq
      · refine .inr ⟨M, z, by omega, h2, h3, h4, fun m q hm hq => ?_⟩
        rcases Nat.lt_or_ge m k with c | c
        · exact h5 m q c hq
        · have : m = k := by omega
          subst this
          rw [e] at hq
          cases hq
    | some r =>
      rw [endsAfter_step e]
      by_cases c : r.1.toNat = i
      · refine .inr ⟨k, r, by omega, e, c, ?_, fun m q hm hq _ => by omega⟩
        rw [c, getD_set_same (by rw [endsAfter_len]; exact hi)]
      · rw [getD_set_ne c]
        rcases ih with h | ⟨M, z, h1, h2, h3, h4, h5⟩
        · refine .inl fun m q hm hq => ?_
          rcases Nat.lt_or_ge m k with y | y
          · exact h m q y hq
          · have : m = k := by omega
            subst this
            rw [e] at hq
            cases hq
            exact c
        · refine .inr ⟨M, z, by omega, h2, h3, h4, fun m q hm hq hp => ?_⟩
          rcases Nat.lt_or_ge m k with y | y
          · exact h5 m q y hq hp
          · have : m = k := by omega
            subst this
            rw [e] at hq
            cases hq
            exact absurd hp c
theorem ends_at {js ps : List T3} (S : Sound js) (R : RunOk js ps) {i : Nat} (hi : i < js.length) :
    ∃ (M : Nat) (z : T3), ps[M]? = some z ∧ z.1.toNat = i ∧ z.2.2 = (endsAfter js.length ps).getD i 0 ∧ ∀ (m : Nat) (q : T3), ps[m]? = some q → q.1.toNat = i → m ≤ M ∧ q.2.2 ≤ z.2.2 := by
  have h := ends_upto (ps := ps) hi ps.length
  rw [List.take_length] at h
  rcases h with h | ⟨M, z, h1, h2, h3, h4, h5⟩
  · have h1 := lf_full hi (k := ps.length) fun m q hm hq => h m q hm hq
    unfold lf at h1
    rw [List.take_length, R.all i] at h1
    have := S.at hi
    omega
  · refine ⟨M, z, h2, h3, h4, fun m q hq hp => ?_⟩
    have := h5 m q (List.getElem?_eq_some_iff.mp hq).1 hq hp
    refine ⟨this, ?_⟩
    rcases Nat.lt_or_ge m M with c | c
    · have := ord R.way c hq h2
      have := (R.way M z h2).be
      omega
    · have : m = M := by omega
      subst this
      rw [h2] at hq
      cases hq
      exact Int.le_refl _
theorem late_of_end {js ps : List T3} (S : Sound js) (R : RunOk js ps) {i : Nat} (hi : i < js.length) (h : du js i < (endsAfter js.length ps).getD i 0) : ∃ M z, LateAt js ps i M z := by
  obtain ⟨M, z, h1, h2, h3, _⟩ := ends_at S R hi
  exact ⟨M, z, hi, h1, h2, by rw [h3]; exact h⟩
theorem LateAt.end_ {js ps : List T3} {p M : Nat} {z : T3} (S : Sound js) (R : RunOk js ps) (L : LateAt js ps p M z) : du js p < (endsAfter js.length ps).getD p 0 := by
  obtain ⟨M', z', h1, h2, h3, h4⟩ := ends_at S R L.pn
  have := (h4 M z L.at_ L.pl).2
  have := L.past
  omega
theorem noLate_ends {js ps : List T3} (S : Sound js) (R : RunOk js ps) : NoLate js ps ↔ ∀ i, i < js.length → (endsAfter js.length ps).getD i 0 ≤ du js i := by
  constructor
  · intro N i hi
    obtain ⟨M, z, h1, h2, h3, _⟩ := ends_at S R hi
    have := N M z h1
    rw [h2] at this
    omega
  · intro h
    refine Classical.byContradiction fun c => ?_
    obtain ⟨p, M, z, L⟩ := late_at R.way c
    have := L.end_ S R
    have := h p L.pn
    omega
/-! ### the run meets the jobs where none is late -/
theorem run_left {js ps : List T3} (R : RunOk js ps) : leftAfter js ps = List.replicate js.length 0 := by
  refine List.eq_replicate_iff.mpr ⟨leftAfter_len js ps, fun x hx => ?_⟩
  obtain ⟨i, hi, e⟩ := List.getElem_of_mem hx
  have := R.all i
  rw [getD_lt hi, e] at this
  exact this
/-! ### dues made later -/
def shiftJs (js : List T3) (x : Int) : List T3 := js.map fun j => (j.1, j.2.1, j.2.2 + x)
theorem shift_len (js : List T3) (x : Int) : (shiftJs js x).length = js.length := List.length_map _
theorem cm_shift (js : List T3) (x : Int) (i : Nat) : cm (shiftJs js x) i = cm js i := by
  unfold cm shiftJs
  rcases Nat.lt_or_ge i js.length with h | h
  · rw [getD_lt h, getD_lt (by rw [List.length_map]; exact h), List.getElem_map]
  · rw [getD_ge h, getD_ge (by rw [List.length_map]; exact h)]
theorem du_shift {js : List T3} {x : Int} {i : Nat} (h : i < js.length) : du (shiftJs js x) i = du js i + x := by
  unfold du shiftJs
  rw [getD_lt h, getD_lt (by rw [List.length_map]; exact h), List.getElem_map]
theorem shift_sound {js : List T3} {x : Int} (S : Sound js) (h : 0 ≤ x) : Sound (shiftJs js x) := fun j hj => by
  obtain ⟨i, hi, rfl⟩ := List.mem_map.mp hj
  have := S i hi
  unfold SoundJ at *
  dsimp only
  omega
theorem there_shift (js : List T3) (x : Int) (left : List Int) (t : Int) (i : Nat) : there (shiftJs js x) left t i ↔ there js left t i := by
  unfold there
  rw [cm_shift]
theorem fd_shift (js : List T3) (x : Int) (left : List Int) (t : Int) : ∀ k, k ≤ js.length → fdUpto (shiftJs js x) left t k = fdUpto js left t k
  | 0, _ => rfl
  | k + 1, h => by
    show fdStep (shiftJs js x) left t (fdUpto (shiftJs js x) left t k) k = fdStep js left t (fdUpto js left t k) k
    rw [fd_shift js x left t k (by omega)]
    unfold fdStep
    by_cases c : there js left t k
    · rw [if_pos c, if_pos ((there_shift js x left t k).mpr c)]
      rcases fdUpto_spec js left t k with ⟨e, _⟩ | ⟨p, e, hp, _⟩
      · rw [e]
      · rw [e]
        show (if du (shiftJs js x) k < du (shiftJs js x) p then some k else some p) = if du js k < du js p then some k else some p
        rw [du_shift (by omega), du_shift (by omega)]
        by_cases d : du js k < du js p
        · rw [if_pos d, if_pos (by omega)]
        · rw [if_neg d, if_neg (by omega)]
    · rw [if_neg c, if_neg fun z => c ((there_shift js x left t k).mp z)]
theorem firstDue_shift (js : List T3) (x : Int) (left : List Int) (t : Int) : firstDue (shiftJs js x) left t = firstDue js left t := by
  unfold firstDue
  rw [shift_len]
  exact fd_shift js x left t _ (Nat.le_refl _)
theorem comesAfter_shift (js : List T3) (x t : Int) : comesAfter (shiftJs js x) t = comesAfter js t := by
  unfold comesAfter shiftJs
  rw [List.filter_map, List.map_map]
  rfl
theorem comesWithin_shift (js : List T3) (x t d : Int) : comesWithin (shiftJs js x) t d = comesWithin js t d := by
  unfold comesWithin shiftJs
  rw [List.filter_map, List.map_map]
  rfl
theorem step_shift (js : List T3) (x : Int) (s : RS) : step (shiftJs js x) s = step js s := by
  unfold step
  rw [firstDue_shift]
  unfold nextCome endOf
  simp only [comesAfter_shift, comesWithin_shift]
theorem runFrom_shift (js : List T3) (x : Int) : ∀ k s, runFrom (shiftJs js x) k s = runFrom js k s
  | 0, _ => rfl
  | k + 1, s => by
    show (if done s then s else runFrom (shiftJs js x) k (step (shiftJs js x) s)) = if done s then s else runFrom js k (step js s)
    rw [step_shift, runFrom_shift js x k]
theorem runM_shift (js : List T3) (x : Int) : runM (shiftJs js x) = runM js := by
  unfold runM
  rw [runFrom_shift, shift_len]
  congr 1
  congr 1
  unfold rs0 shiftJs
  rw [List.map_map]
  rfl
theorem endsM_shift (js : List T3) (x : Int) : endsM (shiftJs js x) = endsM js := by
  unfold endsM
  rw [runM_shift, shift_len]
theorem noLate_shift {js : List T3} (S : Sound js) (x : Int) : NoLate (shiftJs js x) (runM js) ↔ ∀ i, i < js.length → (endsM js).getD i 0 ≤ du js i + x := by
  have R := run_ok S
  constructor
  · intro N i hi
    obtain ⟨M, z, h1, h2, h3, _⟩ := ends_at S R hi
    have := N M z h1
    rw [h2, du_shift hi] at this
    unfold endsM
    omega
  · intro h m q hq
    have hp := (R.way m q hq).pn
    obtain ⟨M, z, h1, h2, h3, h4⟩ := ends_at S R hp
    have := (h4 m q hq rfl).2
    have := h _ hp
    unfold endsM at this
    rw [du_shift hp]
    omega
/-! ### one job more -/
def putJ (js : List T3) (at_ : Nat) (j : T3) : List T3 := js.take at_ ++ [j] ++ js.drop at_
theorem putIn_sound {js : List T3} {at_ : Nat} {j : T3} (S : Sound js) (h : SoundJ j) : Sound (putJ js at_ j) := fun x hx => by
  rcases List.mem_append.mp hx with y | y
  · rcases List.mem_append.mp y with y | y
    · exact S x (List.mem_of_mem_take y)
    · rw [List.mem_singleton.mp y]; exact h
  · exact S x (List.mem_of_mem_drop y)
theorem load_putIn (js : List T3) (at_ : Nat) (j : T3) (b e : Int) : loadJ (putJ js at_ j) b e = loadJ js b e + if b ≤ j.1 ∧ j.2.2 ≤ e then j.2.1 else 0 := by
  unfold putJ
  rw [load_append, load_append, load_one]
  have : loadJ js b e = loadJ (js.take at_) b e + loadJ (js.drop at_) b e := by rw [← load_append, List.take_append_drop]
  omega
theorem load_congr {js : List T3} {b b' e e' : Int} (h : ∀ j ∈ js, inB b e j = inB b' e' j) : loadJ js b e = loadJ js b' e' := by
  unfold loadJ
  rw [List.filter_congr h]
/-- a stretch's begin may be a come, its end a due -/
theorem snap_begin (js : List T3) {b c : Int} (e : Int) (hb : b ≤ c) : ∃ b', (b' = c ∨ ∃ j ∈ js, j.1 = b') ∧ b ≤ b' ∧ b' ≤ c ∧ loadJ js b e = loadJ js b' e := by
  have key : (c :: (js.filter fun j => decide (b ≤ j.1)).map (·.1)) ≠ [] := List.cons_ne_nil _ _
  have hm := lmin_mem key
  have hl : ∀ x, x ∈ (c :: (js.filter fun j => decide (b ≤ j.1)).map (·.1)) → lmin (c :: (js.filter fun j => decide (b ≤ j.1)).map (·.1)) ≤ x := fun x hx => lmin_le hx
  generalize lmin (c :: (js.filter fun j => decide (b ≤ j.1)).map (·.1)) = v at *
  have hbv : b ≤ v := by
    rcases List.mem_cons.mp hm with z | z
    · omega
    · obtain ⟨j, hj, rfl⟩ := List.mem_map.mp z
      exact of_decide_eq_true (List.mem_filter.mp hj).2
  refine ⟨v, ?_, hbv, hl c List.mem_cons_self, load_congr fun j hj => ?_⟩
  · rcases List.mem_cons.mp hm with z | z
    · exact .inl z
    · obtain ⟨j, hj, e⟩ := List.mem_map.mp z
      exact .inr ⟨j, (List.mem_filter.mp hj).1, e⟩
  · unfold inB
    congr 1
    refine decide_eq_decide.mpr ⟨fun h => hl _ (List.mem_cons_of_mem _ (List.mem_map.mpr ⟨j, List.mem_filter.mpr ⟨hj, decide_eq_true h⟩, rfl⟩)), fun h => by omega⟩
def lmax (d : Int) (l : List Int) : Int := l.foldl max d
theorem lmax_ge : ∀ (l : List Int) (d : Int), d ≤ lmax d l ∧ ∀ x ∈ l, x ≤ lmax d l
  | [], d => ⟨Int.le_refl _, fun x h => by simp at h⟩
  | a :: r, d => by
    obtain ⟨h1, h2⟩ := lmax_ge r (max d a)
    show d ≤ lmax (max d a) r ∧ ∀ x ∈ a :: r, x ≤ lmax (max d a) r
    refine ⟨by omega, fun x hx => ?_⟩
    rcases List.mem_cons.mp hx with e | e
    · rw [e]; omega
    · exact h2 x e
theorem lmax_mem : ∀ (l : List Int) (d : Int), lmax d l = d ∨ lmax d l ∈ l
  | [], d => .inl rfl
  | a :: r, d => by
    show lmax (max d a) r = d ∨ lmax (max d a) r ∈ a :: r
    rcases lmax_mem r (max d a) with h | h
    · rcases Int.le_total d a with c | c
      · rw [Int.max_eq_right c] at h ⊢
        exact .inr (by rw [h]; exact List.mem_cons_self)
      · rw [Int.max_eq_left c] at h ⊢
        exact .inl h
    · exact .inr (List.mem_cons_of_mem _ h)
theorem snap_end (js : List T3) {e d : Int} (b : Int) (hd : d ≤ e) : ∃ e', (e' = d ∨ ∃ j ∈ js, j.2.2 = e') ∧ d ≤ e' ∧ e' ≤ e ∧ loadJ js b e = loadJ js b e' := by
  obtain ⟨h1, h2⟩ := lmax_ge ((js.filter fun j => decide (j.2.2 ≤ e)).map (·.2.2)) d
  have h3 := lmax_mem ((js.filter fun j => decide (j.2.2 ≤ e)).map (·.2.2)) d
  generalize lmax d ((js.filter fun j => decide (j.2.2 ≤ e)).map (·.2.2)) = v at *
  refine ⟨v, ?_, h1, ?_, load_congr fun j hj => ?_⟩
  · rcases h3 with z | z
    · exact .inl z
    · obtain ⟨j, hj, e⟩ := List.mem_map.mp z
      exact .inr ⟨j, (List.mem_filter.mp hj).1, e⟩
  · rcases h3 with z | z
    · omega
    · obtain ⟨j, hj, e⟩ := List.mem_map.mp z
      have := of_decide_eq_true (List.mem_filter.mp hj).2
      omega
  · unfold inB
    congr 1
    refine decide_eq_decide.mpr ⟨fun h => h2 _ (List.mem_map.mpr ⟨j, List.mem_filter.mpr ⟨hj, decide_eq_true h⟩, rfl⟩), fun h => ?_⟩
    rcases h3 with z | z
    · omega
    · obtain ⟨j', hj', e'⟩ := List.mem_map.mp z
      have := of_decide_eq_true (List.mem_filter.mp hj').2
      omega
/-- no job is late with one of this length more, just where all stretches that hold its come and due leave as much -/
theorem noLate_putIn {js : List T3} (S : Sound js) (hf : NoLate js (runM js)) (at_ : Nat) {j : T3} (hj : SoundJ j) :
    NoLate (putJ js at_ j) (runM (putJ js at_ j)) ↔ ∀ b e : Int, b ≤ j.1 → j.2.2 ≤ e → loadJ js b e + j.2.1 ≤ e - b := by
  have S2 := putIn_sound (at_ := at_) S hj
  rw [noLate_iff S2 (run_ok S2)]
  constructor
  · intro h b e h1 h2
    have := h b e (by have := hj.2.2; omega)
    rw [load_putIn, if_pos ⟨h1, h2⟩] at this
    exact this
  · intro h b e hbe
    rw [load_putIn]
    by_cases c : b ≤ j.1 ∧ j.2.2 ≤ e
    · rw [if_pos c]
      exact h b e c.1 c.2
    · rw [if_neg c]
      have := load_le (run_ok S) hf hbe
      omega
/-- all these stretches are seen by those that begin at a come and end at a due -/
theorem room_seen {js : List T3} {c d x : Int} (h : ∀ b e : Int, (b = c ∨ ∃ j ∈ js, j.1 = b) → b ≤ c → (e = d ∨ ∃ j ∈ js, j.2.2 = e) → d ≤ e → loadJ js b e + x ≤ e - b) : ∀ b e : Int, b ≤ c → d ≤ e → loadJ js b e + x ≤ e - b := by
  intro b e hb he
  obtain ⟨b', h1, h2, h3, h4⟩ := snap_begin js e hb
  obtain ⟨e', g1, g2, g3, g4⟩ := snap_end js b' he
  have := h b' e' h1 h3 g1 g2
  rw [h4, g4]
  omega
end DL
/-! the begin of a stretch, looked for from the first piece on -/
namespace DL
def BInv (js ps : List T3) (d : Int) (i : Nat) (b : Int) : Prop :=
  (b = timeAfter (ps.take i) ∧ (i = 0 ∨ ∃ q, ps[i - 1]? = some q ∧ d < du js q.1.toNat)) ∨
  ∃ (k : Nat) (r : T3), k < i ∧ ps[k]? = some r ∧ r.2.1 = b ∧ Bk js ps d k (i - 1)
theorem BInv.start (js ps : List T3) (d : Int) : BInv js ps d 0 0 := .inl ⟨rfl, .inl rfl⟩
def nextBegin (js ps : List T3) (d : Int) (i : Nat) (b : Int) (q : T3) : Int :=
  if d < du js q.1.toNat then q.2.2 else if timeAfter (ps.take i) < q.2.1 then q.2.1 else b
theorem bk_self {js ps : List T3} {d : Int} {i : Nat} {q : T3} (h : ps[i]? = some q) (hd : du js q.1.toNat ≤ d)
    (st : i = 0 ∨ ∃ q r, ps[i - 1]? = some q ∧ ps[i]? = some r ∧ (q.2.2 < r.2.1 ∨ d < du js q.1.toNat)) : Bk js ps d i i :=
  ⟨Nat.le_refl _, fun j x h1 h2 hx => by
    have : j = i := by omega
    subst this
    rw [h] at hx
    cases hx
    exact hd, fun j x y h1 h2 => by omega, st⟩
theorem bk_more {js ps : List T3} {d : Int} {k i : Nat} {p q : T3} (B : Bk js ps d k i) (hp : ps[i]? = some p) (h : ps[i + 1]? = some q) (hd : du js q.1.toNat ≤ d) (ht : p.2.2 = q.2.1) : Bk js ps d k (i + 1) := by
  refine ⟨by have := B.km; omega, fun j x h1 h2 hx => ?_, fun j x y h1 h2 hx hy => ?_, B.stop⟩
  · rcases Nat.lt_or_ge j (i + 1) with c | c
    · exact B.due j x h1 (by omega) hx
    · have : j = i + 1 := by omega
      subst this
      rw [h] at hx
      cases hx
      exact hd
  · rcases Nat.lt_or_ge j i with c | c
    · exact B.tight j x y h1 c hx hy
    · have : j = i := by omega
      subst this
      rw [hp] at hx
      rw [h] at hy
      cases hx
      cases hy
      exact ht
theorem BInv.step {js ps : List T3} (W : WayOk js ps) {d : Int} {i : Nat} {b : Int} {q : T3} (I : BInv js ps d i b) (h : ps[i]? = some q) : BInv js ps d (i + 1) (nextBegin js ps d i b q) := by
  have tb := (W i q h).tb
  unfold nextBegin
  by_cases c : d < du js q.1.toNat
  · rw [if_pos c]
    exact .inl ⟨(ta_step h).symm, .inr ⟨q, h, c⟩⟩
  · rw [if_neg c]
    have hi : i < ps.length := (List.getElem?_eq_some_iff.mp h).1
    by_cases g : timeAfter (ps.take i) < q.2.1
    · rw [if_pos g]
      refine .inr ⟨i, q, by omega, h, rfl, bk_self h (by omega) ?_⟩
      cases i with
      | zero => exact .inl rfl
      | succ j =>
        have e := List.getElem?_eq_getElem (show j < ps.length by omega)
        rw [ta_step e] at g
        exact .inr ⟨_, q, e, h, .inl g⟩
    · rw [if_neg g]
      rcases I with ⟨e, st⟩ | ⟨k, r, hk, hr, hb, B⟩
      · refine .inr ⟨i, q, by omega, h, by omega, bk_self h (by omega) ?_⟩
        rcases st with z | ⟨x, hx, hd⟩
        · exact .inl z
        · exact .inr ⟨x, q, hx, h, .inr hd⟩
      · refine .inr ⟨k, r, by omega, hr, hb, ?_⟩
        obtain ⟨j, rfl⟩ : ∃ j, i = j + 1 := ⟨i - 1, by omega⟩
        have e := List.getElem?_eq_getElem (show j < ps.length by omega)
        rw [ta_step e] at g tb
        exact bk_more B e h (by omega) (by omega)
/-- behind the piece at which the due falls it is the begin -/
theorem BInv.end_ {js ps : List T3} {d : Int} {m : Nat} {b : Int} {q : T3} (I : BInv js ps d (m + 1) b) (h : ps[m]? = some q) (hd : du js q.1.toNat ≤ d) : ∃ (k : Nat) (r : T3), ps[k]? = some r ∧ r.2.1 = b ∧ Bk js ps d k m := by
  rcases I with ⟨e, st⟩ | ⟨k, r, hk, hr, hb, B⟩
  · rcases st with z | ⟨x, hx, hd2⟩
    · omega
    · have hx : ps[m]? = some x := hx
      rw [h] at hx
      cases hx
      omega
  · exact ⟨k, r, hr, hb, B⟩
end DL
/-! room for one job more -/
namespace DL
def comesB (js : List T3) (c : Int) : List Int := c :: (js.filter fun j => decide (j.1 < c)).map (·.1)
def duesE (js : List T3) (d : Int) : List Int := d :: (js.filter fun j => decide (d < j.2.2)).map (·.2.2)
def minE (js : List T3) (b : Int) (es : List Int) (a : Int) : Int := es.foldl (fun a e => min a (e - b - loadJ js b e)) a
def minB (js : List T3) (es bs : List Int) (a : Int) : Int := bs.foldl (fun a b => minE js b es a) a
def leastM (js : List T3) (c d : Int) : Int := minB js (duesE js d) (comesB js c) (d - c)
theorem minE_snoc {js : List T3} {b a : Int} {es : List Int} {i : Nat} {e : Int} (h : es[i]? = some e) : minE js b (es.take (i + 1)) a = min (minE js b (es.take i) a) (e - b - loadJ js b e) := by
  unfold minE
  rw [List.take_add_one, h, List.foldl_append]
  rfl
theorem minB_snoc {js : List T3} {a : Int} {es bs : List Int} {i : Nat} {b : Int} (h : bs[i]? = some b) : minB js es (bs.take (i + 1)) a = minE js b es (minB js es (bs.take i) a) := by
  unfold minB
  rw [List.take_add_one, h, List.foldl_append]
  rfl
theorem minE_le (js : List T3) (b : Int) : ∀ (es : List Int) (a : Int), minE js b es a ≤ a ∧ ∀ e ∈ es, minE js b es a ≤ e - b - loadJ js b e
  | [], a => ⟨Int.le_refl _, fun e h => by simp at h⟩
  | x :: r, a => by
    obtain ⟨h1, h2⟩ := minE_le js b r (min a (x - b - loadJ js b x))
    show minE js b r (min a (x - b - loadJ js b x)) ≤ a ∧ ∀ e ∈ x :: r, minE js b r (min a (x - b - loadJ js b x)) ≤ e - b - loadJ js b e
    refine ⟨by omega, fun e he => ?_⟩
    rcases List.mem_cons.mp he with z | z
    · rw [z]; omega
    · exact h2 e z
theorem minE_mem (js : List T3) (b : Int) : ∀ (es : List Int) (a : Int), minE js b es a = a ∨ ∃ e ∈ es, minE js b es a = e - b - loadJ js b e
  | [], a => .inl rfl
  | x :: r, a => by
    show minE js b r (min a (x - b - loadJ js b x)) = a ∨ ∃ e ∈ x :: r, minE js b r (min a (x - b - loadJ js b x)) = e - b - loadJ js b e
    rcases minE_mem js b r (min a (x - b - loadJ js b x)) with h | ⟨e, he, h⟩
    · rcases Int.le_total a (x - b - loadJ js b x) with c | c
      · rw [Int.min_eq_left c] at h ⊢
        exact .inl h
      · rw [Int.min_eq_right c] at h ⊢
        exact .inr ⟨x, List.mem_cons_self, h⟩
    · exact .inr ⟨e, List.mem_cons_of_mem _ he, h⟩
theorem minB_le (js : List T3) (es : List Int) : ∀ (bs : List Int) (a : Int), minB js es bs a ≤ a ∧ ∀ b ∈ bs, ∀ e ∈ es, minB js es bs a ≤ e - b - loadJ js b e
  | [], a => ⟨Int.le_refl _, fun e h => by simp at h⟩
  | x :: r, a => by
    obtain ⟨h1, h2⟩ := minB_le js es r (minE js x es a)
    obtain ⟨g1, g2⟩ := minE_le js x es a
    show minB js es r (minE js x es a) ≤ a ∧ ∀ b ∈ x :: r, ∀ e ∈ es, minB js es r (minE js x es a) ≤ e - b - loadJ js b e
    refine ⟨by omega, fun b hb e he => ?_⟩
    rcases List.mem_cons.mp hb with z | z
    · subst z
      have := g2 e he
      omega
    · exact h2 b z e he
theorem minB_mem (js : List T3) (es : List Int) : ∀ (bs : List Int) (a : Int), minB js es bs a = a ∨ ∃ b ∈ bs, ∃ e ∈ es, minB js es bs a = e - b - loadJ js b e
  | [], a => .inl rfl
  | x :: r, a => by
    show minB js es r (minE js x es a) = a ∨ ∃ b ∈ x :: r, ∃ e ∈ es, minB js es r (minE js x es a) = e - b - loadJ js b e
    rcases minB_mem js es r (minE js x es a) with h | ⟨b, hb, e, he, h⟩
    · rcases minE_mem js x es a with g | ⟨e, he, g⟩
      · rw [g] at h ⊢
        exact .inl h
      · exact .inr ⟨x, List.mem_cons_self, e, he, by rw [h, g]⟩
    · exact .inr ⟨b, List.mem_cons_of_mem _ hb, e, he, h⟩
theorem mem_comesB {js : List T3} {c b : Int} : b ∈ comesB js c ↔ (b = c ∨ ∃ j ∈ js, j.1 = b) ∧ b ≤ c := by
  unfold comesB
  rw [List.mem_cons, List.mem_map]
  constructor
  · rintro (h | ⟨j, hj, e⟩)
    · exact ⟨.inl h, by omega⟩
    · obtain ⟨h1, h2⟩ := List.mem_filter.mp hj
      have := of_decide_eq_true h2
      exact ⟨.inr ⟨j, h1, e⟩, by omega⟩
  · rintro ⟨h | ⟨j, hj, e⟩, hb⟩
    · exact .inl h
    · by_cases g : b = c
      · exact .inl g
      · exact .inr ⟨j, List.mem_filter.mpr ⟨hj, decide_eq_true (by omega)⟩, e⟩
theorem mem_duesE {js : List T3} {d e : Int} : e ∈ duesE js d ↔ (e = d ∨ ∃ j ∈ js, j.2.2 = e) ∧ d ≤ e := by
  unfold duesE
  rw [List.mem_cons, List.mem_map]
  constructor
  · rintro (h | ⟨j, hj, z⟩)
    · exact ⟨.inl h, by omega⟩
    · obtain ⟨h1, h2⟩ := List.mem_filter.mp hj
      have := of_decide_eq_true h2
      exact ⟨.inr ⟨j, h1, z⟩, by omega⟩
  · rintro ⟨h | ⟨j, hj, z⟩, hb⟩
    · exact .inl h
    · by_cases g : e = d
      · exact .inl g
      · exact .inr ⟨j, List.mem_filter.mpr ⟨hj, decide_eq_true (by omega)⟩, z⟩
theorem least_le (js : List T3) (c d : Int) : leastM js c d ≤ d - c := (minB_le js _ _ _).1
theorem least_all (js : List T3) (c d : Int) : ∀ b e : Int, b ≤ c → d ≤ e → loadJ js b e + leastM js c d ≤ e - b := by
  refine room_seen fun b e hb hbc he hde => ?_
  have := (minB_le js (duesE js d) (comesB js c) (d - c)).2 b (mem_comesB.mpr ⟨hb, hbc⟩) e (mem_duesE.mpr ⟨he, hde⟩)
  unfold leastM
  omega
theorem least_nn {js : List T3} (S : Sound js) (N : NoLate js (runM js)) {c d : Int} (h : c < d) : 0 ≤ leastM js c d := by
  unfold leastM
  rcases minB_mem js (duesE js d) (comesB js c) (d - c) with g | ⟨b, hb, e, he, g⟩
  · omega
  · have h1 := (mem_comesB.mp hb).2
    have h2 := (mem_duesE.mp he).2
    have := load_le (run_ok S) N (show b ≤ e by omega)
    omega
theorem least_fits {js : List T3} (S : Sound js) (N : NoLate js (runM js)) {c d : Int} (h0 : 0 ≤ c) (h : c < d) (at_ : Nat) (hp : 0 < leastM js c d) :
    NoLate (putJ js at_ (c, leastM js c d, d)) (runM (putJ js at_ (c, leastM js c d, d))) := by
  rw [noLate_putIn S N at_ (j := (c, leastM js c d, d)) ⟨h0, by show 1 ≤ leastM js c d; omega, h⟩]
  exact fun b e h1 h2 => least_all js c d b e h1 h2
theorem least_most {js : List T3} (S : Sound js) (N : NoLate js (runM js)) {c d : Int} (h0 : 0 ≤ c) (h : c < d) (at_ : Nat) :
    ¬ NoLate (putJ js at_ (c, leastM js c d + 1, d)) (runM (putJ js at_ (c, leastM js c d + 1, d))) := by
  have nn := least_nn S N h
  rw [noLate_putIn S N at_ (j := (c, leastM js c d + 1, d)) ⟨h0, by show 1 ≤ leastM js c d + 1; omega, h⟩]
  intro z
  rcases minB_mem js (duesE js d) (comesB js c) (d - c) with g | ⟨b, hb, e, he, g⟩
  · have := z c d (Int.le_refl _) (Int.le_refl _)
    have := load_nn S c d
    unfold leastM at *
    dsimp only at *
    omega
  · have := z b e (mem_comesB.mp hb).2 (mem_duesE.mp he).2
    unfold leastM at *
    dsimp only at *
    omega
end DL
/-! lists of triples in the heap -/
namespace DL
open PySem PySem.Spec PyProof.Rows L2 Evl
abbrev St := L2.St
def tv (j : T3) : List V := [.int j.1, .int j.2.1, .int j.2.2]
abbrev AtT (H : Hp) (t : Addr) (j : T3) : Prop := H t = some (.tup (tv j))
abbrev Tps (H : Hp) : List Addr → List T3 → Prop := Paired (AtT H)
def TL (H : Hp) (p : Addr) (js : List T3) : Prop := ∃ ts : List Addr, H p = some (.lst (ts.map V.ref)) ∧ Tps H ts js
def IL (H : Hp) (p : Addr) (ns : List Int) : Prop := H p = some (.lst (ns.map V.int))
theorem Tps.mono {H H' : Hp} (e : Ex H H') : ∀ {ts : List Addr} {js : List T3}, Tps H ts js → Tps H' ts js
  | _, _, .nil => .nil
  | _, _, .cons r s => .cons (e _ _ r) (Tps.mono e s)
theorem TL.mono {H H' : Hp} {p : Addr} {js : List T3} (e : Ex H H') (h : TL H p js) : TL H' p js := by
  obtain ⟨ts, h1, h2⟩ := h
  exact ⟨ts, e _ _ h1, Tps.mono e h2⟩
theorem IL.mono {H H' : Hp} {p : Addr} {ns : List Int} (e : Ex H H') (h : IL H p ns) : IL H' p ns := e _ _ h
theorem Tps.append {H : Hp} : ∀ {ts us : List Addr} {js ks : List T3}, Tps H ts js → Tps H us ks → Tps H (ts ++ us) (js ++ ks)
  | _, _, _, _, .nil, s => s
  | _, _, _, _, .cons r t, s => .cons r (Tps.append t s)
theorem Tps.take {H : Hp} : ∀ {ts : List Addr} {js : List T3} (n : Nat), Tps H ts js → Tps H (ts.take n) (js.take n)
  | _, _, 0, _ => .nil
  | _, _, _ + 1, .nil => .nil
  | _, _, n + 1, .cons r t => .cons r (Tps.take n t)
theorem Tps.drop {H : Hp} : ∀ {ts : List Addr} {js : List T3} (n : Nat), Tps H ts js → Tps H (ts.drop n) (js.drop n)
  | _, _, 0, r => r
  | _, _, _ + 1, .nil => .nil
  | _, _, n + 1, .cons _ t => Tps.drop n t
theorem Tps.len {H : Hp} {ts : List Addr} {js : List T3} (h : Tps H ts js) : ts.length = js.length := Paired.length h
theorem Tps.get {H : Hp} : ∀ {ts : List Addr} {js : List T3} {i : Nat} {j : T3}, Tps H ts js → js[i]? = some j → ∃ t, ts[i]? = some t ∧ AtT H t j
  | _, _, _, _, .nil, e => by simp at e
  | _, _, 0, _, .cons r _, e => by
    have e' := Option.some.inj e
    subst e'
    exact ⟨_, rfl, r⟩
  | _, _, i + 1, j, .cons _ t, e => Tps.get (i := i) (j := j) t e
theorem Tps.getA {H : Hp} {ts : List Addr} {js : List T3} {i : Nat} {t : Addr} (h : Tps H ts js) (e : ts[i]? = some t) : ∃ j, js[i]? = some j ∧ AtT H t j := by
  have hi : i < js.length := by
    rw [← h.len]; exact (List.getElem?_eq_some_iff.mp e).1
  obtain ⟨u, e2, a⟩ := h.get (List.getElem?_eq_getElem hi)
  rw [e] at e2
  cases e2
  exact ⟨_, List.getElem?_eq_getElem hi, a⟩
theorem Tps.inj {H : Hp} : ∀ {ts : List Addr} {js ks : List T3}, Tps H ts js → Tps H ts ks → js = ks
  | _, _, _, .nil, .nil => rfl
  | _, _, _, .cons (a := t) r s, .cons r' s' => by
    have e : tv _ = tv _ := HO.tup.inj (Option.some.inj (r.symm.trans r'))
    rw [Tps.inj s s']
    congr 1
    unfold tv at e
    simp only [List.cons.injEq, V.int.injEq, and_true] at e
    obtain ⟨e1, e2, e3⟩ := e
    exact Prod.ext e1 (Prod.ext e2 e3)
theorem TL.nil {H : Hp} {p : Addr} (h : H p = some (.lst [])) : TL H p [] := ⟨[], h, .nil⟩
theorem TL.atI {H : Hp} {p : Addr} {js : List T3} {i : Nat} {j : T3} (h : TL H p js) (e : js[i]? = some j) : ∃ (t : Addr) (ts : List Addr), H p = some (HO.lst (ts.map V.ref)) ∧ (ts.map V.ref)[i]? = some (V.ref t) ∧ AtT H t j := by
  obtain ⟨ts, h1, h2⟩ := h
  obtain ⟨t, e1, a⟩ := h2.get e
  exact ⟨t, ts, h1, by rw [List.getElem?_map, e1]; rfl, a⟩
theorem Tps.keep {H H' : Hp} : ∀ {ts : List Addr} {js : List T3}, (∀ t xs, H t = some (.tup xs) → H' t = some (.tup xs)) → Tps H ts js → Tps H' ts js
  | _, _, _, .nil => .nil
  | _, _, k, .cons r s => .cons (k _ _ r) (Tps.keep k s)
theorem tup_upd {H : Hp} {l : Addr} {xs ys : List V} (hl : H l = some (.lst xs)) : ∀ t zs, H t = some (.tup zs) → (upd H l (.lst ys)) t = some (.tup zs) := fun t zs e => by
  rw [upd_ne (ne_of e hl (by intro q; cases q))]
  exact e
theorem TL.updL {H : Hp} {p l : Addr} {js : List T3} {xs ys : List V} (h : TL H p js) (hl : H l = some (.lst xs)) (ne : p ≠ l) : TL (L2.upd H l (HO.lst ys)) p js := by
  obtain ⟨ts, h1, h2⟩ := h
  exact ⟨ts, by rw [upd_ne ne]; exact h1, h2.keep (tup_upd hl)⟩
theorem TL.put {H : Hp} {l : Addr} {js : List T3} {ts : List Addr} {xs : List V} (hl : H l = some (.lst xs)) (h : Tps H ts js) : TL (L2.upd H l (HO.lst (ts.map V.ref))) l js :=
  ⟨ts, upd_same, h.keep (tup_upd hl)⟩
theorem TL.sq {K : PySem.W.Frag} {H : Hp} {p : Addr} {js : List T3} (h : TL H p js) : ∃ xs, SqL K H p xs ∧ xs.length = js.length := by
  obtain ⟨ts, h1, h2⟩ := h
  exact ⟨_, SqL.of h1, by rw [List.length_map, h2.len]⟩
/-- equality of lists of triples, as == tells it -/
def tD (j : T3) : PyData := .tuple [.int j.1, .int j.2.1, .int j.2.2]
theorem depth_ints0 : ∀ ns : List Int, PyData.depthAll (ns.map PyData.int) ≤ 0
  | [] => by decide
  | n :: ns => by
    have h := depth_ints0 ns
    show max (PyData.int n).depth (PyData.depthAll (ns.map PyData.int)) ≤ 0
    have h1 : (PyData.int n).depth ≤ 0 := Nat.le_refl 0
    omega
theorem dp_tup {K : PySem.W.Frag} {H : Hp} {t : Addr} {j : T3} (h : AtT H t j) : Dp K H (.ref t) (tD j) := .tup (SqT.of h) (.cons (.int _) (.cons (.int _) (.cons (.int _) .nil)))
theorem dp_all {K : PySem.W.Frag} {H : Hp} : ∀ {ts : List Addr} {js : List T3}, Tps H ts js → DpAll K H (ts.map V.ref) (js.map tD)
  | _, _, .nil => .nil
  | _, _, .cons r s => .cons (dp_tup r) (dp_all s)
theorem TL.dp {K : PySem.W.Frag} {H : Hp} {p : Addr} {js : List T3} (h : TL H p js) : Dp K H (.ref p) (.list (js.map tD)) := by
  obtain ⟨ts, h1, h2⟩ := h
  exact .lst (SqL.of h1) (dp_all h2)
theorem dp_ints {K : PySem.W.Frag} {H : Hp} : ∀ ns : List Int, DpAll K H (ns.map V.int) (ns.map PyData.int)
  | [] => .nil
  | n :: ns => .cons (.int n) (dp_ints ns)
theorem IL.dp {K : PySem.W.Frag} {H : Hp} {p : Addr} {ns : List Int} (h : IL H p ns) : Dp K H (.ref p) (.list (ns.map PyData.int)) := .lst (SqL.of h) (dp_ints ns)
theorem lay_trip : ∀ js : List T3, PyData.canLayAll0 (js.map tD) = true
  | [] => rfl
  | j :: js => by
    show (PyData.canLay0 (tD j) && PyData.canLayAll0 (js.map tD)) = true
    rw [lay_trip js]
    rfl
theorem lay_ints : ∀ ns : List Int, PyData.canLayAll0 (ns.map PyData.int) = true
  | [] => rfl
  | n :: ns => by
    show (PyData.canLay0 (.int n) && PyData.canLayAll0 (ns.map PyData.int)) = true
    rw [lay_ints ns]
    rfl
theorem dep_trip : ∀ js : List T3, PyData.depthAll (js.map tD) ≤ 2
  | [] => by decide
  | j :: js => by
    have h := dep_trip js
    show max (tD j).depth (PyData.depthAll (js.map tD)) ≤ 2
    have h1 : (tD j).depth ≤ 2 := by
      show PyData.depthAll [PyData.int j.1, PyData.int j.2.1, PyData.int j.2.2] + 1 ≤ 2
      have := depth_ints0 [j.1, j.2.1, j.2.2]
      exact Nat.succ_le_succ (Nat.le_trans this (by decide))
    omega
theorem sh_trip (js : List T3) : SeqAt.shaped (.list (js.map tD)) = true := by
  unfold SeqAt.shaped
  rw [Bool.and_eq_true]
  refine ⟨lay_trip js, decide_eq_true ?_⟩
  have := dep_trip js
  show PyData.depthAll _ + 1 ≤ 64
  omega
theorem sh_ints (ns : List Int) : SeqAt.shaped (.list (ns.map PyData.int)) = true := by
  unfold SeqAt.shaped
  rw [Bool.and_eq_true]
  refine ⟨lay_ints ns, decide_eq_true ?_⟩
  have := depth_ints ns
  show PyData.depthAll _ + 1 ≤ 64
  omega
theorem eqv_trip (js : List T3) : PyData.eqv (.list (js.map tD)) (.list (js.map tD)) = true := SeqAt.eqv_refl _ (lay_trip js)
theorem eqv_tD (j k : T3) : PyData.eqv (tD j) (tD k) = decide (j = k) := by
  obtain ⟨a, b, c⟩ := j
  obtain ⟨d, e, f⟩ := k
  show ((a == d) && ((b == e) && ((c == f) && true))) = _
  rw [Bool.eq_iff_iff]
  simp
theorem eqvAll_trip : ∀ js ks : List T3, PyData.eqvAll (js.map tD) (ks.map tD) = decide (js = ks)
  | [], [] => rfl
  | [], _ :: _ => rfl
  | _ :: _, [] => rfl
  | j :: js, k :: ks => by
    show (PyData.eqv (tD j) (tD k) && PyData.eqvAll (js.map tD) (ks.map tD)) = _
    rw [eqv_tD, eqvAll_trip js ks, Bool.eq_iff_iff]
    simp
theorem eqvAll_ints : ∀ js ks : List Int, PyData.eqvAll (js.map PyData.int) (ks.map PyData.int) = decide (js = ks)
  | [], [] => rfl
  | [], _ :: _ => rfl
  | _ :: _, [] => rfl
  | j :: js, k :: ks => by
    show ((j == k) && PyData.eqvAll (js.map PyData.int) (ks.map PyData.int)) = _
    rw [eqvAll_ints js ks, Bool.eq_iff_iff]
    simp
theorem eqv_ints (js ks : List Int) : PyData.eqv (.list (js.map PyData.int)) (.list (ks.map PyData.int)) = decide (js = ks) := eqvAll_ints js ks

/-! ### values: == and != of lists -/
section
variable {K : PySem.W.Frag} {σ : St} {H H' : Hp} {ta tb te : TE} {t' : TT} {D : Ends} {tu tz : TS} {g : TG} {p q : Addr}
theorem rv_eqT {js ks : List T3} (h : TL H p js) (h' : TL H q ks) : RV (rEqD K) (.ref p) (.ref q) H (.bl (decide (js = ks))) := fun H1 e Q k =>
  ⟨_, _, (h.mono e).dp, (h'.mono e).dp, sh_trip js, sh_trip ks, by
    show Q (.bl (PyData.eqvAll (js.map tD) (ks.map tD))) H1
    rw [eqvAll_trip]; exact k H1 (Ex.refl H1)⟩
theorem rv_neT {js ks : List T3} (h : TL H p js) (h' : TL H q ks) : RV (rNeD K) (.ref p) (.ref q) H (.bl (!decide (js = ks))) := fun H1 e Q k =>
  ⟨_, _, (h.mono e).dp, (h'.mono e).dp, sh_trip js, sh_trip ks, by
    show Q (.bl (!PyData.eqvAll (js.map tD) (ks.map tD))) H1
    rw [eqvAll_trip]; exact k H1 (Ex.refl H1)⟩
theorem rv_eqN {js ks : List Int} (h : IL H p js) (h' : IL H q ks) : RV (rEqD K) (.ref p) (.ref q) H (.bl (decide (js = ks))) := fun H1 e Q k =>
  ⟨_, _, (h.mono e).dp, (h'.mono e).dp, sh_ints js, sh_ints ks, by
    show Q (.bl (PyData.eqvAll (js.map PyData.int) (ks.map PyData.int))) H1
    rw [eqvAll_ints]; exact k H1 (Ex.refl H1)⟩
theorem rv_neN {js ks : List Int} (h : IL H p js) (h' : IL H q ks) : RV (rNeD K) (.ref p) (.ref q) H (.bl (!decide (js = ks))) := fun H1 e Q k =>
  ⟨_, _, (h.mono e).dp, (h'.mono e).dp, sh_ints js, sh_ints ks, by
    show Q (.bl (!PyData.eqvAll (js.map PyData.int) (ks.map PyData.int))) H1
    rw [eqvAll_ints]; exact k H1 (Ex.refl H1)⟩

/-! ### what is walked -/
theorem for_TL {js : List T3} (Pv : Nat → St → Hp → Prop) (h0 : Pv 0 σ H) (hl : ∀ i σ H, i ≤ js.length → Pv i σ H → TL H p js)
    (hs : ∀ i q t σ H, js[i]? = some q → AtT H t q → Pv i σ H → g (.ref t) σ H fun σ2 H2 => tu { D with nx := Pv (i + 1), ct := Pv (i + 1), bk := D.nx } σ2 H2) (hd : ∀ σ H, Pv js.length σ H → D.nx σ H) :
    ∃ W : Nat → Nat → St → Hp → Prop, (∃ m, W 0 m σ H) ∧ ∀ i m σ H, W i m σ H →
      ((Itl K p).stop i H ∧ D.nx σ H) ∨ ((Itl K p).go i H ∧ ∃ N : St → Hp → Prop, (∀ σ' H', N σ' H' → ∃ m', m' < m ∧ W (i + 1) m' σ' H') ∧ ∀ x H', (Itl K p).yld i H x H' → g x σ H' fun σ2 H2 => tu { D with nx := N, ct := N, bk := D.nx } σ2 H2) := by
  refine ⟨fun i m σ H => m = js.length - i ∧ i ≤ js.length ∧ Pv i σ H, ⟨js.length, by simp, Nat.zero_le _, h0⟩, ?_⟩
  rintro i m σ H ⟨rfl, hi, pv⟩
  have q := hl i σ H hi pv
  by_cases hlt : i < js.length
  · obtain ⟨t, ts, h1, h2, a⟩ := q.atI (List.getElem?_eq_getElem hlt)
    refine .inr ⟨⟨_, _, SqL.of h1, h2⟩, Pv (i + 1), fun σ' H' p' => ⟨js.length - (i + 1), by omega, rfl, hlt, p'⟩, fun x H' y => ?_⟩
    obtain ⟨e, y⟩ := y
    subst e
    have z := (y _ (SqL.of h1)).symm.trans h2
    cases z
    exact hs i _ t σ _ (List.getElem?_eq_getElem hlt) a pv
  · have e : i = js.length := by omega
    subst e
    obtain ⟨xs, h1, h2⟩ := q.sq (K := K)
    exact .inl ⟨⟨xs, h1, by omega⟩, hd σ H pv⟩
theorem s_forTL {js : List T3} {tl : TE} (h : Ev tl σ H (.ref p)) (hx : TL H p js) (Pv : Nat → St → Hp → Prop) (h0 : ∀ H1, Ex H H1 → Pv 0 σ H1) (hl : ∀ i σ H, i ≤ js.length → Pv i σ H → TL H p js)
    (hs : ∀ i q t σ H, js[i]? = some q → AtT H t q → Pv i σ H → g (.ref t) σ H fun σ2 H2 => tu { D with nx := Pv (i + 1), ct := Pv (i + 1), bk := D.nx } σ2 H2) (hd : ∀ σ H, Pv js.length σ H → D.nx σ H) : tFor (iList K tl) g tu D σ H :=
  h H (Ex.refl H) _ fun H1 e => ⟨p, rfl, (by obtain ⟨xs, h1, _⟩ := (hx.mono e).sq (K := K); exact ⟨xs, h1⟩), for_TL Pv (h0 H1 e) hl hs hd⟩
theorem q_forTL {js : List T3} {tl : TE} (h : Ev tl σ H (.ref p)) (hx : TL H p js) (Pv : Nat → St → Hp → Prop) (h0 : ∀ H1, Ex H H1 → Pv 0 σ H1) (hl : ∀ i σ H, i ≤ js.length → Pv i σ H → TL H p js)
    (hs : ∀ i q t σ H, js[i]? = some q → AtT H t q → Pv i σ H → g (.ref t) σ H fun σ2 H2 => tu { D with nx := Pv (i + 1), ct := Pv (i + 1), bk := tz D } σ2 H2) (hd : ∀ σ H, Pv js.length σ H → tz D σ H) : tSeq (tFor (iList K tl) g tu) tz D σ H :=
  s_forTL (D := { D with nx := tz D }) h hx Pv h0 hl hs hd
/-- a target of three names -/
theorem g_three {a b c : Nat} {t : Addr} {j : T3} {Q : St → Hp → Prop} (ht : AtT H t j) (h : Q (((σ.set a (some (.int j.1))).set b (some (.int j.2.1))).set c (some (.int j.2.2))) H) :
    gTup K 3 (gCons (gName a) (gCons (gName b) (gCons (gName c) gNil))) (.ref t) σ H Q :=
  ⟨t, tv j, rfl, SqT.of ht, rfl, _, _, rfl, _, _, rfl, _, _, rfl, rfl, h⟩

/-! ### comprehensions over a list of triples -/
theorem filter_snoc {js : List T3} {i : Nat} {q : T3} (f : T3 → Bool) (h : js[i]? = some q) : (js.take (i + 1)).filter f = (js.take i).filter f ++ if f q = true then [q] else [] := by
  rw [List.take_add_one, h, List.filter_append]
  congr 1
  show [q].filter f = _
  rw [List.filter_cons]
  rfl
theorem filter_take_le (js : List T3) (f : T3 → Bool) (i : Nat) : ((js.take i).filter f).length ≤ js.length :=
  Nat.le_trans (List.length_filter_le _ _) (by rw [List.length_take]; exact Nat.min_le_right _ _)
theorem el_lcTL {js : List T3} {tl : TE} {vs : List Nat} (f : T3 → Bool) (v : T3 → V) (s2 : T3 → Addr → St) (h : Ev tl σ H (.ref p)) (hx : TL H p js) (hz : js.length ≤ 40000)
    (hg : ∀ q t H1 (Q : St → Hp → Prop), AtT H1 t q → Q (s2 q t) H1 → g (.ref t) (wipe σ vs) H1 Q) (hw : ∀ q t, wipe (s2 q t) vs = wipe σ vs)
    (ht : ∀ q t H1, q ∈ js → Ex H H1 → AtT H1 t q → EvT t' (s2 q t) H1 (f q)) (he : ∀ q t H1, q ∈ js → Ex H H1 → AtT H1 t q → f q = true → Ev te (s2 q t) H1 (v q)) :
    EvL (tLc (iList K tl) g t' te vs) σ H ((js.filter f).map v) := fun H0 e Q k => h H0 e _ fun H1 e1 => by
  obtain ⟨ts, h1, h2⟩ := hx.mono (e.trans e1)
  refine ⟨p, rfl, ⟨_, SqL.of h1⟩, fun Dl hD => ?_⟩
  have hlen : (ts.map V.ref).length = js.length := by rw [List.length_map, h2.len]
  refine lc_list (K := K) (xs := ts.map V.ref) (fun i H' => Ex H1 H' ∧ H' Dl = some (.lst (((js.take i).filter f).map v))) ⟨Ex.new hD, upd_same⟩ (fun i H' _ p => SqL.of (p.1 _ _ h1)) (fun i x H' hi pv => ?_) fun H' pv => ?_
  · have hlt : i < js.length := by rw [← hlen]; exact (List.getElem?_eq_some_iff.mp hi).1
    obtain ⟨t, e2, a⟩ := h2.get (List.getElem?_eq_getElem hlt)
    rw [List.getElem?_map, e2] at hi
    cases hi
    obtain ⟨p1, p2⟩ := pv
    have hm : js[i] ∈ js := List.getElem_mem hlt
    have eb := (e.trans e1).trans p1
    refine hg js[i] t H' _ (p1 _ _ a) ⟨hw _ _, ?_⟩
    refine ht js[i] t H' hm eb (p1 _ _ a) H' (Ex.refl _) _ fun H3 e3 => ?_
    have hs := filter_snoc f (List.getElem?_eq_getElem hlt)
    cases hf : f js[i] with
    | true =>
      show te _ H3 _
      refine he js[i] t H3 hm (eb.trans e3) (e3 _ _ (p1 _ _ a)) hf H3 (Ex.refl _) _ fun H4 e4 => ?_
      refine ⟨_, e4 _ _ (e3 _ _ p2), sz_lt ?_, Ex.mut ((p1.trans e3).trans e4) hD, ?_⟩
      · rw [List.length_map]
        have := filter_take_le js f i
        omega
      · rw [hs, hf, if_pos rfl, List.map_append]
        exact upd_same
    | false =>
      show Ex H1 H3 ∧ _
      refine ⟨p1.trans e3, ?_⟩
      rw [hs, hf]
      show H3 Dl = some (.lst ((((js.take i).filter f) ++ []).map v))
      rw [List.append_nil]
      exact e3 _ _ p2
  · obtain ⟨p1, p2⟩ := pv
    rw [hlen, List.take_length] at p2
    exact k Dl H' (fresh_back e1 hD) (e1.trans p1) p2
/-- a new list of triples -/
def EvTL (te : TE) (σ : St) (H : Hp) (js : List T3) : Prop := ∀ H1, Ex H H1 → ∀ Q : VK, (∀ p H2, H1 p = none → Ex H1 H2 → TL H2 p js → Q (.ref p) H2) → te σ H1 Q
theorem EvTL.mono {js : List T3} (e : Ex H H') (h : EvTL te σ H js) : EvTL te σ H' js := fun H1 a Q q => h H1 (e.trans a) Q q
theorem etl_lc {js : List T3} {tl : TE} {vs : List Nat} (f : T3 → Bool) (v : T3 → T3) (s2 : T3 → Addr → St) (h : Ev tl σ H (.ref p)) (hx : TL H p js) (hz : js.length ≤ 40000)
    (hg : ∀ q t H1 (Q : St → Hp → Prop), AtT H1 t q → Q (s2 q t) H1 → g (.ref t) (wipe σ vs) H1 Q) (hw : ∀ q t, wipe (s2 q t) vs = wipe σ vs)
    (ht : ∀ q t H1, q ∈ js → Ex H H1 → AtT H1 t q → EvT t' (s2 q t) H1 (f q)) (he : ∀ q t H1, q ∈ js → Ex H H1 → AtT H1 t q → f q = true → EvU te (s2 q t) H1 (tv (v q)) ∨ (v q = q ∧ Ev te (s2 q t) H1 (.ref t))) :
    EvTL (tLc (iList K tl) g t' te vs) σ H ((js.filter f).map v) := fun H0 e Q k => h H0 e _ fun H1 e1 => by
  obtain ⟨ts, h1, h2⟩ := hx.mono (e.trans e1)
  refine ⟨p, rfl, ⟨_, SqL.of h1⟩, fun Dl hD => ?_⟩
  have hlen : (ts.map V.ref).length = js.length := by rw [List.length_map, h2.len]
  refine lc_list (K := K) (xs := ts.map V.ref) (fun i H' => Ex H1 H' ∧ ∃ us : List Addr, H' Dl = some (.lst (us.map V.ref)) ∧ Tps H' us (((js.take i).filter f).map v)) ⟨Ex.new hD, [], upd_same, .nil⟩ (fun i H' _ p => SqL.of (p.1 _ _ h1)) (fun i x H' hi pv => ?_) fun H' pv => ?_
  · have hlt : i < js.length := by rw [← hlen]; exact (List.getElem?_eq_some_iff.mp hi).1
    obtain ⟨t, e2, a⟩ := h2.get (List.getElem?_eq_getElem hlt)
    rw [List.getElem?_map, e2] at hi
    cases hi
    obtain ⟨p1, us, p2, p3⟩ := pv
    have hm : js[i] ∈ js := List.getElem_mem hlt
    have eb := (e.trans e1).trans p1
    refine hg js[i] t H' _ (p1 _ _ a) ⟨hw _ _, ?_⟩
    refine ht js[i] t H' hm eb (p1 _ _ a) H' (Ex.refl _) _ fun H3 e3 => ?_
    have hs := filter_snoc f (List.getElem?_eq_getElem hlt)
    have hul : us.length < 100000 := by
      rw [p3.len, List.length_map]
      have := filter_take_le js f i
      omega
    cases hf : f js[i] with
    | true =>
      show te _ H3 _
      have fin : ∀ (u : Addr) (H4 : Hp), Ex H3 H4 → AtT H4 u (v js[i]) → ∃ acc, H4 Dl = some (.lst acc) ∧ acc.length < sizeLine ∧ (Ex H1 (upd H4 Dl (.lst (acc ++ [V.ref u]))) ∧ ∃ us' : List Addr, (upd H4 Dl (.lst (acc ++ [V.ref u]))) Dl = some (.lst (us'.map V.ref)) ∧ Tps (upd H4 Dl (.lst (acc ++ [V.ref u]))) us' (((js.take (i + 1)).filter f).map v)) := fun u H4 e4 hu => by
        have hDl := e4 _ _ (e3 _ _ p2)
        refine ⟨_, hDl, sz_lt (by rw [List.length_map]; exact hul), Ex.mut ((p1.trans e3).trans e4) hD, us ++ [u], ?_, ?_⟩
        · rw [List.map_append]; exact upd_same
        · rw [hs, hf, if_pos rfl, List.map_append]
          exact Tps.append ((p3.mono (e3.trans e4)).keep (tup_upd hDl)) (.cons (tup_upd hDl _ _ hu) .nil)
      rcases he js[i] t H3 hm (eb.trans e3) (e3 _ _ (p1 _ _ a)) hf with z | ⟨z1, z2⟩
      · exact z H3 (Ex.refl _) _ fun u H4 _ e4 hu => fin u H4 e4 hu
      · exact z2 H3 (Ex.refl _) _ fun H4 e4 => fin t H4 e4 (by rw [z1]; exact e4 _ _ (e3 _ _ (p1 _ _ a)))
    | false =>
      show Ex H1 H3 ∧ _
      refine ⟨p1.trans e3, us, e3 _ _ p2, ?_⟩
      rw [hs, hf]
      show Tps H3 us ((((js.take i).filter f) ++ []).map v)
      rw [List.append_nil]
      exact p3.mono e3
  · obtain ⟨p1, us, p2, p3⟩ := pv
    rw [hlen, List.take_length] at p3
    exact k Dl H' (fresh_back e1 hD) (e1.trans p1) ⟨us, p2, p3⟩
theorem s_asgTL {i : Nat} {js : List T3} (h : EvTL te σ H js) (k : ∀ p H1, H p = none → Ex H H1 → TL H1 p js → D.nx (σ.set i (some (.ref p))) H1) : tAsg te (gName i) D σ H := h H (Ex.refl H) _ fun p H1 hp e h1 => k p H1 hp e h1
theorem q_asgTL {i : Nat} {js : List T3} (h : EvTL te σ H js) (k : ∀ p H1, H p = none → Ex H H1 → TL H1 p js → tz D (σ.set i (some (.ref p))) H1) : tSeq (tAsg te (gName i)) tz D σ H := s_asgTL (D := { D with nx := tz D }) h k
theorem s_retTL {js : List T3} (h : EvTL te σ H js) (k : ∀ p H1, H p = none → Ex H H1 → TL H1 p js → D.rt (.ref p) H1) : tRet te D σ H := h H (Ex.refl H) _ k
theorem etl_list {js : List T3} (ha : Ev ta σ H (.ref p)) (h : TL H p js) : EvTL (tCB (rListS K) (tCons ta tNil)) σ H js := fun H1 e Q q =>
  ha H1 e _ fun H2 e2 => by
    obtain ⟨ts, h1, h2⟩ := h.mono (e.trans e2)
    exact ⟨p, _, rfl, Or.inl (SqL.of h1), fun l hl => q l _ (fresh_back e2 hl) (e2.trans (Ex.new hl)) ⟨ts, upd_same, h2.mono (Ex.new hl)⟩⟩
end
end DL
namespace DL
open PySem PySem.Spec PyProof.Rows L2 Evl
theorem cut_take (xs : List V) (n : Nat) : cutV xs none (some (n : Int)) = xs.take n := by
  unfold cutV
  rw [HT.sIx_none, HT.sIx_nat]
  show (xs.drop 0).take (min n xs.length - 0) = _
  rw [List.drop_zero, Nat.sub_zero]
  rcases Nat.le_total n xs.length with h | h
  · rw [Nat.min_eq_left h]
  · rw [Nat.min_eq_right h, List.take_of_length_le (Nat.le_refl _), List.take_of_length_le h]
theorem cut_drop (xs : List V) (n : Nat) : cutV xs (some (n : Int)) none = xs.drop n := by
  unfold cutV
  rw [HT.sIx_none, HT.sIx_nat]
  rcases Nat.le_total n xs.length with h | h
  · rw [Nat.min_eq_left h]
    exact List.take_of_length_le (by rw [List.length_drop]; exact Nat.le_refl _)
  · rw [Nat.min_eq_right h, List.drop_of_length_le h, List.drop_of_length_le (Nat.le_refl _), List.take_nil]
theorem cut_init (xs : List V) : cutV xs none (some (-1)) = xs.dropLast := by
  unfold cutV
  rw [HT.sIx_none]
  have e : HT.sIx xs.length xs.length (some (-1)) = xs.length - 1 := by
    unfold HT.sIx
    simp
    omega
  rw [e, List.dropLast_eq_take]
  rfl
theorem t3_0 (j : T3) : atI (tv j) 0 = some (.int j.1) := atI_nat (j := 0) rfl
theorem t3_1 (j : T3) : atI (tv j) 1 = some (.int j.2.1) := atI_nat (j := 1) rfl
theorem t3_2 (j : T3) : atI (tv j) 2 = some (.int j.2.2) := atI_nat (j := 2) rfl
/-- all but the list at l is kept, tuples in any case -/
structure Mod (l : Addr) (H H1 : Hp) : Prop where
  but : ∀ a o, a ≠ l → H a = some o → H1 a = some o
  tup : ∀ t zs, H t = some (.tup zs) → H1 t = some (.tup zs)
theorem Mod.upd {l : Addr} {H : Hp} {xs ys : List V} (h : H l = some (.lst xs)) : Mod l H (L2.upd H l (.lst ys)) := ⟨fun a o ne e => by rw [upd_ne ne]; exact e, tup_upd h⟩
theorem Mod.ex {l : Addr} {H H1 : Hp} (e : Ex H H1) : Mod l H H1 := ⟨fun a o _ h => e a o h, fun t zs h => e _ _ h⟩
theorem Mod.trans {l : Addr} {H H1 H2 : Hp} (a : Mod l H H1) (b : Mod l H1 H2) : Mod l H H2 := ⟨fun c o ne h => b.but c o ne (a.but c o ne h), fun t zs h => b.tup t zs (a.tup t zs h)⟩
theorem Mod.base {l : Addr} {H0 H H1 : Hp} (m : Mod l H H1) (e : Ex H0 H) (n : H0 l = none) : Ex H0 H1 := fun a o h => m.but a o (ne_of_none h n) (e a o h)
theorem Mod.tps {l : Addr} {H H1 : Hp} (m : Mod l H H1) {ts : List Addr} {js : List T3} (h : Tps H ts js) : Tps H1 ts js := h.keep m.tup
theorem Mod.tl {l p : Addr} {H H1 : Hp} (m : Mod l H H1) {js : List T3} (h : TL H p js) (ne : p ≠ l) : TL H1 p js := by
  obtain ⟨ts, h1, h2⟩ := h
  exact ⟨ts, m.but _ _ ne h1, m.tps h2⟩
theorem Mod.il {l p : Addr} {H H1 : Hp} (m : Mod l H H1) {ns : List Int} (h : IL H p ns) (ne : p ≠ l) : IL H1 p ns := m.but _ _ ne h
section
variable {K : PySem.W.Frag} {σ : St} {H H' : Hp} {ta tb te ti : TE} {D : Ends} {tu tz : TS} {g : TG} {p q l : Addr} {js ks : List T3} {j : T3} {ns : List Int}
theorem etl_take {n : Nat} (h : Ev te σ H (.ref p)) (hi : Ev ti σ H (.int (n : Int))) (hp : TL H p js) : EvTL (tSl (rSlL K) te tNoPart (tPart ti)) σ H (js.take n) := fun H1 e Q k => by
  obtain ⟨ts, h1, h2⟩ := hp.mono e
  refine el_sl (K := K) (h.mono e) eo_none (eo_some (hi.mono e)) (SqL.of h1) H1 (Ex.refl _) Q fun d H2 hd e2 hl => k d H2 hd e2 ⟨ts.take n, ?_, (h2.mono e2).take n⟩
  rw [hl, cut_take, List.map_take]
theorem etl_drop {n : Nat} (h : Ev te σ H (.ref p)) (hi : Ev ti σ H (.int (n : Int))) (hp : TL H p js) : EvTL (tSl (rSlL K) te (tPart ti) tNoPart) σ H (js.drop n) := fun H1 e Q k => by
  obtain ⟨ts, h1, h2⟩ := hp.mono e
  refine el_sl (K := K) (h.mono e) (eo_some (hi.mono e)) eo_none (SqL.of h1) H1 (Ex.refl _) Q fun d H2 hd e2 hl => k d H2 hd e2 ⟨ts.drop n, ?_, (h2.mono e2).drop n⟩
  rw [hl, cut_drop, List.map_drop]
theorem etl_cat (ha : EvTL ta σ H js) (hb : EvTL tb σ H ks) (hz : js.length + ks.length ≤ 100000) : EvTL (tOp rCat ta tb) σ H (js ++ ks) := fun H1 e Q k =>
  ha H1 e _ fun a H2 na e2 pa => hb H2 (e.trans e2) _ fun b H3 nb e3 pb => by
    obtain ⟨ts, h1, h2⟩ := pa.mono e3
    obtain ⟨us, g1, g2⟩ := pb
    refine ⟨a, b, _, _, rfl, rfl, h1, g1, sz_of (by rw [List.length_map, List.length_map, h2.len, g2.len]; exact hz), fun d nd => k d _ (fresh_back (e2.trans e3) nd) ((e2.trans e3).trans (Ex.new nd)) ⟨ts ++ us, ?_, (h2.append g2).mono (Ex.new nd)⟩⟩
    rw [upd_same, List.map_append]
theorem etl_one (h : EvU te σ H (tv j)) : EvTL (tLst (tCons te tNil)) σ H [j] := fun H1 e Q k =>
  h H1 e _ fun t H2 nt e2 ht => ⟨sz_of (show 1 ≤ 100000 by decide), fun d nd => k d _ (fresh_back e2 nd) (e2.trans (Ex.new nd)) ⟨[t], upd_same, .cons (Ex.new nd _ _ ht) .nil⟩⟩
theorem etl_oneR {t : Addr} (h : Ev te σ H (.ref t)) (a : AtT H t j) : EvTL (tLst (tCons te tNil)) σ H [j] := fun H1 e Q k =>
  h H1 e _ fun H2 e2 => ⟨sz_of (show 1 ≤ 100000 by decide), fun d nd => k d _ (fresh_back e2 nd) (e2.trans (Ex.new nd)) ⟨[t], upd_same, .cons (Ex.new nd _ _ (e2 _ _ (e _ _ a))) .nil⟩⟩
theorem etl_nil : EvTL (tLst tNil) σ H [] := fun H1 e Q k => ⟨sz_of (by decide), fun d nd => k d _ nd (Ex.new nd) ⟨[], upd_same, .nil⟩⟩
theorem etl_is (h : EvTL te σ H js) (e : js = ks) : EvTL te σ H ks := e ▸ h
theorem eu_three {a b c : Int} (ha : Ev ta σ H (.int a)) (hb : Ev tb σ H (.int b)) (hc : Ev te σ H (.int c)) : EvU (tTup (tCons ta (tCons tb (tCons te tNil)))) σ H (tv (a, b, c)) :=
  eu_tup (ea_cons ha (ea_cons hb (ea_cons hc ea_nil))) (show 3 ≤ 100000 by decide)
theorem eu_is {xs ys : List V} (h : EvU te σ H xs) (e : xs = ys) : EvU te σ H ys := e ▸ h
theorem s_appT (hl : TL H l js) (ha : Ev ta σ H (.ref l)) (h : EvU te σ H (tv j)) (hz : js.length < 100000) (k : ∀ H1, Mod l H H1 → TL H1 l (js ++ [j]) → D.nx σ H1) :
    tDrop (tBM K "list" rAppend ta (tCons te tNil)) D σ H := by
  obtain ⟨ts, h1, h2⟩ := hl
  refine s_appU h1 ha h (by rw [List.length_map, h2.len]; exact hz) fun t H1 nt e ht => ?_
  have m : Mod l H (upd H1 l (.lst (ts.map V.ref ++ [.ref t]))) := (Mod.ex e).trans (Mod.upd (e _ _ h1))
  refine k _ m ⟨ts ++ [t], ?_, (m.tps h2).append (.cons (tup_upd (e _ _ h1) _ _ ht) .nil)⟩
  rw [upd_same, List.map_append]
  rfl
theorem q_appT (hl : TL H l js) (ha : Ev ta σ H (.ref l)) (h : EvU te σ H (tv j)) (hz : js.length < 100000) (k : ∀ H1, Mod l H H1 → TL H1 l (js ++ [j]) → tz D σ H1) :
    tSeq (tDrop (tBM K "list" rAppend ta (tCons te tNil))) tz D σ H := s_appT (D := { D with nx := tz D }) hl ha h hz k
/-- sums, leasts, greatests of new lists -/
theorem ev_sumN (h : EvL te σ H (ns.map V.int)) : Ev (tCB (rSum K) (tCons te tNil)) σ H (.int ns.sum) := fun H1 e Q k =>
  h H1 e _ fun a H2 _ e2 hl => ⟨a, ns, rfl, SqL.of hl, k H2 e2⟩
theorem ev_minN (h : EvL te σ H (ns.map V.int)) (h0 : ns ≠ []) : Ev (tCB (rMin K) (tCons te tNil)) σ H (.int (lmin ns)) := fun H1 e Q k =>
  h H1 e _ fun a H2 _ e2 hl => ⟨a, ns, rfl, SqL.of hl, List.length_pos_iff.mpr h0, fun m hm hle => by
    rw [lmin_uniq hm hle]; exact k H2 e2⟩
theorem ev_minD {d : Int} (h : EvL te σ H (ns.map V.int)) (hd : ∀ H1, Ex H H1 → Ev ti σ H1 (.int d)) : Ev (tCKw (rMinD K) (tCons te tNil) (tCons ti tNil)) σ H (.int (if ns = [] then d else lmin ns)) := fun H1 e Q k =>
  h H1 e _ fun a H2 _ e2 hl => hd H2 (e.trans e2) H2 (Ex.refl _) _ fun H3 e3 => ⟨a, ns, d, rfl, rfl, SqL.of (e3 _ _ hl), fun z => by
      have := k H3 (e2.trans e3); rw [if_pos z] at this; exact this, fun z m hm hle => by
      have := k H3 (e2.trans e3); rw [if_neg z] at this
      rw [lmin_uniq hm hle]; exact this⟩
theorem ev_allN {bs : List Bool} (h : EvL te σ H (bs.map V.bl)) : Ev (tCB (rAll K) (tCons te tNil)) σ H (.bl (bs.all id)) := fun H1 e Q k =>
  h H1 e _ fun a H2 _ e2 hl => ⟨a, bs, rfl, SqL.of hl, k H2 e2⟩
theorem ev_anyI (h : Ev te σ H (.ref p)) (hl : IL H p ns) : Ev (tCB (rAnyI K) (tCons te tNil)) σ H (.bl (ns.any fun n => n != 0)) := fun H1 e Q k =>
  h H1 e _ fun H2 e2 => ⟨p, ns, rfl, SqL.of (hl.mono (e.trans e2)), k H2 e2⟩
theorem ev_min2 {a b : Int} (ha : Ev ta σ H (.int a)) (hb : Ev tb σ H (.int b)) {r : List V → Hp → VK → Prop} (hr : ∀ H1 (Q : VK), Q (.int (if b < a then b else a)) H1 → r [.int a, .int b] H1 Q) : Ev (tCB r (tCons ta (tCons tb tNil))) σ H (.int (min a b)) := fun H1 e Q k =>
  ha H1 e _ fun H2 e2 => hb H2 (e.trans e2) _ fun H3 e3 => hr H3 Q (by
    have := k H3 (e2.trans e3)
    rw [Int.min_def] at this
    by_cases c : b < a
    · rw [if_pos c]; rw [if_neg (by omega)] at this; exact this
    · rw [if_neg c]; rw [if_pos (by omega)] at this; exact this)
theorem ev_mx2 {a b : Int} (ha : Ev ta σ H (.int a)) (hb : Ev tb σ H (.int b)) {r : List V → Hp → VK → Prop} (hr : ∀ H1 (Q : VK), Q (.int (if b > a then b else a)) H1 → r [.int a, .int b] H1 Q) : Ev (tCB r (tCons ta (tCons tb tNil))) σ H (.int (max a b)) := fun H1 e Q k =>
  ha H1 e _ fun H2 e2 => hb H2 (e.trans e2) _ fun H3 e3 => hr H3 Q (by
    have := k H3 (e2.trans e3)
    rw [Int.max_def] at this
    by_cases c : b > a
    · rw [if_pos c]; rw [if_pos (by omega)] at this; exact this
    · rw [if_neg c]
      by_cases d : a ≤ b
      · rw [if_pos d] at this; rw [show a = b by omega]; exact this
      · rw [if_neg d] at this; exact this)
/-- len of a tracked list -/
theorem ev_lenT (h : Ev te σ H (.ref p)) (hp : TL H p js) : Ev (tCB (rLenS K) (tCons te tNil)) σ H (.int (js.length : Int)) := by
  obtain ⟨ts, h1, h2⟩ := hp
  have := ev_len (K := K) h (SqL.of h1)
  rw [List.length_map, h2.len] at this
  exact this
theorem ev_lenI (h : Ev te σ H (.ref p)) (hp : IL H p ns) : Ev (tCB (rLenS K) (tCons te tNil)) σ H (.int (ns.length : Int)) := by
  have := ev_len (K := K) h (SqL.of hp)
  rw [List.length_map] at this
  exact this
theorem ev_lenU {xs : List V} (h : Ev te σ H (.ref p)) (hp : H p = some (.tup xs)) : Ev (tCB (rLenS K) (tCons te tNil)) σ H (.int (xs.length : Int)) := fun H1 e Q q =>
  h H1 e _ fun H2 e2 => ⟨p, xs, rfl, Or.inr (st_of (e2 _ _ (e _ _ hp))), q H2 e2⟩
/-- an item of a list of whole numbers -/
theorem il_at {i : Nat} (h : i < ns.length) : (ns.map V.int)[i]? = some (.int (ns.getD i 0)) := by
  rw [List.getElem?_map, List.getElem?_eq_getElem h, getD_lt h]
  rfl
theorem ev_ixI {i : Nat} (ha : Ev ta σ H (.ref p)) (hi : Ev ti σ H (.int (i : Int))) (hp : IL H p ns) (h : i < ns.length) : Ev (tOp (rIxL K) ta ti) σ H (.int (ns.getD i 0)) :=
  ev_op ha hi (rv_ixL (SqL.of hp) (atI_nat (il_at h)))
/-- a job's field by its place: jobs[i][0], .. -/
theorem ev_field {i : Nat} {z : Int} {v : V} (hj : js[i]? = some j) (ha : Ev ta σ H (.ref p)) (hi : Ev ti σ H (.int (i : Int))) (hp : TL H p js) (hz : Ev te σ H (.int z)) (hv : atI (tv j) z = some v) : Ev (tOp (rIxT K) (tOp (rIxL K) ta ti) te) σ H v := by
  obtain ⟨t, ts, h1, h2, a⟩ := hp.atI hj
  exact ev_op (ev_op ha hi (rv_ixL (SqL.of h1) (atI_nat h2))) hz (rv_ixT (SqT.of a) hv)
theorem ev_fld1 {t : Addr} {z : Int} {v : V} (ha : Ev ta σ H (.ref t)) (h : AtT H t j) (hz : Ev te σ H (.int z)) (hv : atI (tv j) z = some v) : Ev (tOp (rIxT K) ta te) σ H v := ev_op ha hz (rv_ixT (SqT.of h) hv)
/-- calls by their promise -/
theorem s_retC {sp : Sp} {dvs vs : List V} {E : XK} {ta : TA} (h : EvA ta σ H vs) (k : ∀ H1, Ex H H1 → sp (vs ++ dvs) H1 D.rt E) : tRet (tCall sp dvs E ta) D σ H := h H (Ex.refl H) _ k
theorem s_asgC {i : Nat} {sp : Sp} {dvs vs : List V} {E : XK} {ta : TA} (h : EvA ta σ H vs) (k : ∀ H1, Ex H H1 → sp (vs ++ dvs) H1 (fun x H2 => D.nx (σ.set i (some x)) H2) E) : tAsg (tCall sp dvs E ta) (gName i) D σ H := h H (Ex.refl H) _ k
theorem q_asgC {i : Nat} {sp : Sp} {dvs vs : List V} {E : XK} {ta : TA} (h : EvA ta σ H vs) (k : ∀ H1, Ex H H1 → sp (vs ++ dvs) H1 (fun x H2 => tz D (σ.set i (some x)) H2) E) : tSeq (tAsg (tCall sp dvs E ta) (gName i)) tz D σ H := h H (Ex.refl H) _ k
theorem s_dropC {sp : Sp} {dvs vs : List V} {E : XK} {ta : TA} (h : EvA ta σ H vs) (k : ∀ H1, Ex H H1 → sp (vs ++ dvs) H1 (fun _ H2 => D.nx σ H2) E) : tDrop (tCall sp dvs E ta) D σ H := h H (Ex.refl H) _ k
theorem q_dropC {sp : Sp} {dvs vs : List V} {E : XK} {ta : TA} (h : EvA ta σ H vs) (k : ∀ H1, Ex H H1 → sp (vs ++ dvs) H1 (fun _ H2 => tz D σ H2) E) : tSeq (tDrop (tCall sp dvs E ta)) tz D σ H := h H (Ex.refl H) _ k
end
end DL
namespace DL
open PySem PySem.Spec PyProof.Rows L2 Evl
section
variable {K : PySem.W.Frag} {σ : St} {H H' : Hp} {ta tb te ti : TE} {t' : TT} {D : Ends} {tu tz : TS} {g : TG} {p q l : Addr} {js ks : List T3} {j : T3} {ns : List Int}
theorem ev_type {x : V} {T : String} (h : Ev te σ H x) (ty : ∀ H1, Ex H H1 → TyB K H1 x T) : Ev (tCB (rTyp K) (tCons te tNil)) σ H (.ty T) := fun H1 e Q k =>
  h H1 e _ fun H2 e2 => ⟨x, T, rfl, ty H2 (e.trans e2), k H2 e2⟩
theorem rv_eqTy {a b : String} (ha : SmallTy a) (hb : SmallTy b) : RV rEqTy (.ty a) (.ty b) H (.bl (decide (a = b))) := fun H1 e Q k => ⟨a, b, rfl, rfl, ha, hb, k H1 (Ex.refl _)⟩
theorem rv_neTy {a b : String} (ha : SmallTy a) (hb : SmallTy b) : RV rNeTy (.ty a) (.ty b) H (.bl (!decide (a = b))) := fun H1 e Q k => ⟨a, b, rfl, rfl, ha, hb, k H1 (Ex.refl _)⟩
theorem st_int : SmallTy "int" := .inl rfl
theorem st_bool : SmallTy "bool" := .inr (.inl rfl)
theorem st_str : SmallTy "str" := .inr (.inr (.inl rfl))
theorem st_none : SmallTy "NoneType" := .inr (.inr (.inr (.inl rfl)))
theorem st_list : SmallTy "list" := .inr (.inr (.inr (.inr (.inl rfl))))
theorem st_tup : SmallTy "tuple" := .inr (.inr (.inr (.inr (.inr rfl))))
/-- isinstance(x, T), T built in -/
theorem ev_isi {x : V} {T T' : String} {b : Bool} (h : Ev te σ H x) (ty : ∀ H1, Ex H H1 → TyOf K H1 x (.type T)) (hk : PySem.W.kitOne K (.type T) (.type T') = some b) (hc : Ev tb σ H (.ty T')) : Ev (tCB (rIsi K) (tCons te (tCons tb tNil))) σ H (.bl b) := fun H1 e Q k =>
  h H1 e _ fun H2 e2 => hc H2 (e.trans e2) _ fun H3 e3 => ⟨x, .ty T', .type T, .type T', b, rfl, .ty T', .base (ty H3 ((e.trans e2).trans e3)), hk, k H3 (e2.trans e3)⟩
/-- a comprehension over a tuple, no test -/
theorem el_lcU {xs : List V} {tl : TE} {jj : Nat} {vs : List Nat} (v : V → V) (h : Ev tl σ H (.ref p)) (hx : SqT K H p xs) (hz : xs.length ≤ 40000) (hw : ∀ x, wipe ((wipe σ vs).set jj (some x)) vs = wipe σ vs)
    (he : ∀ x H1, x ∈ xs → Ex H H1 → Ev te ((wipe σ vs).set jj (some x)) H1 (v x)) : EvL (tLc (iTup K tl) (gName jj) tYes te vs) σ H (xs.map v) := fun H0 e Q k => h H0 e _ fun H1 e1 => by
  have hx1 := ex_t (e.trans e1) hx
  refine ⟨p, rfl, ⟨_, hx1⟩, fun Dl hD => ?_⟩
  refine lc_tup (K := K) (xs := xs) (fun i H' => Ex H1 H' ∧ H' Dl = some (.lst ((xs.take i).map v))) ⟨Ex.new hD, upd_same⟩ (fun i H' _ p => ex_t p.1 hx1) (fun i x H' hi pv => ?_) fun H' pv => ?_
  · obtain ⟨p1, p2⟩ := pv
    refine ⟨hw x, ?_⟩
    have hlt : i < xs.length := (List.getElem?_eq_some_iff.mp hi).1
    show te _ H' _
    refine he x H' (List.mem_of_getElem? hi) ((e.trans e1).trans p1) H' (Ex.refl _) _ fun H4 e4 => ?_
    refine ⟨_, e4 _ _ p2, sz_lt (by rw [List.length_map, List.length_take]; omega), Ex.mut (p1.trans e4) hD, ?_⟩
    rw [List.take_add_one, hi, List.map_append]
    exact upd_same
  · obtain ⟨p1, p2⟩ := pv
    rw [List.take_length] at p2
    exact k Dl H' (fresh_back e1 hD) (e1.trans p1) p2
/-- for i, x in enumerate(l) -/
theorem s_forEn {xs : List V} {tl : TE} (h : Ev tl σ H (.ref p)) (hx : SqL K H p xs) (Pv : Nat → St → Hp → Prop) (h0 : ∀ H1, Ex H H1 → Pv 0 σ H1) (hl : ∀ i σ H, i ≤ xs.length → Pv i σ H → SqL K H p xs)
    (hs : ∀ i x T σ H, xs[i]? = some x → H T = none → Pv i σ H → g (.ref T) σ (upd H T (.tup [.int (i : Int), x])) fun σ2 H2 => tu { D with nx := Pv (i + 1), ct := Pv (i + 1), bk := D.nx } σ2 H2) (hd : ∀ σ H, Pv xs.length σ H → D.nx σ H) :
    tFor (iEnum K (tCons tl tNil)) g tu D σ H := h H (Ex.refl H) _ fun H1 e => by
  refine ⟨p, xs, rfl, ex_l e hx, fun i m σ H => m = xs.length - i ∧ i ≤ xs.length ∧ Pv i σ H, ⟨xs.length, by simp, Nat.zero_le _, h0 H1 e⟩, ?_⟩
  rintro i m σ H ⟨rfl, hi, pv⟩
  have q := hl i σ H hi pv
  by_cases hlt : i < xs.length
  · refine .inr ⟨⟨xs, xs[i], q, List.getElem?_eq_getElem hlt⟩, Pv (i + 1), fun σ' H' p' => ⟨xs.length - (i + 1), by omega, rfl, hlt, p'⟩, fun v H' y => ?_⟩
    obtain ⟨T, x, rfl, nT, rfl, y⟩ := y
    exact hs i x T σ H (y _ q) nT pv
  · have e : i = xs.length := by omega
    subst e
    exact .inl ⟨⟨xs, q, Nat.le_refl _⟩, hd σ H pv⟩
theorem q_forEn {xs : List V} {tl : TE} (h : Ev tl σ H (.ref p)) (hx : SqL K H p xs) (Pv : Nat → St → Hp → Prop) (h0 : ∀ H1, Ex H H1 → Pv 0 σ H1) (hl : ∀ i σ H, i ≤ xs.length → Pv i σ H → SqL K H p xs)
    (hs : ∀ i x T σ H, xs[i]? = some x → H T = none → Pv i σ H → g (.ref T) σ (upd H T (.tup [.int (i : Int), x])) fun σ2 H2 => tu { D with nx := Pv (i + 1), ct := Pv (i + 1), bk := tz D } σ2 H2) (hd : ∀ σ H, Pv xs.length σ H → tz D σ H) :
    tSeq (tFor (iEnum K (tCons tl tNil)) g tu) tz D σ H := s_forEn (D := { D with nx := tz D }) h hx Pv h0 hl hs hd
/-- a target of two: the places of an enumerate -/
theorem g_two {a b : Nat} {T : Addr} {x y : V} {Q : St → Hp → Prop} (hT : H T = some (.tup [x, y])) (h : Q ((σ.set a (some x)).set b (some y)) H) : gTup K 2 (gCons (gName a) (gCons (gName b) gNil)) (.ref T) σ H Q :=
  ⟨T, [x, y], rfl, SqT.of hT, rfl, _, _, rfl, _, _, rfl, rfl, h⟩
/-- the place, then a job's three -/
theorem g_two3 {a b c d : Nat} {T t : Addr} {x : V} {j : T3} {Q : St → Hp → Prop} (hT : H T = some (.tup [x, .ref t])) (ht : AtT H t j) (h : Q ((((σ.set a (some x)).set b (some (.int j.1))).set c (some (.int j.2.1))).set d (some (.int j.2.2))) H) :
    gTup K 2 (gCons (gName a) (gCons (gTup K 3 (gCons (gName b) (gCons (gName c) (gCons (gName d) gNil)))) gNil)) (.ref T) σ H Q :=
  ⟨T, [x, .ref t], rfl, SqT.of hT, rfl, _, _, rfl, _, _, rfl, t, tv j, rfl, SqT.of ht, rfl, _, _, rfl, _, _, rfl, _, _, rfl, rfl, rfl, h⟩
/-- xs[i] op= e -/
theorem s_augI {f : Int → Int → Int} {i : Nat} {z : Int} (ha : Ev ta σ H (.ref l)) (hi : Ev ti σ H (.int (i : Int))) (hl : IL H l ns) (hn : i < ns.length) (he : Ev te σ H (.int z)) (k : ∀ H1, Mod l H H1 → IL H1 l (ns.set i (f (ns.getD i 0) z)) → D.nx σ H1) :
    tAugS ta ti te (rIxL K) (ipI f) rSetL D σ H := ha H (Ex.refl H) _ fun H1 e1 => hi H1 e1 _ fun H2 e2 => ⟨l, ns.map V.int, (i : Int), .int (ns.getD i 0), rfl, rfl, SqL.of ((hl.mono e1).mono e2), atI_nat (il_at hn), he H2 (e1.trans e2) _ fun H3 e3 =>
    ⟨ns.getD i 0, z, rfl, rfl, l, ns.map V.int, (i : Int), i, rfl, rfl, ((hl.mono e1).mono e2).mono e3, ixN_nat (by rw [List.length_map]; exact hn), by
      refine k _ ((Mod.ex ((e1.trans e2).trans e3)).trans (Mod.upd (((hl.mono e1).mono e2).mono e3))) ?_
      show upd H3 l _ l = _
      rw [upd_same, List.map_set]⟩⟩
theorem q_augI {f : Int → Int → Int} {i : Nat} {z : Int} (ha : Ev ta σ H (.ref l)) (hi : Ev ti σ H (.int (i : Int))) (hl : IL H l ns) (hn : i < ns.length) (he : Ev te σ H (.int z)) (k : ∀ H1, Mod l H H1 → IL H1 l (ns.set i (f (ns.getD i 0) z)) → tz D σ H1) :
    tSeq (tAugS ta ti te (rIxL K) (ipI f) rSetL) tz D σ H := s_augI (D := { D with nx := tz D }) ha hi hl hn he k
/-- xs[i] = e -/
theorem s_setI {i : Nat} {z : Int} (h : Ev te σ H (.int z)) (ha : Ev ta σ H (.ref l)) (hi : Ev ti σ H (.int (i : Int))) (hl : IL H l ns) (hn : i < ns.length) (k : ∀ H1, Mod l H H1 → IL H1 l (ns.set i z) → D.nx σ H1) :
    tAsg te (gSub ta ti rSetL) D σ H := s_setL hl h ha hi (by rw [List.length_map]; exact hn) fun H1 e1 => by
  refine k _ ((Mod.ex e1).trans (Mod.upd (hl.mono e1))) ?_
  show upd H1 l _ l = _
  rw [upd_same, List.map_set]
theorem q_setI {i : Nat} {z : Int} (h : Ev te σ H (.int z)) (ha : Ev ta σ H (.ref l)) (hi : Ev ti σ H (.int (i : Int))) (hl : IL H l ns) (hn : i < ns.length) (k : ∀ H1, Mod l H H1 → IL H1 l (ns.set i z) → tz D σ H1) :
    tSeq (tAsg te (gSub ta ti rSetL)) tz D σ H := s_setI (D := { D with nx := tz D }) h ha hi hl hn k
/-- the lengths of the jobs, and the like: a list of whole numbers, one a job -/
theorem el_ints {js : List T3} {tl : TE} {vs : List Nat} (f : T3 → Bool) (v : T3 → Int) (s2 : T3 → Addr → St) (h : Ev tl σ H (.ref p)) (hx : TL H p js) (hz : js.length ≤ 40000)
    (hg : ∀ q t H1 (Q : St → Hp → Prop), AtT H1 t q → Q (s2 q t) H1 → g (.ref t) (wipe σ vs) H1 Q) (hw : ∀ q t, wipe (s2 q t) vs = wipe σ vs)
    (ht : ∀ q t H1, q ∈ js → Ex H H1 → AtT H1 t q → EvT t' (s2 q t) H1 (f q)) (he : ∀ q t H1, q ∈ js → Ex H H1 → AtT H1 t q → f q = true → Ev te (s2 q t) H1 (.int (v q))) :
    EvL (tLc (iList K tl) g t' te vs) σ H (((js.filter f).map v).map V.int) := by
  have := el_lcTL (K := K) (te := te) f (fun q => .int (v q)) s2 h hx hz hg hw ht he
  rw [List.map_map]
  exact this
theorem evt_yes : EvT tYes σ H true := fun H1 _ _ q => q H1 (Ex.refl H1)
theorem filter_yes (js : List T3) : js.filter (fun _ => true) = js := List.filter_eq_self.mpr fun _ _ => rfl
/-- [0] * n -/
theorem rep_one (n : Nat) (x : V) : (List.replicate n [x]).flatten = List.replicate n x := by
  induction n with
  | zero => rfl
  | succ n ih => rw [List.replicate_succ, List.flatten_cons, ih]; rfl
theorem el_rep {n : Nat} {x : V} (hx : Ev te σ H x) (hn : Ev ti σ H (.int (n : Int))) (hz : n ≤ 100000) : EvL (tOp rRep (tLst (tCons te tNil)) ti) σ H (List.replicate n x) := fun H1 e Q k =>
  hx H1 e _ fun H2 e2 => ⟨sz_of (show 1 ≤ 100000 by decide), fun a na => hn _ ((e.trans e2).trans (Ex.new na)) _ fun H3 e3 => by
    refine ⟨a, (n : Int), [x], rfl, rfl, e3 _ _ upd_same, by omega, by omega, ?_, fun d nd => k d _ (fresh_back ((e2.trans (Ex.new na)).trans e3) nd) (((e2.trans (Ex.new na)).trans e3).trans (Ex.new nd)) ?_⟩
    · show 1 * (n : Int).toNat ≤ sizeLine
      rw [Int.toNat_natCast, Nat.one_mul]
      exact sz_of hz
    · rw [upd_same, Int.toNat_natCast, rep_one]⟩
theorem s_asgG {v : V} (h : Ev te σ H v) (k : ∀ H1, Ex H H1 → g v σ H1 D.nx) : tAsg te g D σ H := h H (Ex.refl H) _ k
theorem q_asgG {v : V} (h : Ev te σ H v) (k : ∀ H1, Ex H H1 → g v σ H1 (tz D)) : tSeq (tAsg te g) tz D σ H := h H (Ex.refl H) _ k
theorem rv_isN {x : V} : RV (fun x y H Q => y = .non ∧ Q (.bl (decide (x = .non))) H) x .non H (.bl (decide (x = .non))) := fun H1 _ Q k => ⟨rfl, k H1 (Ex.refl _)⟩
theorem rv_notN {x : V} : RV (fun x y H Q => y = .non ∧ Q (.bl (!decide (x = .non))) H) x .non H (.bl (!decide (x = .non))) := fun H1 _ Q k => ⟨rfl, k H1 (Ex.refl _)⟩
theorem ev_chain {r r' : R2} {tc : TE} {x y z : V} {a b : Bool} (ha : Ev ta σ H x) (hb : Ev tb σ H y) (hr : RV r x y H (.bl a)) (hc : a = true → Ev tc σ H z) (hr' : a = true → RV r' y z H (.bl b)) : Ev (tChain r r' ta tb tc) σ H (.bl (a && b)) := fun H1 e Q k =>
  ha H1 e _ fun H2 e2 => hb H2 (e.trans e2) _ fun H3 e3 => hr H3 ((e.trans e2).trans e3) _ fun H4 e4 => ⟨a, rfl, by
    have e14 := (e2.trans e3).trans e4
    cases a with
    | true =>
      show tc σ H4 _
      exact hc rfl H4 (e.trans e14) _ fun H5 e5 => hr' rfl H5 ((e.trans e14).trans e5) Q fun H6 e6 => k H6 ((e14.trans e5).trans e6)
    | false =>
      show Q (.bl false) H4
      exact k H4 e14⟩
theorem ev_chain3 {r r' r'' : R2} {tc td : TE} {x y z u : V} {a b c : Bool} (ha : Ev ta σ H x) (hb : Ev tb σ H y) (hr : RV r x y H (.bl a)) (hc : Ev tc σ H z) (hr' : RV r' y z H (.bl b)) (hd : Ev td σ H u) (hr'' : RV r'' z u H (.bl c)) : Ev (tChain3 r r' r'' ta tb tc td) σ H (.bl (a && (b && c))) := fun H1 e Q k =>
  ha H1 e _ fun H2 e2 => hb H2 (e.trans e2) _ fun H3 e3 => hr H3 ((e.trans e2).trans e3) _ fun H4 e4 => ⟨a, rfl, by
    have e14 := (e2.trans e3).trans e4
    cases a with
    | true =>
      show tc σ H4 _
      refine hc H4 (e.trans e14) _ fun H5 e5 => hr' H5 ((e.trans e14).trans e5) _ fun H6 e6 => ⟨b, rfl, ?_⟩
      have e16 := (e14.trans e5).trans e6
      cases b with
      | true =>
        show td σ H6 _
        exact hd H6 (e.trans e16) _ fun H7 e7 => hr'' H7 ((e.trans e16).trans e7) Q fun H8 e8 => k H8 ((e16.trans e7).trans e8)
      | false =>
        show Q (.bl false) H6
        exact k H6 e16
    | false =>
      show Q (.bl false) H4
      exact k H4 e14⟩
theorem et_truL {js : List T3} (h : Ev te σ H (.ref p)) (hp : TL H p js) : EvT (fun σ H Q => te σ H fun x H' => ∃ k, TruV K x H' k ∧ Q k H') σ H (!js.isEmpty) := fun H1 e Q k =>
  h H1 e _ fun H2 e2 => by
    obtain ⟨ts, h1, h2⟩ := hp.mono (e.trans e2)
    refine ⟨!js.isEmpty, .inl ⟨_, SqL.of h1, ?_⟩, k H2 e2⟩
    cases h2 with
    | nil => rfl
    | cons _ _ => rfl
end
end DL
namespace DL
open PySem PySem.Spec PyProof.Rows L2 Evl
section
variable {K : PySem.W.Frag} {σ : St} {H H' : Hp} {ta tb te ti : TE} {t' : TT} {D : Ends} {tu tz : TS} {g : TG} {p q l : Addr} {js ks : List T3} {j : T3} {ns : List Int}
/-! ### lists of whole numbers -/
theorem s_appI {z : Int} (hl : IL H l ns) (ha : Ev ta σ H (.ref l)) (h : Ev te σ H (.int z)) (hz : ns.length < 100000) (k : ∀ H1, Mod l H H1 → IL H1 l (ns ++ [z]) → D.nx σ H1) :
    tDrop (tBM K "list" rAppend ta (tCons te tNil)) D σ H := s_app hl ha h (by rw [List.length_map]; exact hz) fun H1 e => by
  refine k _ ((Mod.ex e).trans (Mod.upd (hl.mono e))) ?_
  show upd H1 l _ l = _
  rw [upd_same, List.map_append]
  rfl
theorem q_appI {z : Int} (hl : IL H l ns) (ha : Ev ta σ H (.ref l)) (h : Ev te σ H (.int z)) (hz : ns.length < 100000) (k : ∀ H1, Mod l H H1 → IL H1 l (ns ++ [z]) → tz D σ H1) :
    tSeq (tDrop (tBM K "list" rAppend ta (tCons te tNil))) tz D σ H := s_appI (D := { D with nx := tz D }) hl ha h hz k
theorem el_listI (ha : Ev ta σ H (.ref p)) (h : IL H p ns) : EvL (tCB (rListS K) (tCons ta tNil)) σ H (ns.map V.int) := el_list ha (SqL.of h)
theorem et_truI (h : Ev te σ H (.ref p)) (hp : IL H p ns) : EvT (fun σ H Q => te σ H fun x H' => ∃ k, TruV K x H' k ∧ Q k H') σ H (!ns.isEmpty) := fun H1 e Q k =>
  h H1 e _ fun H2 e2 => ⟨!ns.isEmpty, .inl ⟨_, SqL.of (hp.mono (e.trans e2)), by cases ns <;> rfl⟩, k H2 e2⟩
theorem inV_int (x : Int) : ∀ ns : List Int, inV (.int x) (ns.map V.int) = decide (x ∈ ns)
  | [] => rfl
  | n :: ns => by
    show ((n == x) || inV (.int x) (ns.map V.int)) = _
    rw [inV_int x ns, Bool.eq_iff_iff, Bool.or_eq_true, beq_iff_eq, decide_eq_true_iff, decide_eq_true_iff, List.mem_cons]
    exact or_congr_left ⟨fun e => e.symm, fun e => e.symm⟩
theorem flat_ints : ∀ ns : List Int, (ns.map V.int).all flatV = true
  | [] => rfl
  | n :: ns => flat_ints ns
theorem rv_niI {x : Int} (hp : IL H p ns) : RV (rIn K true) (.int x) (.ref p) H (.bl (!decide (x ∈ ns))) := by
  have := rv_niL (K := K) (x := .int x) (SqL.of hp) rfl (flat_ints ns)
  rw [inV_int] at this
  exact this
theorem rv_isI {x : Int} (hp : IL H p ns) : RV (rIn K false) (.int x) (.ref p) H (.bl (decide (x ∈ ns))) := by
  have := rv_isL (K := K) (x := .int x) (SqL.of hp) rfl (flat_ints ns)
  rw [inV_int] at this
  exact this
theorem s_forIL {tl : TE} {jj : Nat} (h : Ev tl σ H (.ref p)) (hx : IL H p ns) (Pv : Nat → St → Hp → Prop) (h0 : ∀ H1, Ex H H1 → Pv 0 σ H1) (hl : ∀ i σ' H', i ≤ ns.length → Pv i σ' H' → IL H' p ns)
    (hs : ∀ i x σ' H', ns[i]? = some x → Pv i σ' H' → tu { D with nx := Pv (i + 1), ct := Pv (i + 1), bk := D.nx } (σ'.set jj (some (.int x))) H') (hd : ∀ σ' H', Pv ns.length σ' H' → D.nx σ' H') : tFor (iList K tl) (gName jj) tu D σ H :=
  s_forLn h (SqL.of hx) Pv h0 (fun i σ' H' hi pv => SqL.of (hl i σ' H' (by rw [List.length_map] at hi; exact hi) pv)) (fun i x σ' H' hi pv => by
    rw [List.getElem?_map] at hi
    obtain ⟨y, hy, rfl⟩ := Option.map_eq_some_iff.mp hi
    exact hs i y σ' H' hy pv) fun σ' H' pv => hd σ' H' (by rw [List.length_map] at pv; exact pv)
theorem q_forIL {tl : TE} {jj : Nat} (h : Ev tl σ H (.ref p)) (hx : IL H p ns) (Pv : Nat → St → Hp → Prop) (h0 : ∀ H1, Ex H H1 → Pv 0 σ H1) (hl : ∀ i σ' H', i ≤ ns.length → Pv i σ' H' → IL H' p ns)
    (hs : ∀ i x σ' H', ns[i]? = some x → Pv i σ' H' → tu { D with nx := Pv (i + 1), ct := Pv (i + 1), bk := tz D } (σ'.set jj (some (.int x))) H') (hd : ∀ σ' H', Pv ns.length σ' H' → tz D σ' H') : tSeq (tFor (iList K tl) (gName jj) tu) tz D σ H :=
  s_forIL (D := { D with nx := tz D }) h hx Pv h0 hl hs hd
/-- [k for k in range(n) if ..] -/
theorem el_range {ta : TA} {jj : Nat} {vs : List Nat} {n : Nat} (f : Nat → Bool) (h : EvA ta σ H [.int (n : Int)]) (hn : n ≤ 40000) (hw : ∀ x, wipe ((wipe σ vs).set jj (some x)) vs = wipe σ vs)
    (ht : ∀ (i : Nat) H1, Ex H H1 → i < n → EvT t' ((wipe σ vs).set jj (some (.int (i : Int)))) H1 (f i)) (hj : ((wipe σ vs).set jj (some (.int 0)))[jj]? = some (some (.int 0))) :
    EvL (tLc (iRng1 ta) (gName jj) t' (tVar jj) vs) σ H ((((List.range n).filter f).map fun (i : Nat) => (i : Int)).map V.int) := by
  have hlen : jj < (wipe σ vs).length := by
    have := (List.getElem?_eq_some_iff.mp hj).1
    rw [List.length_set] at this
    exact this
  have := el_lcR1 (n := (n : Int)) f (fun i => V.int (i : Int)) h (by omega) hw (fun i H1 e hi => ht i H1 e (by omega)) (fun i H1 e hi _ => ev_var (by rw [List.getElem?_set_self hlen]))
  rw [Int.toNat_natCast] at this
  unfold given at this
  rw [List.map_map]
  exact this
/-- over a new list of triples -/
theorem s_forNTL {tl : TE} (h : EvTL tl σ H js) (Pv : Addr → Nat → St → Hp → Prop) (h0 : ∀ p H1, H p = none → Ex H H1 → TL H1 p js → Pv p 0 σ H1) (hl : ∀ p i σ H, i ≤ js.length → Pv p i σ H → TL H p js)
    (hs : ∀ p i q t σ H, js[i]? = some q → AtT H t q → Pv p i σ H → g (.ref t) σ H fun σ2 H2 => tu { D with nx := Pv p (i + 1), ct := Pv p (i + 1), bk := D.nx } σ2 H2) (hd : ∀ p σ H, Pv p js.length σ H → D.nx σ H) : tFor (iList K tl) g tu D σ H :=
  h H (Ex.refl H) _ fun p H1 hp e h1 => ⟨p, rfl, (by obtain ⟨xs, h2, _⟩ := h1.sq (K := K); exact ⟨xs, h2⟩), for_TL (Pv p) (h0 p H1 hp e h1) (hl p) (hs p) (hd p)⟩
theorem q_forNTL {tl : TE} (h : EvTL tl σ H js) (Pv : Addr → Nat → St → Hp → Prop) (h0 : ∀ p H1, H p = none → Ex H H1 → TL H1 p js → Pv p 0 σ H1) (hl : ∀ p i σ H, i ≤ js.length → Pv p i σ H → TL H p js)
    (hs : ∀ p i q t σ H, js[i]? = some q → AtT H t q → Pv p i σ H → g (.ref t) σ H fun σ2 H2 => tu { D with nx := Pv p (i + 1), ct := Pv p (i + 1), bk := tz D } σ2 H2) (hd : ∀ p σ H, Pv p js.length σ H → tz D σ H) : tSeq (tFor (iList K tl) g tu) tz D σ H :=
  s_forNTL (D := { D with nx := tz D }) h Pv h0 hl hs hd
/-- the second operand a new list of triples -/
theorem ev_opT {r : R2} {x z : V} (ha : Ev ta σ H x) (hb : EvTL tb σ H js) (hr : ∀ p H1, TL H1 p js → Ex H H1 → RV r x (.ref p) H1 z) : Ev (tOp r ta tb) σ H z := fun H1 e Q k =>
  ha H1 e _ fun H2 e2 => hb H2 (e.trans e2) _ fun p H3 _ e3 hp => hr p H3 hp ((e.trans e2).trans e3) H3 (Ex.refl H3) Q fun H4 e4 => k H4 ((e2.trans e3).trans e4)
/-- for a, b in zip(xs[:-1], xs[1:]): each item and the next -/
theorem s_forNext {xs : List V} {tl : TE} (h : Ev tl σ H (.ref p)) (hx : SqL K H p xs) (Pv : Hp → Nat → St → Hp → Prop) (h0 : ∀ B, Ex H B → Pv B 0 σ B) (hq : ∀ B i σ H', Pv B i σ H' → Ex B H')
    (hs : ∀ B i x y T σ H', Ex H B → xs[i]? = some x → xs[i + 1]? = some y → Pv B i σ H' → H' T = none → g (.ref T) σ (upd H' T (.tup [x, y])) fun σ2 H2 => tu { D with nx := Pv B (i + 1), ct := Pv B (i + 1), bk := D.nx } σ2 H2)
    (hd : ∀ B σ H', Ex H B → Pv B (xs.length - 1) σ H' → D.nx σ H') :
    tFor (iZip K (tCons (tSl (rSlL K) tl tNoPart (tPart (tUn (rU fun i => .int (-i)) (tC (.int 1))))) (tCons (tSl (rSlL K) tl (tPart (tC (.int 1))) tNoPart) tNil))) g tu D σ H := by
  refine el_sl (K := K) h eo_none (eo_some (ev_un ev_c ru_neg)) hx H (Ex.refl _) _ fun c H1 _ e1 hc => ?_
  refine el_sl (K := K) h (eo_some ev_c) eo_none hx H1 e1 _ fun d H2 _ e2 hd2 => ?_
  have hc2 := e2 _ _ hc
  rw [cut_init] at hc2
  rw [show cutV xs (some 1) none = xs.drop 1 from cut_drop xs 1] at hd2
  refine ⟨c, d, _, _, rfl, SqL.of hc2, SqL.of hd2, RZ.for_zipL (K := K) (by rw [List.length_dropLast, List.length_drop]) (Pv H2) (h0 H2 (e1.trans e2)) (fun i σ H' pv => ⟨SqL.of (hq _ _ _ _ pv _ _ hc2), SqL.of (hq _ _ _ _ pv _ _ hd2)⟩) (fun i x y T σ H' hi hy pv nT => ?_) fun σ H' pv => ?_⟩
  · have hx1 : xs[i]? = some x := by
      have hlt := (List.getElem?_eq_some_iff.mp hi).1
      rw [List.dropLast_eq_take, List.getElem?_take] at hi
      rw [List.length_dropLast] at hlt
      rw [if_pos hlt] at hi
      exact hi
    have hy1 : xs[i + 1]? = some y := by
      rw [List.getElem?_drop, Nat.add_comm] at hy
      exact hy
    exact hs H2 i x y T σ H' (e1.trans e2) hx1 hy1 pv nT
  · rw [List.length_dropLast] at pv
    exact hd H2 σ H' (e1.trans e2) pv
theorem q_forNext {xs : List V} {tl : TE} (h : Ev tl σ H (.ref p)) (hx : SqL K H p xs) (Pv : Hp → Nat → St → Hp → Prop) (h0 : ∀ B, Ex H B → Pv B 0 σ B) (hq : ∀ B i σ H', Pv B i σ H' → Ex B H')
    (hs : ∀ B i x y T σ H', Ex H B → xs[i]? = some x → xs[i + 1]? = some y → Pv B i σ H' → H' T = none → g (.ref T) σ (upd H' T (.tup [x, y])) fun σ2 H2 => tu { D with nx := Pv B (i + 1), ct := Pv B (i + 1), bk := tz D } σ2 H2)
    (hd : ∀ B σ H', Ex H B → Pv B (xs.length - 1) σ H' → tz D σ H') :
    tSeq (tFor (iZip K (tCons (tSl (rSlL K) tl tNoPart (tPart (tUn (rU fun i => .int (-i)) (tC (.int 1))))) (tCons (tSl (rSlL K) tl (tPart (tC (.int 1))) tNoPart) tNil))) g tu) tz D σ H :=
  s_forNext (D := { D with nx := tz D }) h hx Pv h0 hq hs hd
/-- a number a triple, no test -/
theorem el_intsA {tl : TE} {vs : List Nat} (v : T3 → Int) (s2 : T3 → Addr → St) (h : Ev tl σ H (.ref p)) (hx : TL H p js) (hz : js.length ≤ 40000)
    (hg : ∀ q t H1 (Q : St → Hp → Prop), AtT H1 t q → Q (s2 q t) H1 → g (.ref t) (wipe σ vs) H1 Q) (hw : ∀ q t, wipe (s2 q t) vs = wipe σ vs)
    (he : ∀ q t H1, q ∈ js → Ex H H1 → AtT H1 t q → Ev te (s2 q t) H1 (.int (v q))) : EvL (tLc (iList K tl) g tYes te vs) σ H ((js.map v).map V.int) := by
  have := el_ints (K := K) (te := te) (fun _ => true) v s2 h hx hz hg hw (fun _ _ _ _ _ _ => evt_yes) fun q t H1 hq e ha _ => he q t H1 hq e ha
  rw [filter_yes] at this
  exact this
end
end DL
namespace DL
open PySem PySem.Spec PyProof.Rows L2 Evl
/-! ### lists of pairs, sorted -/
abbrev AtP (H : Hp) (t : Addr) (z : Int × Int) : Prop := H t = some (.tup [.int z.1, .int z.2])
abbrev Prs (H : Hp) : List Addr → List (Int × Int) → Prop := Paired (AtP H)
def PL (H : Hp) (p : Addr) (zs : List (Int × Int)) : Prop := ∃ ts : List Addr, H p = some (.lst (ts.map V.ref)) ∧ Prs H ts zs
theorem Prs.mono {H H' : Hp} (e : Ex H H') : ∀ {ts : List Addr} {zs : List (Int × Int)}, Prs H ts zs → Prs H' ts zs
  | _, _, .nil => .nil
  | _, _, .cons r s => .cons (e _ _ r) (Prs.mono e s)
theorem Prs.keep {H H' : Hp} : ∀ {ts : List Addr} {zs : List (Int × Int)}, (∀ t xs, H t = some (.tup xs) → H' t = some (.tup xs)) → Prs H ts zs → Prs H' ts zs
  | _, _, _, .nil => .nil
  | _, _, k, .cons r s => .cons (k _ _ r) (Prs.keep k s)
theorem Prs.append {H : Hp} : ∀ {ts us : List Addr} {zs ys : List (Int × Int)}, Prs H ts zs → Prs H us ys → Prs H (ts ++ us) (zs ++ ys)
  | _, _, _, _, .nil, s => s
  | _, _, _, _, .cons r t, s => .cons r (Prs.append t s)
theorem Prs.len {H : Hp} {ts : List Addr} {zs : List (Int × Int)} (h : Prs H ts zs) : ts.length = zs.length := Paired.length h
theorem PL.mono {H H' : Hp} {p : Addr} {zs : List (Int × Int)} (e : Ex H H') (h : PL H p zs) : PL H' p zs := by
  obtain ⟨ts, h1, h2⟩ := h
  exact ⟨ts, e _ _ h1, h2.mono e⟩
/-- the pair that stands at an address -/
def keyOf (H : Hp) : V → Int × Int
  | .ref t => match H t with
    | some (.tup [.int a, .int b]) => (a, b)
    | _ => (0, 0)
  | _ => (0, 0)
theorem keyOf_at {H : Hp} {t : Addr} {z : Int × Int} (h : AtP H t z) : keyOf H (.ref t) = z := by
  show (match H t with
    | some (.tup [.int a, .int b]) => (a, b)
    | _ => (0, 0)) = z
  rw [show H t = some (.tup [.int z.1, .int z.2]) from h]
theorem keys_of {H : Hp} : ∀ {ts : List Addr} {zs : List (Int × Int)}, Prs H ts zs → (ts.map V.ref).map (keyOf H) = zs
  | _, _, .nil => rfl
  | _, _, .cons r s => by
    rw [List.map_cons, List.map_cons, keyOf_at r, keys_of s]
theorem prs_keys {H : Hp} : ∀ {ts : List Addr}, (∀ t ∈ ts, ∃ z, AtP H t z) → Prs H ts ((ts.map V.ref).map (keyOf H))
  | [], _ => .nil
  | t :: ts, h => by
    obtain ⟨z, hz⟩ := h t List.mem_cons_self
    have ih := prs_keys (ts := ts) fun u hu => h u (List.mem_cons_of_mem _ hu)
    rw [List.map_cons, List.map_cons, keyOf_at hz]
    exact .cons hz ih
def lexLe (a b : Int × Int) : Prop := a.1 < b.1 ∨ (a.1 = b.1 ∧ a.2 ≤ b.2)
section
variable {K : PySem.W.Frag} {σ : St} {H H' : Hp} {ta tb te ti : TE} {t' : TT} {D : Ends} {tu tz : TS} {g : TG} {p q l : Addr} {js ks : List T3} {j : T3} {ns ms : List Int} {zs : List (Int × Int)}
theorem s_appP {z : Int × Int} (hl : PL H l zs) (ha : Ev ta σ H (.ref l)) (h : EvU te σ H [.int z.1, .int z.2]) (hz : zs.length < 100000) (k : ∀ H1, Mod l H H1 → PL H1 l (zs ++ [z]) → D.nx σ H1) :
    tDrop (tBM K "list" rAppend ta (tCons te tNil)) D σ H := by
  obtain ⟨ts, h1, h2⟩ := hl
  refine s_appU h1 ha h (by rw [List.length_map, h2.len]; exact hz) fun t H1 nt e ht => ?_
  have m : Mod l H (upd H1 l (.lst (ts.map V.ref ++ [.ref t]))) := (Mod.ex e).trans (Mod.upd (e _ _ h1))
  refine k _ m ⟨ts ++ [t], ?_, (Prs.keep m.tup h2).append (.cons (tup_upd (e _ _ h1) _ _ ht) .nil)⟩
  rw [upd_same, List.map_append]
  rfl
theorem eu_two {a b : Int} (ha : Ev ta σ H (.int a)) (hb : Ev tb σ H (.int b)) : EvU (tTup (tCons ta (tCons tb tNil))) σ H [.int a, .int b] :=
  eu_tup (ea_cons ha (ea_cons hb ea_nil)) (show 2 ≤ 100000 by decide)
/-- a new list of pairs -/
def EvPL (te : TE) (σ : St) (H : Hp) (P : List (Int × Int) → Prop) : Prop := ∀ H1, Ex H H1 → ∀ Q : VK, (∀ p H2 zs, H1 p = none → Ex H1 H2 → PL H2 p zs → P zs → Q (.ref p) H2) → te σ H1 Q
theorem epl_sorted (h : Ev te σ H (.ref p)) (hp : PL H p zs) : EvPL (tCB (rSortedPO K) (tCons te tNil)) σ H (fun ys => ys.Perm zs ∧ ys.Pairwise lexLe) := fun H1 e Q k =>
  h H1 e _ fun H2 e2 => by
    obtain ⟨ts, h1, h2⟩ := hp.mono (e.trans e2)
    have hk := keys_of h2
    refine ⟨p, ts.map V.ref, keyOf H2, rfl, SqL.of h1, fun x hx => ?_, fun ys d hs hb hd => ?_⟩
    · obtain ⟨t, ht, rfl⟩ := List.mem_map.mp hx
      obtain ⟨i, hi, e3⟩ := List.getElem_of_mem ht
      have : ∀ {ts : List Addr} {zs : List (Int × Int)}, Prs H2 ts zs → ∀ t ∈ ts, ∃ z, AtP H2 t z := fun {ts zs} hp => by
        induction hp with
        | nil => intro t ht; simp at ht
        | cons r s ih =>
          intro t ht
          rcases List.mem_cons.mp ht with z | z
          · subst z; exact ⟨_, r⟩
          · exact ih t z
      obtain ⟨z, hz⟩ := this h2 t ht
      exact ⟨t, rfl, by rw [keyOf_at hz]; exact hz⟩
    · have hper : ys.Perm (ts.map V.ref) := hb.perm
      have hsub : ∀ y ∈ ys, ∃ t ∈ ts, y = V.ref t := fun y hy => by
        obtain ⟨t, ht, e4⟩ := List.mem_map.mp (hper.mem_iff.mp hy)
        exact ⟨t, ht, e4.symm⟩
      obtain ⟨us, rfl⟩ : ∃ us : List Addr, ys = us.map V.ref := by
        clear hs hb hper hd
        induction ys with
        | nil => exact ⟨[], rfl⟩
        | cons y ys ih =>
          obtain ⟨t, _, rfl⟩ := hsub y List.mem_cons_self
          obtain ⟨us, hu⟩ := ih fun z hz => hsub z (List.mem_cons_of_mem _ hz)
          exact ⟨t :: us, by rw [hu]; rfl⟩
      have hall : ∀ t ∈ us, ∃ z, AtP H2 t z := fun t ht => by
        obtain ⟨u, hu, e5⟩ := hsub (.ref t) (List.mem_map.mpr ⟨t, ht, rfl⟩)
        cases e5
        have : ∀ {ts : List Addr} {zs : List (Int × Int)}, Prs H2 ts zs → ∀ t ∈ ts, ∃ z, AtP H2 t z := fun {ts zs} hp => by
          induction hp with
          | nil => intro t ht; simp at ht
          | cons r s ih =>
            intro t ht
            rcases List.mem_cons.mp ht with z | z
            · subst z; exact ⟨_, r⟩
            · exact ih t z
        exact this h2 t hu
      refine k d _ ((us.map V.ref).map (keyOf H2)) (fresh_back e2 hd) (e2.trans (Ex.new hd)) ⟨us, upd_same, (prs_keys hall).mono (Ex.new hd)⟩ ⟨?_, ?_⟩
      · rw [← hk]
        exact hper.map _
      · refine List.pairwise_map.mpr (List.Pairwise.imp ?_ hs)
        intro a b hab
        have := SrtO.lexB_no.mp hab
        unfold lexLe
        omega
/-- [row[1] for row in ..] over a new list of pairs -/
theorem epl_seconds {P : List (Int × Int) → Prop} {tl : TE} {jj : Nat} {vs : List Nat} (h : EvPL tl σ H P) (hz : ∀ ys, P ys → ys.length ≤ 40000) (hw : ∀ x, wipe ((wipe σ vs).set jj (some x)) vs = wipe σ vs)
    (hj : ∀ x, ((wipe σ vs).set jj (some x))[jj]? = some (some x)) :
    ∀ H1, Ex H H1 → ∀ Q : VK, (∀ p H2 zs, H1 p = none → Ex H1 H2 → IL H2 p (zs.map (·.2)) → P zs → Q (.ref p) H2) → (tLc (iList K tl) (gName jj) tYes (tOp (rIxT K) (tVar jj) (tC (.int 1))) vs) σ H1 Q := fun H1 e Q k => by
  refine h H1 e _ fun a H2 zs na e2 hp hP => ?_
  obtain ⟨ts, h1, h2⟩ := hp
  refine ⟨a, rfl, ⟨_, SqL.of h1⟩, fun Dl hD => ?_⟩
  have hlen : (ts.map V.ref).length = zs.length := by rw [List.length_map, h2.len]
  have hzl := hz _ hP
  refine lc_list (K := K) (xs := ts.map V.ref) (fun i H' => Ex H2 H' ∧ H' Dl = some (.lst ((zs.take i).map fun z => V.int z.2))) ⟨Ex.new hD, upd_same⟩ (fun i H' _ p => SqL.of (p.1 _ _ h1)) (fun i x H' hi pv => ?_) fun H' pv => ?_
  · obtain ⟨p1, p2⟩ := pv
    refine ⟨hw x, ?_⟩
    rw [List.getElem?_map] at hi
    obtain ⟨t, et, rfl⟩ := Option.map_eq_some_iff.mp hi
    have hat : ∀ {ts : List Addr} {zs : List (Int × Int)} {i : Nat} {t : Addr}, Prs H2 ts zs → ts[i]? = some t → ∃ z, zs[i]? = some z ∧ AtP H2 t z := fun {ts zs i t} hp => by
      induction hp generalizing i with
      | nil => intro h; simp at h
      | cons r s ih =>
        intro h
        cases i with
        | zero => cases h; exact ⟨_, rfl, r⟩
        | succ i => exact ih h
    obtain ⟨z, ez, az⟩ := hat h2 et
    have hlt := (List.getElem?_eq_some_iff.mp ez).1
    refine (ev_op (ev_var (hj _)) ev_c (rv_ixT (SqT.of (p1 _ _ az)) (atI_nat (j := 1) rfl)) : Ev (tOp (rIxT K) (tVar jj) (tC (.int 1))) _ H' (.int z.2)) H' (Ex.refl _) _ fun H4 e4 => ?_
    refine ⟨_, e4 _ _ p2, sz_lt (by rw [List.length_map, List.length_take]; omega), Ex.mut (p1.trans e4) hD, ?_⟩
    rw [List.take_add_one, ez, List.map_append]
    exact upd_same
  · obtain ⟨p1, p2⟩ := pv
    rw [hlen, List.take_length] at p2
    refine k Dl H' zs (fresh_back e2 hD) (e2.trans p1) ?_ hP
    show H' Dl = some (.lst ((zs.map (·.2)).map V.int))
    rw [List.map_map]
    exact p2
/-- for i, x in enumerate(a new list) -/
theorem s_forEnN {xs : List V} {tl : TE} (h : EvL tl σ H xs) (Pv : Addr → Nat → St → Hp → Prop) (h0 : ∀ p H1, H p = none → Ex H H1 → H1 p = some (.lst xs) → Pv p 0 σ H1) (hl : ∀ p i σ H, i ≤ xs.length → Pv p i σ H → SqL K H p xs)
    (hs : ∀ p i x T σ H, xs[i]? = some x → H T = none → Pv p i σ H → g (.ref T) σ (upd H T (.tup [.int (i : Int), x])) fun σ2 H2 => tu { D with nx := Pv p (i + 1), ct := Pv p (i + 1), bk := D.nx } σ2 H2) (hd : ∀ p σ H, Pv p xs.length σ H → D.nx σ H) :
    tFor (iEnum K (tCons tl tNil)) g tu D σ H := h H (Ex.refl H) _ fun p H1 np e hx => by
  refine ⟨p, xs, rfl, SqL.of hx, fun i m σ H => m = xs.length - i ∧ i ≤ xs.length ∧ Pv p i σ H, ⟨xs.length, by simp, Nat.zero_le _, h0 p H1 np e hx⟩, ?_⟩
  rintro i m σ H ⟨rfl, hi, pv⟩
  have q := hl p i σ H hi pv
  by_cases hlt : i < xs.length
  · refine .inr ⟨⟨xs, xs[i], q, List.getElem?_eq_getElem hlt⟩, Pv p (i + 1), fun σ' H' p' => ⟨xs.length - (i + 1), by omega, rfl, hlt, p'⟩, fun v H' y => ?_⟩
    obtain ⟨T, x, rfl, nT, rfl, y⟩ := y
    exact hs p i x T σ H (y _ q) nT pv
  · have e : i = xs.length := by omega
    subst e
    exact .inl ⟨⟨xs, q, Nat.le_refl _⟩, hd p σ H pv⟩
theorem q_forEnN {xs : List V} {tl : TE} (h : EvL tl σ H xs) (Pv : Addr → Nat → St → Hp → Prop) (h0 : ∀ p H1, H p = none → Ex H H1 → H1 p = some (.lst xs) → Pv p 0 σ H1) (hl : ∀ p i σ H, i ≤ xs.length → Pv p i σ H → SqL K H p xs)
    (hs : ∀ p i x T σ H, xs[i]? = some x → H T = none → Pv p i σ H → g (.ref T) σ (upd H T (.tup [.int (i : Int), x])) fun σ2 H2 => tu { D with nx := Pv p (i + 1), ct := Pv p (i + 1), bk := tz D } σ2 H2) (hd : ∀ p σ H, Pv p xs.length σ H → tz D σ H) :
    tSeq (tFor (iEnum K (tCons tl tNil)) g tu) tz D σ H := s_forEnN (D := { D with nx := tz D }) h Pv h0 hl hs hd
/-- xs + ys, sorted(xs) of whole numbers -/
theorem el_catI (ha : Ev ta σ H (.ref p)) (hb : Ev tb σ H (.ref q)) (hp : IL H p ns) (hq : IL H q ms) (hz : ns.length + ms.length ≤ 100000) : EvL (tOp rCat ta tb) σ H ((ns ++ ms).map V.int) := fun H1 e Q k =>
  ha H1 e _ fun H2 e2 => hb H2 (e.trans e2) _ fun H3 e3 => ⟨p, q, _, _, rfl, rfl, hp.mono ((e.trans e2).trans e3), hq.mono ((e.trans e2).trans e3), sz_of (by rw [List.length_map, List.length_map]; exact hz), fun d nd => k d _ (fresh_back (e2.trans e3) nd) ((e2.trans e3).trans (Ex.new nd)) (by rw [upd_same, List.map_append])⟩
theorem el_sortI (h : Ev te σ H (.ref p)) (hp : IL H p ns) (hm : ms.Perm ns) (hs : ms.Pairwise (· ≤ ·)) : EvL (tCB (rSortedI K) (tCons te tNil)) σ H (ms.map V.int) := fun H1 e Q k =>
  h H1 e _ fun H2 e2 => ⟨p, ns, rfl, SqL.of (hp.mono (e.trans e2)), fun ns' d h1 h2 nd => by
    have : ns' = ms := (h1.trans hm.symm).eq_of_pairwise (fun x y _ _ a b => Int.le_antisymm a b) h2 hs
    subst this
    exact k d _ (fresh_back e2 nd) (e2.trans (Ex.new nd)) upd_same⟩
end
end DL
namespace DL
open PySem PySem.Spec PyProof.Rows L2 Evl
section
variable {K : PySem.W.Frag} {σ : St} {H H' : Hp} {ta tb te ti : TE} {tA : TA} {t' : TT} {D : Ends} {tu tz : TS} {g : TG} {p q l : Addr} {js ks : List T3} {j : T3} {ns ms : List Int}
/-- the items of a display, triples -/
def EvTs (tA : TA) (σ : St) (H : Hp) (js : List T3) : Prop := ∀ H1, Ex H H1 → ∀ Q : List V → Hp → Prop, (∀ (ts : List Addr) H2, Ex H1 H2 → Tps H2 ts js → Q (ts.map V.ref) H2) → tA σ H1 Q
theorem ets_nil : EvTs tNil σ H [] := fun H1 _ Q k => k [] H1 (Ex.refl _) .nil
theorem ets_cons (h : EvU te σ H (tv j)) (hr : EvTs tA σ H js) : EvTs (tCons te tA) σ H (j :: js) := fun H1 e Q k =>
  h H1 e _ fun t H2 _ e2 ht => hr H2 (e.trans e2) _ fun ts H3 e3 hts => k (t :: ts) H3 (e2.trans e3) (.cons (e3 _ _ ht) hts)
theorem ets_consR {t : Addr} (h : Ev te σ H (.ref t)) (a : AtT H t j) (hr : EvTs tA σ H js) : EvTs (tCons te tA) σ H (j :: js) := fun H1 e Q k =>
  h H1 e _ fun H2 e2 => hr H2 (e.trans e2) _ fun ts H3 e3 hts => k (t :: ts) H3 (e2.trans e3) (.cons (e3 _ _ (e2 _ _ (e _ _ a))) hts)
theorem etl_lst (h : EvTs tA σ H js) (hz : js.length ≤ 100000) : EvTL (tLst tA) σ H js := fun H1 e Q k =>
  h H1 e _ fun ts H2 e2 hts => ⟨sz_of (by rw [List.length_map, hts.len]; exact hz), fun d nd => k d _ (fresh_back e2 nd) (e2.trans (Ex.new nd)) ⟨ts, upd_same, hts.mono (Ex.new nd)⟩⟩
/-- [a, b, ..][i] of whole numbers written out -/
theorem ev_pick {xs : List V} {i : Nat} {v : V} (ha : EvL ta σ H xs) (hi : ∀ H1, Ex H H1 → Ev ti σ H1 (.int (i : Int))) (hv : xs[i]? = some v) : Ev (tOp (rIxL K) ta ti) σ H v :=
  ev_opL1 ha hi fun p H1 hp _ => rv_ixL (SqL.of hp) (atI_nat hv)
theorem el_two {a b : Int} (ha : Ev ta σ H (.int a)) (hb : Ev tb σ H (.int b)) : EvL (tLst (tCons ta (tCons tb tNil))) σ H [.int a, .int b] := el_lst (ea_cons ha (ea_cons hb ea_nil)) (show 2 ≤ 100000 by decide)
/-- the last of a list of triples -/
theorem ev_lastFld {r : List T3} {v : V} {z : Int} (ha : Ev ta σ H (.ref p)) (hi : Ev ti σ H (.int (-1))) (hp : TL H p (r ++ [j])) (hz : Ev te σ H (.int z)) (hv : atI (tv j) z = some v) : Ev (tOp (rIxT K) (tOp (rIxL K) ta ti) te) σ H v := by
  obtain ⟨ts, h1, h2⟩ := hp
  have h3 := h2.drop r.length
  rw [List.drop_left] at h3
  obtain ⟨u, hu⟩ : ∃ u, ts.drop r.length = [u] := List.length_eq_one_iff.mp h3.len
  have a : AtT H u j := by
    rw [hu] at h3
    cases h3 with
    | cons a _ => exact a
  have e : ts.map V.ref = (ts.take r.length).map V.ref ++ [V.ref u] := by
    rw [show ([V.ref u] : List V) = [u].map V.ref from rfl, ← List.map_append, ← hu, List.take_append_drop]
  rw [e] at h1
  exact ev_op (ev_op ha hi (rv_ixL (SqL.of h1) (atI_last _ _))) hz (rv_ixT (SqT.of a) hv)
theorem etl_catV (ha : Ev ta σ H (.ref p)) (hp : TL H p js) (hb : EvTL tb σ H ks) (hz : js.length + ks.length ≤ 100000) : EvTL (tOp rCat ta tb) σ H (js ++ ks) := fun H1 e Q k =>
  ha H1 e _ fun H2 e2 => hb H2 (e.trans e2) _ fun b H3 nb e3 pb => by
    obtain ⟨ts, h1, h2⟩ := hp.mono ((e.trans e2).trans e3)
    obtain ⟨us, g1, g2⟩ := pb
    refine ⟨p, b, _, _, rfl, rfl, h1, g1, sz_of (by rw [List.length_map, List.length_map, h2.len, g2.len]; exact hz), fun d nd => k d _ (fresh_back (e2.trans e3) nd) ((e2.trans e3).trans (Ex.new nd)) ⟨ts ++ us, ?_, (h2.append g2).mono (Ex.new nd)⟩⟩
    rw [upd_same, List.map_append]
end
end DL
namespace DL
open PySem PySem.Spec PyProof.Rows L2 Evl
section
variable {K : PySem.W.Frag} {σ : St} {H H' : Hp} {ta tb te ti : TE} {tA : TA} {t' : TT} {D : Ends} {tu tz : TS} {g : TG} {p q l : Addr} {js ks : List T3} {j : T3} {ns ms : List Int}
/-- for .. in reversed(a list of triples) -/
theorem s_forRvTL (h : EvA tA σ H [.ref p]) (hx : TL H p js) (Pv : Nat → St → Hp → Prop) (h0 : ∀ H1, Ex H H1 → Pv 0 σ H1) (hl : ∀ i σ H, Pv i σ H → TL H p js)
    (hs : ∀ i q t σ H, i < js.length → js[js.length - 1 - i]? = some q → AtT H t q → Pv i σ H → g (.ref t) σ H fun σ2 H2 => tu { D with nx := Pv (i + 1), ct := Pv (i + 1), bk := D.nx } σ2 H2) (hd : ∀ σ H, Pv js.length σ H → D.nx σ H) : tFor (iRev K tA) g tu D σ H :=
  h H (Ex.refl H) _ fun H1 e => by
    obtain ⟨xs, h1, h2⟩ := (hx.mono e).sq (K := K)
    refine ⟨p, xs, rfl, h1, ?_⟩
    rw [h2]
    refine ⟨fun i m σ H => m = js.length - i ∧ i ≤ js.length ∧ Pv i σ H, ⟨js.length, rfl, Nat.zero_le _, h0 H1 e⟩, ?_⟩
    rintro i m σ H ⟨rfl, hi, pv⟩
    have q := hl i σ H pv
    by_cases hlt : i < js.length
    · have hj : js.length - 1 - i < js.length := by omega
      obtain ⟨t, ts, g1, g2, a⟩ := q.atI (List.getElem?_eq_getElem hj)
      refine .inr ⟨⟨hlt, _, _, SqL.of g1, g2⟩, Pv (i + 1), fun σ' H' p' => ⟨js.length - (i + 1), by omega, rfl, hlt, p'⟩, fun v H' y => ?_⟩
      obtain ⟨e, hy⟩ := y
      subst e
      have z := (hy _ (SqL.of g1)).symm.trans g2
      cases z
      exact hs i _ t σ _ hlt (List.getElem?_eq_getElem hj) a pv
    · have e : i = js.length := by omega
      subst e
      exact .inl ⟨Nat.le_refl _, hd σ H pv⟩
theorem q_forRvTL (h : EvA tA σ H [.ref p]) (hx : TL H p js) (Pv : Nat → St → Hp → Prop) (h0 : ∀ H1, Ex H H1 → Pv 0 σ H1) (hl : ∀ i σ H, Pv i σ H → TL H p js)
    (hs : ∀ i q t σ H, i < js.length → js[js.length - 1 - i]? = some q → AtT H t q → Pv i σ H → g (.ref t) σ H fun σ2 H2 => tu { D with nx := Pv (i + 1), ct := Pv (i + 1), bk := tz D } σ2 H2) (hd : ∀ σ H, Pv js.length σ H → tz D σ H) : tSeq (tFor (iRev K tA) g tu) tz D σ H :=
  s_forRvTL (D := { D with nx := tz D }) h hx Pv h0 hl hs hd
/-- [.. for i, x in enumerate(a new list)] -/
theorem el_lcEnN {xs : List V} {tl : TE} {vs : List Nat} (v : Nat → V) (s2 : Nat → V → St) (h : EvL tl σ H xs) (hz : xs.length ≤ 40000)
    (hg : ∀ (i : Nat) x T H1 (Q : St → Hp → Prop), H1 T = some (.tup [.int (i : Int), x]) → Q (s2 i x) H1 → g (.ref T) (wipe σ vs) H1 Q) (hw : ∀ i x, wipe (s2 i x) vs = wipe σ vs)
    (he : ∀ i x H1, xs[i]? = some x → Ex H H1 → Ev te (s2 i x) H1 (v i)) : EvL (tLc (iEnum K (tCons tl tNil)) g tYes te vs) σ H ((List.range xs.length).map v) := fun H0 e Q k =>
  h H0 e _ fun p H1 np e1 hp => by
    refine ⟨p, xs, rfl, SqL.of hp, fun Dl hD => ?_⟩
    refine ⟨fun i m H' => m = xs.length - i ∧ i ≤ xs.length ∧ Ex H1 H' ∧ H' Dl = some (.lst ((List.range i).map v)), ⟨xs.length, rfl, Nat.zero_le _, Ex.new hD, upd_same⟩, ?_⟩
    rintro i m H' ⟨rfl, hi, e2, hDl⟩
    have hpx := e2 _ _ hp
    by_cases hlt : i < xs.length
    · refine .inr ⟨⟨xs, xs[i], SqL.of hpx, List.getElem?_eq_getElem hlt⟩, fun H2 => Ex H1 H2 ∧ H2 Dl = some (.lst ((List.range (i + 1)).map v)), fun H2 p2 => ⟨xs.length - (i + 1), by omega, rfl, hlt, p2.1, p2.2⟩, fun y H2 hy => ?_⟩
      obtain ⟨T, x, rfl, nT, rfl, hx⟩ := hy
      have hx := hx _ (SqL.of hpx)
      have e3 : Ex H' (upd H' T (.tup [.int (i : Int), x])) := Ex.new nT
      refine hg i x T _ _ upd_same ⟨hw i x, ?_⟩
      show te (s2 i x) _ _
      refine he i x _ hx (((e.trans e1).trans e2).trans e3) _ (Ex.refl _) _ fun H4 e4 => ?_
      refine ⟨_, e4 _ _ (e3 _ _ hDl), sz_lt (by rw [List.length_map, List.length_range]; omega), Ex.mut ((e2.trans e3).trans e4) hD, ?_⟩
      rw [List.range_succ, List.map_append]
      exact upd_same
    · have e0 : i = xs.length := by omega
      subst e0
      exact .inl ⟨⟨xs, SqL.of hpx, Nat.le_refl _⟩, k Dl H' (fresh_back e1 hD) (e1.trans e2) hDl⟩
theorem len_flat (f : Int → Int → Int) (es : List Int) : ∀ bs : List Int, (bs.flatMap fun x => es.map (f x)).length = bs.length * es.length
  | [] => by rw [List.flatMap_nil, List.length_nil, Nat.zero_mul]
  | b :: bs => by
    rw [List.flatMap_cons, List.length_append, List.length_map, len_flat f es bs, List.length_cons, Nat.succ_mul, Nat.add_comm]
/-- [f(b, e) for b in bs for e in es] -/
theorem el_lc2I {bs es : List Int} {tl tl1 : TE} {a b : Nat} {vs vs1 : List Nat} (f : Int → Int → Int) (h : Ev tl σ H (.ref p)) (hb : IL H p bs) (hE : IL H q es) (h1 : ∀ x H1, Ex H H1 → Ev tl1 ((wipe σ vs).set a (some (.int x))) H1 (.ref q)) (hz : bs.length ≤ 100) (hz1 : es.length ≤ 100)
    (hw : ∀ x, wipe ((wipe σ vs).set a (some (.int x))) vs = wipe σ vs) (hw1 : ∀ x y, wipe ((wipe ((wipe σ vs).set a (some (.int x))) vs1).set b (some (.int y))) vs1 = wipe ((wipe σ vs).set a (some (.int x))) vs1)
    (he : ∀ x y H1, Ex H H1 → Ev te ((wipe ((wipe σ vs).set a (some (.int x))) vs1).set b (some (.int y))) H1 (.int (f x y))) :
    EvL (tLc2 (iList K tl) (gName a) tYes (iList K tl1) (gName b) tYes te vs vs1) σ H ((bs.flatMap fun x => es.map (f x)).map V.int) := fun H0 e Q k =>
  h H0 e _ fun H1 e1 => by
    have eb := e.trans e1
    have hb1 := hb.mono eb
    refine ⟨p, rfl, ⟨_, SqL.of hb1⟩, fun Dl hD => ?_⟩
    refine ⟨fun i m H' => m = bs.length - i ∧ i ≤ bs.length ∧ Ex H1 H' ∧ H' Dl = some (.lst (((bs.take i).flatMap fun x => es.map (f x)).map V.int)), ⟨bs.length, rfl, Nat.zero_le _, Ex.new hD, upd_same⟩, ?_⟩
    rintro i m H' ⟨rfl, hi, e2, hDl⟩
    have hpx := hb1.mono e2
    by_cases hlt : i < bs.length
    · have hbi := List.getElem?_eq_getElem hlt
      have hvi : (bs.map V.int)[i]? = some (V.int bs[i]) := by rw [List.getElem?_map, hbi]; rfl
      refine .inr ⟨⟨_, _, SqL.of hpx, hvi⟩, fun H2 => Ex H1 H2 ∧ H2 Dl = some (.lst (((bs.take (i + 1)).flatMap fun x => es.map (f x)).map V.int)), fun H2 p2 => ⟨bs.length - (i + 1), by omega, rfl, hlt, p2.1, p2.2⟩, fun y H2 hy => ?_⟩
      obtain ⟨rfl, hy⟩ := hy
      have hy := (hy _ (SqL.of hpx)).symm.trans hvi
      cases hy
      generalize bs[i] = x at *
      refine ⟨hw x, ?_⟩
      unfold tYes
      dsimp only
      rw [if_pos rfl]
      refine h1 x H2 (eb.trans e2) H2 (Ex.refl _) _ fun H3 e3 => ?_
      have hE3 := hE.mono ((eb.trans e2).trans e3)
      refine ⟨q, rfl, ⟨_, SqL.of hE3⟩, ?_⟩
      refine ⟨fun j m H' => m = es.length - j ∧ j ≤ es.length ∧ Ex H1 H' ∧ H' Dl = some (.lst (((bs.take i).flatMap (fun x => es.map (f x)) ++ (es.take j).map (f x)).map V.int)), ⟨es.length, rfl, Nat.zero_le _, e2.trans e3, ?_⟩, ?_⟩
      · rw [List.take_zero, List.map_nil, List.append_nil]
        exact e3 _ _ hDl
      · rintro j m H4 ⟨rfl, hj, e4, hDl4⟩
        have hq4 := hE.mono (eb.trans e4)
        by_cases hlt2 : j < es.length
        · have hej := List.getElem?_eq_getElem hlt2
          have hvj : (es.map V.int)[j]? = some (V.int es[j]) := by rw [List.getElem?_map, hej]; rfl
          refine .inr ⟨⟨_, _, SqL.of hq4, hvj⟩, fun H2 => Ex H1 H2 ∧ H2 Dl = some (.lst (((bs.take i).flatMap (fun x => es.map (f x)) ++ (es.take (j + 1)).map (f x)).map V.int)), fun H2 p2 => ⟨es.length - (j + 1), by omega, rfl, hlt2, p2.1, p2.2⟩, fun y H5 hy => ?_⟩
          obtain ⟨rfl, hy⟩ := hy
          have hy := (hy _ (SqL.of hq4)).symm.trans hvj
          cases hy
          refine ⟨hw1 x _, ?_⟩
          show te _ H5 _
          refine he x es[j] H5 (eb.trans e4) H5 (Ex.refl _) _ fun H6 e6 => ?_
          refine ⟨_, e6 _ _ hDl4, sz_lt ?_, Ex.mut (e4.trans e6) hD, ?_⟩
          · rw [List.length_map, List.length_append, len_flat, List.length_map, List.length_take, List.length_take]
            have : min i bs.length * es.length ≤ 100 * 100 := Nat.mul_le_mul (by omega) hz1
            omega
          · rw [List.take_add_one, hej, upd_same, List.map_append, List.map_append, List.map_append, List.map_append, List.append_assoc]
            rfl
        · have e0 : j = es.length := by omega
          subst e0
          refine .inl ⟨⟨_, SqL.of hq4, by rw [List.length_map]; exact Nat.le_refl _⟩, e4, ?_⟩
          rw [hDl4, List.take_length, List.take_add_one, hbi, List.flatMap_append]
          congr 3
          show _ = _ ++ ([x].flatMap fun x => es.map (f x))
          rw [List.flatMap_cons, List.flatMap_nil, List.append_nil]
    · have e0 : i = bs.length := by omega
      subst e0
      rw [List.take_length] at hDl
      exact .inl ⟨⟨_, SqL.of hpx, by rw [List.length_map]; exact Nat.le_refl _⟩, k Dl H' (fresh_back e1 hD) (e1.trans e2) hDl⟩
theorem ev_maxN (h : EvL te σ H (ns.map V.int)) {m : Int} (hm : m ∈ ns) (hle : ∀ y ∈ ns, y ≤ m) : Ev (tCB (rMax K) (tCons te tNil)) σ H (.int m) := fun H1 e Q k =>
  h H1 e _ fun a H2 _ e2 hl => ⟨a, ns, rfl, SqL.of hl, List.length_pos_iff.mpr (List.ne_nil_of_mem hm), fun m' hm' hle' => by
    have : m' = m := Int.le_antisymm (hle _ hm') (hle' _ hm)
    rw [this]; exact k H2 e2⟩
/-- [x] + a new list of whole numbers -/
theorem el_consI {x : Int} (ha : Ev ta σ H (.int x)) (hb : EvL tb σ H (ns.map V.int)) (hz : ns.length ≤ 99999) : EvL (tOp rCat (tLst (tCons ta tNil)) tb) σ H ((x :: ns).map V.int) := fun H1 e Q k =>
  ha H1 e _ fun H2 e2 => ⟨sz_of (show 1 ≤ 100000 by decide), fun a na => hb _ ((e.trans e2).trans (Ex.new na)) _ fun b H3 nb e3 h3 =>
    ⟨a, b, _, _, rfl, rfl, e3 _ _ upd_same, h3, sz_of (by rw [List.length_map]; show 1 + ns.length ≤ 100000; omega), fun d nd => k d _ (fresh_back ((e2.trans (Ex.new na)).trans e3) nd) (((e2.trans (Ex.new na)).trans e3).trans (Ex.new nd)) (by rw [upd_same]; rfl)⟩⟩
/-- truth of a new list -/
theorem et_truNL {xs : List V} (h : EvL te σ H xs) : EvT (fun σ H Q => te σ H fun x H' => ∃ k, TruV K x H' k ∧ Q k H') σ H (!xs.isEmpty) := fun H1 e Q k =>
  h H1 e _ fun p H2 _ e2 hp => ⟨!xs.isEmpty, .inl ⟨_, SqL.of hp, rfl⟩, k H2 e2⟩
/-! ### the begin, looked for from the last piece on -/
def Rv (js ps : List T3) (d : Int) (m k : Nat) (b : Int) : Prop :=
  (m < k ∧ b = d) ∨ (k ≤ m ∧ (∃ r, ps[k]? = some r ∧ r.2.1 = b) ∧ (∀ j q, k ≤ j → j ≤ m → ps[j]? = some q → du js q.1.toNat ≤ d) ∧ ∀ j q r, k ≤ j → j < m → ps[j]? = some q → ps[j + 1]? = some r → q.2.2 = r.2.1)
theorem Rv.skip {js ps : List T3} (W : WayOk js ps) {d : Int} {m k : Nat} {b : Int} {x q : T3} (hx : ps[m]? = some x) (hxb : x.2.1 < d) (hxe : d ≤ x.2.2) (I : Rv js ps d m (k + 1) b) (h : ps[k]? = some q) (hq : d ≤ q.2.1) : Rv js ps d m k b := by
  have hmk : m < k := by
    rcases Nat.lt_or_ge m k with g | g
    · exact g
    · exfalso
      rcases Nat.lt_or_ge k m with g2 | g2
      · have h1 := ord W g2 h hx
        have h2 := (W k q h).be
        omega
      · have : k = m := by omega
        subst this
        rw [hx] at h
        cases h
        omega
  rcases I with ⟨_, hb⟩ | ⟨h1, _⟩
  · exact .inl ⟨hmk, hb⟩
  · omega
theorem Rv.at_ {js ps : List T3} (W : WayOk js ps) {d : Int} {m k : Nat} {b : Int} {x q : T3} (hx : ps[m]? = some x) (hxb : x.2.1 < d) (hxe : d ≤ x.2.2) (I : Rv js ps d m (k + 1) b) (h : ps[k]? = some q) (hq : ¬ d ≤ q.2.1) : k ≤ m := by
  rcases Nat.lt_or_ge m k with g | g
  · have h1 := ord W g hx h
    omega
  · exact g
theorem Rv.step {js ps : List T3} (W : WayOk js ps) {d : Int} {m k : Nat} {b : Int} {x q : T3} (hx : ps[m]? = some x) (hxb : x.2.1 < d) (hxe : d ≤ x.2.2) (I : Rv js ps d m (k + 1) b) (h : ps[k]? = some q) (hq : ¬ d ≤ q.2.1)
    (h1 : ¬ q.2.2 < b) (h2 : ¬ d < du js q.1.toNat) : Rv js ps d m k q.2.1 := by
  have hk := I.at_ W hx hxb hxe h hq
  refine .inr ⟨hk, ⟨q, h, rfl⟩, ?_⟩
  rcases I with ⟨g, hb⟩ | ⟨g, ⟨r, hr, hb⟩, g1, g2⟩
  · have : k = m := by omega
    subst this
    exact ⟨fun j y a1 a2 hy => by
      have : j = k := by omega
      subst this
      rw [h] at hy
      cases hy
      omega, fun j _ _ a1 a2 => by omega⟩
  · refine ⟨fun j y a1 a2 hy => ?_, fun j y z a1 a2 hy hz => ?_⟩
    · rcases Nat.eq_or_lt_of_le a1 with e | e
      · subst e
        rw [h] at hy
        cases hy
        omega
      · exact g1 j y e a2 hy
    · rcases Nat.eq_or_lt_of_le a1 with e | e
      · subst e
        rw [h] at hy
        rw [hr] at hz
        cases hy
        cases hz
        have := ord W (Nat.lt_succ_self k) h hr
        omega
      · exact g2 j y z e a2 hy hz
/-- the walk stops: at a break, or behind the first piece -/
theorem Rv.stop {js ps : List T3} (W : WayOk js ps) {d : Int} {m k : Nat} {b : Int} {x q : T3} (hx : ps[m]? = some x) (hxb : x.2.1 < d) (hxe : d ≤ x.2.2) (hxd : du js x.1.toNat ≤ d) (I : Rv js ps d m (k + 1) b) (h : ps[k]? = some q) (hq : ¬ d ≤ q.2.1)
    (hs : q.2.2 < b ∨ d < du js q.1.toNat) : ∃ (k : Nat) (r : T3), ps[k]? = some r ∧ r.2.1 = b ∧ Bk js ps d k m := by
  have hk := I.at_ W hx hxb hxe h hq
  rcases I with ⟨g, hb⟩ | ⟨g, ⟨r, hr, hb⟩, g1, g2⟩
  · have : k = m := by omega
    subst this
    rw [hx] at h
    cases h
    omega
  · refine ⟨k + 1, r, hr, hb, g, g1, g2, .inr ⟨q, r, h, hr, ?_⟩⟩
    rw [hb]
    exact hs
theorem Rv.first {js ps : List T3} {d : Int} {m : Nat} {b : Int} (I : Rv js ps d m 0 b) : ∃ (k : Nat) (r : T3), ps[k]? = some r ∧ r.2.1 = b ∧ Bk js ps d k m := by
  rcases I with ⟨g, _⟩ | ⟨g, ⟨r, hr, hb⟩, g1, g2⟩
  · omega
  · exact ⟨0, r, hr, hb, g, g1, g2, .inl rfl⟩
end
/-- the least of the spare times is what leastM says -/
theorem least_flat {js : List T3} (S : Sound js) (c d : Int) : lmin ((comesB js c).flatMap fun b => (duesE js d).map fun e => e - b - loadJ js b e) = leastM js c d := by
  have hmem : ∀ b e, b ∈ comesB js c → e ∈ duesE js d → e - b - loadJ js b e ∈ (comesB js c).flatMap fun b => (duesE js d).map fun e => e - b - loadJ js b e := fun b e hb he =>
    List.mem_flatMap.mpr ⟨b, hb, List.mem_map.mpr ⟨e, he, rfl⟩⟩
  have hle := (minB_le js (duesE js d) (comesB js c) (d - c)).2
  refine (lmin_uniq ?_ fun x hx => ?_).symm
  · rcases minB_mem js (duesE js d) (comesB js c) (d - c) with g | ⟨b, hb, e, he, g⟩
    · have h1 : c ∈ comesB js c := List.mem_cons_self
      have h2 : d ∈ duesE js d := List.mem_cons_self
      have h3 := hle c h1 d h2
      have h4 := load_nn S c d
      have : leastM js c d = d - c - loadJ js c d := by
        unfold leastM
        omega
      rw [this]
      exact hmem c d h1 h2
    · have : leastM js c d = e - b - loadJ js b e := g
      rw [this]
      exact hmem b e hb he
  · obtain ⟨b, hb, hx⟩ := List.mem_flatMap.mp hx
    obtain ⟨e, he, rfl⟩ := List.mem_map.mp hx
    exact hle b hb e he
theorem comesB_len (js : List T3) (c : Int) : (comesB js c).length ≤ js.length + 1 := by
  unfold comesB
  rw [List.length_cons, List.length_map]
  have := List.length_filter_le (fun j : T3 => decide (j.1 < c)) js
  omega
theorem duesE_len (js : List T3) (d : Int) : (duesE js d).length ≤ js.length + 1 := by
  unfold duesE
  rw [List.length_cons, List.length_map]
  have := List.length_filter_le (fun j : T3 => decide (d < j.2.2)) js
  omega
end DL
/-- values, by a hook on an open word -/
local macro_rules | `(tactic| walk_at "ev") => `(tactic| repeat' (first
  | exact Evl.ev_var rfl | exact Evl.ev_c | assumption
  | refine Evl.ev_op ?_ ?_ Evl.rv_I0 | refine Evl.ev_un ?_ Evl.ru_neg
  | refine Evl.ev_op ?_ ?_ (Evl.rv_I ?_)
  | refine Evl.ev_op ?_ ?_ (Evl.rv_eq rfl) | refine Evl.ev_op ?_ ?_ (Evl.rv_ne rfl)
  | (show L2.CDiv _ _; exact ⟨by decide, by decide⟩) | (show (0 : Int) < _; first | decide | omega) | (show L2.CMul _ _; first | exact .inr ⟨by decide, by decide⟩ | exact .inl ⟨by decide, by decide⟩)))
local macro_rules | `(tactic| walk_at "evt") => `(tactic| (refine Evl.et_test ?_; walk_at "ev"))
namespace DLL
open PySem PySem.Spec PyProof.Rows L2 Evl DL
abbrev St := L2.St
/-! ### the text by places -/
def topS (i : Nat) : Stmt := PySem.Challenge.pw_deadlinerun_k05_run_does_all.main.body.getD i (.Pass ⟨0, 0, 0, 0⟩)
abbrev s_sound : Stmt := topS 6
abbrev N_sound : List Str := ["job", "come", "length", "due", "number"]
theorem sc_sound : FnScope ["job", "come", "length", "due", "number"] ["job"] (defScope s_sound) := ⟨rfl, rfl, rfl, by decide +kernel, rfl, by decide +kernel, by decide +kernel⟩
abbrev s_check_jobs : Stmt := topS 7
abbrev N_check_jobs : List Str := ["jobs", "place", "job"]
theorem sc_check_jobs : FnScope ["jobs", "place", "job"] ["jobs"] (defScope s_check_jobs) := ⟨rfl, rfl, rfl, by decide +kernel, rfl, by decide +kernel, by decide +kernel⟩
abbrev s_run : Stmt := topS 9
abbrev N_run : List Str := ["jobs", "left", "pieces", "time", "place", "end", "come", "length", "due"]
theorem sc_run : FnScope ["jobs", "left", "pieces", "time", "place", "end", "come", "length", "due"] ["jobs"] (defScope s_run) := ⟨rfl, rfl, rfl, by decide +kernel, rfl, by decide +kernel, by decide +kernel⟩
abbrev s_first_due : Stmt := topS 10
abbrev N_first_due : List Str := ["jobs", "left", "time", "best", "place", "come", "length", "due"]
theorem sc_first_due : FnScope ["jobs", "left", "time", "best", "place", "come", "length", "due"] ["jobs", "left", "time"] (defScope s_first_due) := ⟨rfl, rfl, rfl, by decide +kernel, rfl, by decide +kernel, by decide +kernel⟩
abbrev s_next_come : Stmt := topS 11
abbrev N_next_come : List Str := ["jobs", "time", "come", "length", "due"]
theorem sc_next_come : FnScope ["jobs", "time", "come", "length", "due"] ["jobs", "time"] (defScope s_next_come) := ⟨rfl, rfl, rfl, by decide +kernel, rfl, by decide +kernel, by decide +kernel⟩
abbrev s_end_of_work : Stmt := topS 12
abbrev N_end_of_work : List Str := ["jobs", "time", "rest", "done", "come", "length", "due"]
theorem sc_end_of_work : FnScope ["jobs", "time", "rest", "done", "come", "length", "due"] ["jobs", "time", "rest"] (defScope s_end_of_work) := ⟨rfl, rfl, rfl, by decide +kernel, rfl, by decide +kernel, by decide +kernel⟩
abbrev s_add_piece : Stmt := topS 13
abbrev N_add_piece : List Str := ["pieces", "place", "begin", "end"]
theorem sc_add_piece : FnScope ["pieces", "place", "begin", "end"] ["pieces", "place", "begin", "end"] (defScope s_add_piece) := ⟨rfl, rfl, rfl, by decide +kernel, rfl, by decide +kernel, by decide +kernel⟩
abbrev s_law_whole : Stmt := topS 15
abbrev N_law_whole : List Str := ["_law_found"]
theorem sc_law_whole : FnScope ["_law_found"] ["_law_found"] (defScope s_law_whole) := ⟨rfl, rfl, rfl, by decide +kernel, rfl, by decide +kernel, by decide +kernel⟩
abbrev s_law_cell_at : Stmt := topS 16
abbrev N_law_cell_at : List Str := ["_law_script", "_law_k"]
theorem sc_law_cell_at : FnScope ["_law_script", "_law_k"] ["_law_script", "_law_k"] (defScope s_law_cell_at) := ⟨rfl, rfl, rfl, by decide +kernel, rfl, by decide +kernel, by decide +kernel⟩
abbrev s_law_mixed : Stmt := topS 17
abbrev N_law_mixed : List Str := ["_law_cell", "_law_k", "_law_prime"]
theorem sc_law_mixed : FnScope ["_law_cell", "_law_k", "_law_prime"] ["_law_cell", "_law_k", "_law_prime"] (defScope s_law_mixed) := ⟨rfl, rfl, rfl, by decide +kernel, rfl, by decide +kernel, by decide +kernel⟩
abbrev s_law_job_by : Stmt := topS 18
abbrev N_law_job_by : List Str := ["_law_come", "_law_length", "_law_due", "_law_wide", "_law_more"]
theorem sc_law_job_by : FnScope ["_law_come", "_law_length", "_law_due", "_law_wide", "_law_more"] ["_law_come", "_law_length", "_law_due", "_law_wide", "_law_more"] (defScope s_law_job_by) := ⟨rfl, rfl, rfl, by decide +kernel, rfl, by decide +kernel, by decide +kernel⟩
abbrev s_law_count_by : Stmt := topS 19
abbrev N_law_count_by : List Str := ["_law_cell"]
theorem sc_law_count_by : FnScope ["_law_cell"] ["_law_cell"] (defScope s_law_count_by) := ⟨rfl, rfl, rfl, by decide +kernel, rfl, by decide +kernel, by decide +kernel⟩
abbrev s_law_wide_by : Stmt := topS 20
abbrev N_law_wide_by : List Str := ["_law_cell"]
theorem sc_law_wide_by : FnScope ["_law_cell"] ["_law_cell"] (defScope s_law_wide_by) := ⟨rfl, rfl, rfl, by decide +kernel, rfl, by decide +kernel, by decide +kernel⟩
abbrev s_law_tight_by : Stmt := topS 21
abbrev N_law_tight_by : List Str := ["_law_cell", "_law_count", "_law_wide", "_law_jobs", "_law_time", "_law_k", "_law_mix", "_law_begin", "_law_at", "_law_come", "_law_length", "_law_due"]
theorem sc_law_tight_by : FnScope ["_law_cell", "_law_count", "_law_wide", "_law_jobs", "_law_time", "_law_k", "_law_mix", "_law_begin", "_law_at", "_law_come", "_law_length", "_law_due"] ["_law_cell", "_law_count", "_law_wide"] (defScope s_law_tight_by) := ⟨rfl, rfl, rfl, by decide +kernel, rfl, by decide +kernel, by decide +kernel⟩
abbrev s_law_jobs_by : Stmt := topS 22
abbrev N_law_jobs_by : List Str := ["_law_script", "_law_first", "_law_count", "_law_wide", "_law_cell", "_law_jobs", "_law_k", "_law_at", "_law_come"]
theorem sc_law_jobs_by : FnScope ["_law_script", "_law_first", "_law_count", "_law_wide", "_law_cell", "_law_jobs", "_law_k", "_law_at", "_law_come"] ["_law_script", "_law_first"] (defScope s_law_jobs_by) := ⟨rfl, rfl, rfl, by decide +kernel, rfl, by decide +kernel, by decide +kernel⟩
abbrev s_law : Stmt := topS 23
abbrev N_law : List Str := ["_law_script", "_law_jobs", "_law_handed", "_law_found", "_law_left", "_law_time", "_law_piece", "_law_job"]
theorem sc_law : FnScope ["_law_script", "_law_jobs", "_law_handed", "_law_found", "_law_left", "_law_time", "_law_piece", "_law_job"] ["_law_script"] (defScope s_law) := ⟨rfl, rfl, rfl, by decide +kernel, rfl, by decide +kernel, by decide +kernel⟩

structure Fd (K : PySem.W.Frag) (mg : Str → Option Value) (x : Str) (st : Stmt) (ps : List Str) (f : Addr) (fd : FuncData) : Prop where
  F : Fun K x x st f fd
  b : Binds K fd ps []
  g : mg x = some (.ref f)
structure Md (K : PySem.W.Frag) (x q : Str) (st : Stmt) (ps : List Str) (f : Addr) (fd : FuncData) : Prop where
  F : Fun K x q st f fd
  b : Binds K fd ps []
structure TX (K : PySem.W.Frag) (mg : Str → Option Value) where
  f_sound : Addr
  d_sound : FuncData
  h_sound : Fd K mg "sound" s_sound ["job"] f_sound d_sound
  f_check_jobs : Addr
  d_check_jobs : FuncData
  h_check_jobs : Fd K mg "check_jobs" s_check_jobs ["jobs"] f_check_jobs d_check_jobs
  f_run : Addr
  d_run : FuncData
  h_run : Fd K mg "run" s_run ["jobs"] f_run d_run
  f_first_due : Addr
  d_first_due : FuncData
  h_first_due : Fd K mg "_first_due" s_first_due ["jobs", "left", "time"] f_first_due d_first_due
  f_next_come : Addr
  d_next_come : FuncData
  h_next_come : Fd K mg "_next_come" s_next_come ["jobs", "time"] f_next_come d_next_come
  f_end_of_work : Addr
  d_end_of_work : FuncData
  h_end_of_work : Fd K mg "_end_of_work" s_end_of_work ["jobs", "time", "rest"] f_end_of_work d_end_of_work
  f_add_piece : Addr
  d_add_piece : FuncData
  h_add_piece : Fd K mg "_add_piece" s_add_piece ["pieces", "place", "begin", "end"] f_add_piece d_add_piece
  f_law_whole : Addr
  d_law_whole : FuncData
  h_law_whole : Fd K mg "_law_whole" s_law_whole ["_law_found"] f_law_whole d_law_whole
  f_law_cell_at : Addr
  d_law_cell_at : FuncData
  h_law_cell_at : Fd K mg "_law_cell_at" s_law_cell_at ["_law_script", "_law_k"] f_law_cell_at d_law_cell_at
  f_law_mixed : Addr
  d_law_mixed : FuncData
  h_law_mixed : Fd K mg "_law_mixed" s_law_mixed ["_law_cell", "_law_k", "_law_prime"] f_law_mixed d_law_mixed
  f_law_job_by : Addr
  d_law_job_by : FuncData
  h_law_job_by : Fd K mg "_law_job_by" s_law_job_by ["_law_come", "_law_length", "_law_due", "_law_wide", "_law_more"] f_law_job_by d_law_job_by
  f_law_count_by : Addr
  d_law_count_by : FuncData
  h_law_count_by : Fd K mg "_law_count_by" s_law_count_by ["_law_cell"] f_law_count_by d_law_count_by
  f_law_wide_by : Addr
  d_law_wide_by : FuncData
  h_law_wide_by : Fd K mg "_law_wide_by" s_law_wide_by ["_law_cell"] f_law_wide_by d_law_wide_by
  f_law_tight_by : Addr
  d_law_tight_by : FuncData
  h_law_tight_by : Fd K mg "_law_tight_by" s_law_tight_by ["_law_cell", "_law_count", "_law_wide"] f_law_tight_by d_law_tight_by
  f_law_jobs_by : Addr
  d_law_jobs_by : FuncData
  h_law_jobs_by : Fd K mg "_law_jobs_by" s_law_jobs_by ["_law_script", "_law_first"] f_law_jobs_by d_law_jobs_by
  b_tuple : mg "tuple" = none
  b_all : mg "all" = none
  b_type : mg "type" = none
  b_len : mg "len" = none
  b_int : mg "int" = none
  b_enumerate : mg "enumerate" = none
  b_any : mg "any" = none
  b_min : mg "min" = none
  b_isinstance : mg "isinstance" = none
  b_bool : mg "bool" = none
  b_range : mg "range" = none
  b_max : mg "max" = none
  b_list : mg "list" = none
  t_LIMIT : Tok
  c_LIMIT : mg "LIMIT" = some (.int 60 t_LIMIT)

end DLL
namespace DLL
open PySem PySem.Spec PyProof.Rows L2 Evl DL
def BW : Int := 100000000000000000000000000000000000000000000000000000000
def BJ : Int := 1000000000000000000000000000000000000000000000000000000000000
structure JobOk (j : T3) : Prop where
  s : SoundJ j
  c : j.1 < BJ
  l : j.2.1 < BJ
  d : j.2.2 < BJ
theorem cmulW {i j : Int} (h1 : 0 ≤ i) (h2 : i ≤ BJ) (h3 : 0 ≤ j) (h4 : j ≤ BJ) : CMulW i j := by
  unfold BJ at h2 h4
  exact wide_mul (a := 256) (b := 256) (by omega) (by omega) (by decide) (by decide) (by decide)
theorem mul_bound {a w n : Int} (h0 : 0 ≤ a) (h1 : a ≤ n) (hw : 0 ≤ w) : 0 ≤ a * w ∧ a * w ≤ n * w := ⟨Int.mul_nonneg h0 hw, Int.mul_le_mul_of_nonneg_right h1 hw⟩
theorem mul_step {a b w : Int} (h : a < b) (hw : 0 ≤ w) : a * w + w ≤ b * w := by
  have := Int.mul_le_mul_of_nonneg_right (show a + 1 ≤ b by omega) hw
  rw [Int.add_mul, Int.one_mul] at this
  exact this
theorem cpow56 : CPow 10 56 := ⟨by decide, by decide, by decide⟩
end DLL
namespace DLL
open PySem PySem.Spec PyProof.Rows L2 Evl DL
section
variable {P : Program} {w : World} {K : PySem.W.Frag} {mg : Str → Option Value} {base : Heap} {H : Hp}
/-! ### the law's cells -/
def spCellAt (K : PySem.W.Frag) : Sp := fun vs H Q _ => ∃ (a : Addr) (ns : List Int) (k : Nat), vs = [.ref a, .int (k : Int)] ∧ SqL K H a (ns.map V.int) ∧ ∀ H', Ex H H' → Q (.int (ns.getD k 0)) H'
theorem v_cell_at {a : Addr} {ns : List Int} {k : Nat} (hS : SqL K H a (ns.map V.int)) : SpV (spCellAt K) [.ref a, .int (k : Int)] H (.int (ns.getD k 0)) := fun H1 e Q q E => ⟨a, ns, k, rfl, ex_l e hS, q⟩
theorem ints_at {ns : List Int} {k : Nat} (h : k < ns.length) : (ns.map V.int)[k]? = some (.int (ns.getD k 0)) := by
  rw [List.getElem?_map, List.getElem?_eq_getElem h, getD_lt h]
  rfl
theorem ok_law_cell_at (T : TX K mg) : FnOk P w K mg base CX0 1 T.f_law_cell_at T.d_law_cell_at ["_law_script", "_law_k"] (spCellAt K) := by
  refine T.h_law_cell_at.F.ok sc_law_cell_at (fun vs H Q E h => ?_) (fun cdv A outer s H vs Q E hr h => ?_)
  · obtain ⟨a, ns, k, rfl, _⟩ := h
    rfl
  · obtain ⟨a, ns, k, rfl, hS, q⟩ := h
    refine ⟨_, (pss_cons (ps_if (pt_cmpR op_lt (pv 1) (pe_callB (id := "len") (r := Evl.rLenS K) call_len_seq (by rfl) T.b_len PySem.boot_len (pa_cons (pv 0) pa_nil)) (nomark _))
    (pss_one (ps_ret (pe_ix (r := rIxL K) ix_list (pv 0) (pv 1) (fun _ _ => rfl))))
    pss_nil)
  (pss_one (ps_ret pe_int))), ?_⟩
    refine q_when (b := decide ((k : Int) < ((ns.map V.int).length : Int))) (et_test (ev_op (ev_var rfl) (ev_len (ev_var rfl) hS) rv_I0)) (fun hb H1 e1 => ?_) (fun hb H1 e1 => ?_)
    · have hk : k < ns.length := by
        have := of_decide_eq_true hb
        rw [List.length_map] at this
        omega
      exact s_ret (ev_op (ev_var rfl) (ev_var rfl) (rv_ixL (ex_l e1 hS) (atI_nat (ints_at hk)))) fun H2 e2 => q H2 (e1.trans e2)
    · have hk : ns.length ≤ k := by
        have := of_decide_eq_false hb
        rw [List.length_map] at this
        omega
      refine s_ret ev_c fun H2 e2 => ?_
      have := q H2 (e1.trans e2)
      rw [getD_ge hk] at this
      exact this

/-! ### numbers from cells -/
def mixedI (c k p : Int) : Int := (c + 7 * k + 1) * 48271 % p
def spMixed : Sp := fun vs H Q _ => ∃ c k p : Int, vs = [.int c, .int k, .int p] ∧ 0 < p ∧ ∀ H', Ex H H' → Q (.int (mixedI c k p)) H'
theorem v_mixed {c k p : Int} (hp : 0 < p) : SpV spMixed [.int c, .int k, .int p] H (.int (mixedI c k p)) := fun H1 e Q q E => ⟨c, k, p, rfl, hp, q⟩
theorem ok_law_mixed (T : TX K mg) : FnOk P w K mg base CX0 1 T.f_law_mixed T.d_law_mixed ["_law_cell", "_law_k", "_law_prime"] spMixed := by
  refine T.h_law_mixed.F.ok sc_law_mixed (fun vs H Q E h => ?_) (fun cdv A outer s H vs Q E hr h => ?_)
  · obtain ⟨c, k, p, rfl, _⟩ := h
    rfl
  · obtain ⟨c, k, p, rfl, hp, q⟩ := h
    refine ⟨_, (pss_one (ps_ret (pe_op op_mod (pe_op op_mul (pe_op op_add (pe_op op_add (pv 0) (pe_op op_mul pe_int (pv 1))) pe_int) pe_int) (pv 2)))), ?_⟩
    exact s_ret (by walk_at "ev") q
def countI (c : Int) : Int := if c % 64 = 1 then 25 + c / 64 % 36 else if c % 8 = 5 then 8 + c / 8 % 17 else c / 8 % 12
theorem countI_le (c : Int) : 0 ≤ countI c ∧ countI c ≤ 60 := by
  unfold countI
  split
  · omega
  · split
    · omega
    · omega
def spCount : Sp := fun vs H Q _ => ∃ c : Int, vs = [.int c] ∧ ∀ H', Ex H H' → Q (.int (countI c)) H'
theorem v_count {c : Int} : SpV spCount [.int c] H (.int (countI c)) := fun H1 e Q q E => ⟨c, rfl, q⟩
theorem ok_law_count_by (T : TX K mg) : FnOk P w K mg base CX0 1 T.f_law_count_by T.d_law_count_by ["_law_cell"] spCount := by
  refine T.h_law_count_by.F.ok sc_law_count_by (fun vs H Q E h => ?_) (fun cdv A outer s H vs Q E hr h => ?_)
  · obtain ⟨c, rfl, _⟩ := h
    rfl
  · obtain ⟨c, rfl, q⟩ := h
    refine ⟨_, (pss_cons (ps_if (pt_cmpR op_eq (pe_op op_mod (pv 0) pe_int) pe_int (nomark _))
    (pss_one (ps_ret (pe_op op_add pe_int (pe_op op_mod (pe_op op_fdiv (pv 0) pe_int) pe_int))))
    pss_nil)
  (pss_cons (ps_if (pt_cmpR op_eq (pe_op op_mod (pv 0) pe_int) pe_int (nomark _))
    (pss_one (ps_ret (pe_op op_add pe_int (pe_op op_mod (pe_op op_fdiv (pv 0) pe_int) pe_int))))
    pss_nil)
  (pss_one (ps_ret (pe_op op_mod (pe_op op_fdiv (pv 0) pe_int) pe_int))))), ?_⟩
    refine q_when (b := decide (V.int (c % 64) = V.int 1)) (by walk_at "evt") (fun hb H1 e1 => ?_) (fun hb H1 e1 => ?_)
    · have e0 : c % 64 = 1 := V.int.inj (of_decide_eq_true hb)
      refine s_ret (v := .int (25 + c / 64 % 36)) (by walk_at "ev") fun H2 e2 => ?_
      have := q H2 (e1.trans e2)
      unfold countI at this
      rw [if_pos e0] at this
      exact this
    · have e0 : ¬ c % 64 = 1 := fun z => of_decide_eq_false hb (by rw [z])
      refine q_when (b := decide (V.int (c % 8) = V.int 5)) (by walk_at "evt") (fun hb H2 e2 => ?_) (fun hb H2 e2 => ?_)
      · have e3 : c % 8 = 5 := V.int.inj (of_decide_eq_true hb)
        refine s_ret (v := .int (8 + c / 8 % 17)) (by walk_at "ev") fun H3 e4 => ?_
        have := q H3 ((e1.trans e2).trans e4)
        unfold countI at this
        rw [if_neg e0, if_pos e3] at this
        exact this
      · have e3 : ¬ c % 8 = 5 := fun z => of_decide_eq_false hb (by rw [z])
        refine s_ret (v := .int (c / 8 % 12)) (by walk_at "ev") fun H3 e4 => ?_
        have := q H3 ((e1.trans e2).trans e4)
        unfold countI at this
        rw [if_neg e0, if_neg e3] at this
        exact this
def wideI (c : Int) : Int := if c % 4 = 3 then 2 + c / 4 % BW else 1
theorem wideI_le (c : Int) : 1 ≤ wideI c ∧ wideI c ≤ BW + 1 := by
  unfold wideI BW
  split <;> omega
def spWide : Sp := fun vs H Q _ => ∃ c : Int, vs = [.int c] ∧ ∀ H', Ex H H' → Q (.int (wideI c)) H'
theorem v_wide {c : Int} : SpV spWide [.int c] H (.int (wideI c)) := fun H1 e Q q E => ⟨c, rfl, q⟩
theorem ok_law_wide_by (T : TX K mg) : FnOk P w K mg base CX0 1 T.f_law_wide_by T.d_law_wide_by ["_law_cell"] spWide := by
  refine T.h_law_wide_by.F.ok sc_law_wide_by (fun vs H Q E h => ?_) (fun cdv A outer s H vs Q E hr h => ?_)
  · obtain ⟨c, rfl, _⟩ := h
    rfl
  · obtain ⟨c, rfl, q⟩ := h
    refine ⟨_, (pss_cons (ps_if (pt_cmpR op_eq (pe_op op_mod (pv 0) pe_int) pe_int (nomark _))
    (pss_one (ps_ret (pe_op op_add pe_int (pe_op op_mod (pe_op op_fdiv (pv 0) pe_int) (pe_op op_pow pe_int pe_int)))))
    pss_nil)
  (pss_one (ps_ret pe_int))), ?_⟩
    refine q_when (b := decide (V.int (c % 4) = V.int 3)) (by walk_at "evt") (fun hb H1 e1 => ?_) (fun hb H1 e1 => ?_)
    · have e0 : c % 4 = 3 := V.int.inj (of_decide_eq_true hb)
      refine s_ret (v := .int (2 + c / 4 % (10 ^ (56 : Int).toNat))) (ev_op ev_c (ev_op (by walk_at "ev") (ev_op ev_c ev_c (rv_I cpow56)) (rv_I (by decide))) rv_I0) fun H2 e2 => ?_
      have := q H2 (e1.trans e2)
      unfold wideI at this
      rw [if_pos e0] at this
      exact this
    · have e0 : ¬ c % 4 = 3 := fun z => of_decide_eq_false hb (by rw [z])
      refine s_ret ev_c fun H3 e4 => ?_
      have := q H3 (e1.trans e4)
      unfold wideI at this
      rw [if_neg e0] at this
      exact this
end
end DLL
namespace DLL
open PySem PySem.Spec PyProof.Rows L2 Evl DL
section
variable {P : Program} {w : World} {K : PySem.W.Frag} {mg : Str → Option Value} {base : Heap} {H : Hp}
def jobI (come len due wide more : Int) : T3 :=
  let c := come % (20 + 3 * more)
  let d := c + 1 + due % (18 + 2 * more)
  if wide < 2 then (c, 1 + len % 6, d) else (c * wide + len / 12 % wide, (1 + len / 2 % 6) * wide - len % 2, d * wide)
theorem jobI_ok {come len due wide more : Int} (hm : 0 ≤ more ∧ more ≤ 60) (hw : 1 ≤ wide ∧ wide ≤ BW + 1) : JobOk (jobI come len due wide more) := by
  unfold jobI
  have c0 : 0 ≤ come % (20 + 3 * more) := Int.emod_nonneg _ (by omega)
  have c1 : come % (20 + 3 * more) < 20 + 3 * more := Int.emod_lt_of_pos _ (by omega)
  have d0 : 0 ≤ due % (18 + 2 * more) := Int.emod_nonneg _ (by omega)
  have d1 : due % (18 + 2 * more) < 18 + 2 * more := Int.emod_lt_of_pos _ (by omega)
  dsimp only
  generalize come % (20 + 3 * more) = c at *
  generalize due % (18 + 2 * more) = d at *
  by_cases h : wide < 2
  · rw [if_pos h]
    have hb : (1000 : Int) < BJ := by decide
    exact ⟨⟨c0, by show 1 ≤ 1 + len % 6; omega, by show c < c + 1 + d; omega⟩, by show c < BJ; omega, by show 1 + len % 6 < BJ; omega, by show c + 1 + d < BJ; omega⟩
  · rw [if_neg h]
    have w0 : 0 ≤ wide := by omega
    have e0 : 0 ≤ len / 12 % wide := Int.emod_nonneg _ (by omega)
    have e1 : len / 12 % wide < wide := Int.emod_lt_of_pos _ (by omega)
    generalize len / 12 % wide = e at *
    have p1 := mul_bound (a := c) (n := 200) c0 (by omega) w0
    have p2 := mul_bound (a := 1 + len / 2 % 6) (n := 6) (by omega) (by omega) w0
    have p2' := Int.mul_le_mul_of_nonneg_right (show 1 ≤ 1 + len / 2 % 6 by omega) w0
    have p3 := mul_bound (a := c + 1 + d) (n := 400) (by omega) (by omega) w0
    have p4 := mul_step (a := c) (b := c + 1 + d) (by omega) w0
    have hb : BW + 1 = 100000000000000000000000000000000000000000000000000000001 := by decide
    have hc : BJ = 1000000000000000000000000000000000000000000000000000000000000 := by decide
    refine ⟨⟨?_, ?_, ?_⟩, ?_, ?_, ?_⟩
    · show 0 ≤ c * wide + e; omega
    · show 1 ≤ (1 + len / 2 % 6) * wide - len % 2; omega
    · show c * wide + e < (c + 1 + d) * wide; omega
    · show c * wide + e < BJ; omega
    · show (1 + len / 2 % 6) * wide - len % 2 < BJ; omega
    · show (c + 1 + d) * wide < BJ; omega
def spJobBy : Sp := fun vs H Q _ => ∃ come len due wide more : Int, vs = [.int come, .int len, .int due, .int wide, .int more] ∧ (0 ≤ more ∧ more ≤ 60) ∧ (1 ≤ wide ∧ wide ≤ BW + 1) ∧
  ∀ p H', H p = none → Ex H H' → AtT H' p (jobI come len due wide more) → Q (.ref p) H'
theorem ok_law_job_by (T : TX K mg) : FnOk P w K mg base CX0 1 T.f_law_job_by T.d_law_job_by ["_law_come", "_law_length", "_law_due", "_law_wide", "_law_more"] spJobBy := by
  refine T.h_law_job_by.F.ok sc_law_job_by (fun vs H Q E h => ?_) (fun cdv A outer s H vs Q E hr h => ?_)
  · obtain ⟨_, _, _, _, _, rfl, _⟩ := h
    rfl
  · obtain ⟨come, len, due, wide, more, rfl, hm, hw, q⟩ := h
    refine ⟨_, (pss_cons (ps_set (i := 0) sc_law_job_by.nd rfl (.inl rfl) (pe_op op_mod (pv 0) (pe_op op_add pe_int (pe_op op_mul pe_int (pv 4)))))
  (pss_cons (ps_set (i := 2) sc_law_job_by.nd rfl (.inl rfl) (pe_op op_add (pe_op op_add (pv 0) pe_int) (pe_op op_mod (pv 2) (pe_op op_add pe_int (pe_op op_mul pe_int (pv 4))))))
  (pss_cons (ps_if (pt_cmpR op_lt (pv 3) pe_int (nomark _))
    (pss_one (ps_ret (pe_tup (pa_cons (pv 0) (pa_cons (pe_op op_add pe_int (pe_op op_mod (pv 1) pe_int)) (pa_cons (pv 2) pa_nil))))))
    pss_nil)
  (pss_one (ps_ret (pe_tup (pa_cons (pe_op op_add (pe_op op_mulW (pv 0) (pv 3)) (pe_op op_mod (pe_op op_fdiv (pv 1) pe_int) (pv 3))) (pa_cons (pe_op op_sub (pe_op op_mulW (pe_op op_add pe_int (pe_op op_mod (pe_op op_fdiv (pv 1) pe_int) pe_int)) (pv 3)) (pe_op op_mod (pv 1) pe_int)) (pa_cons (pe_op op_mulW (pv 2) (pv 3)) pa_nil))))))))), ?_⟩
    have c0 : 0 ≤ come % (20 + 3 * more) := Int.emod_nonneg _ (by omega)
    have c1 : come % (20 + 3 * more) < 20 + 3 * more := Int.emod_lt_of_pos _ (by omega)
    have d0 : 0 ≤ due % (18 + 2 * more) := Int.emod_nonneg _ (by omega)
    have d1 : due % (18 + 2 * more) < 18 + 2 * more := Int.emod_lt_of_pos _ (by omega)
    refine q_asg (v := .int (come % (20 + 3 * more))) (by walk_at "ev") fun H1 e1 => ?_
    refine q_asg (v := .int (come % (20 + 3 * more) + 1 + due % (18 + 2 * more))) (by walk_at "ev") fun H2 e2 => ?_
    have ej : jobI come len due wide more = if wide < 2 then (come % (20 + 3 * more), 1 + len % 6, come % (20 + 3 * more) + 1 + due % (18 + 2 * more)) else (come % (20 + 3 * more) * wide + len / 12 % wide, (1 + len / 2 % 6) * wide - len % 2, (come % (20 + 3 * more) + 1 + due % (18 + 2 * more)) * wide) := rfl
    rw [ej] at q
    generalize come % (20 + 3 * more) = c at *
    generalize due % (18 + 2 * more) = d at *
    refine q_when (b := decide (wide < 2)) (by walk_at "evt") (fun hb H3 e3 => ?_) (fun hb H3 e3 => ?_)
    · rw [if_pos (of_decide_eq_true hb)] at q
      refine s_retU (xs := tv (c, 1 + len % 6, c + 1 + d)) (eu_three (by walk_at "ev") (by walk_at "ev") (by walk_at "ev")) fun p H4 hp e4 ht => ?_
      exact q p H4 (fresh_back ((e1.trans e2).trans e3) hp) (((e1.trans e2).trans e3).trans e4) ht
    · rw [if_neg (of_decide_eq_false hb)] at q
      have hbb : BW + 1 ≤ BJ := by decide
      have hb0 : (1000 : Int) ≤ BJ := by decide
      refine s_retU (xs := tv (c * wide + len / 12 % wide, (1 + len / 2 % 6) * wide - len % 2, (c + 1 + d) * wide)) (eu_three ?_ ?_ ?_) fun p H4 hp e4 ht => ?_
      · exact ev_op (ev_op (ev_var rfl) (ev_var rfl) (rv_I (cmulW (by omega) (by omega) (by omega) (by omega)))) (ev_op (by walk_at "ev") (ev_var rfl) (rv_I (by show 0 < wide; omega))) rv_I0
      · exact ev_op (ev_op (by walk_at "ev") (ev_var rfl) (rv_I (cmulW (by omega) (by omega) (by omega) (by omega)))) (by walk_at "ev") rv_I0
      · exact ev_op (ev_var rfl) (ev_var rfl) (rv_I (cmulW (by omega) (by omega) (by omega) (by omega)))
      exact q p H4 (fresh_back ((e1.trans e2).trans e3) hp) (((e1.trans e2).trans e3).trans e4) ht
theorem v_job_by {come len due wide more : Int} (hm : 0 ≤ more ∧ more ≤ 60) (hw : 1 ≤ wide ∧ wide ≤ BW + 1) {σ : St} {ta : TA} {E : XK} (h : EvA ta σ H [.int come, .int len, .int due, .int wide, .int more]) :
    EvU (tCall spJobBy [] E ta) σ H (tv (jobI come len due wide more)) := fun H1 e Q k =>
  h H1 e _ fun H2 e2 => ⟨come, len, due, wide, more, rfl, hm, hw, fun p H3 hp e3 ht => k p H3 (fresh_back e2 hp) (e2.trans e3) ht⟩
end
end DLL
namespace DLL
open PySem PySem.Spec PyProof.Rows L2 Evl DL
def Small (k : Nat) (js : List T3) : Prop := ∀ j ∈ js, 0 ≤ j.1 ∧ j.1 < j.2.2 ∧ 1 ≤ j.2.1 ∧ j.2.1 ≤ 4 * k ∧ j.2.2 ≤ 5 * k + 2
theorem Small.mono {k m : Nat} {js : List T3} (h : Small k js) (l : k ≤ m) : Small m js := fun j hj => by
  have := h j hj
  omega
theorem Small.snoc {k : Nat} {js : List T3} {j : T3} (h : Small k js) (c : 0 ≤ j.1 ∧ j.1 < j.2.2 ∧ 1 ≤ j.2.1 ∧ j.2.1 ≤ 4 * k ∧ j.2.2 ≤ 5 * k + 2) : Small k (js ++ [j]) := fun x hx => by
  rcases List.mem_append.mp hx with e | e
  · exact h x e
  · rw [List.mem_singleton.mp e]; exact c
theorem Small.put {k n : Nat} {js : List T3} {j : T3} (h : Small k js) (c : 0 ≤ j.1 ∧ j.1 < j.2.2 ∧ 1 ≤ j.2.1 ∧ j.2.1 ≤ 4 * k ∧ j.2.2 ≤ 5 * k + 2) : Small k (js.take n ++ [j] ++ js.drop (n + 1)) := fun x hx => by
  rcases List.mem_append.mp hx with e | e
  · rcases List.mem_append.mp e with e | e
    · exact h x (List.mem_of_mem_take e)
    · rw [List.mem_singleton.mp e]; exact c
  · exact h x (List.mem_of_mem_drop e)
theorem put_len {n : Nat} {js : List T3} {j : T3} (h : n < js.length) : (js.take n ++ [j] ++ js.drop (n + 1)).length = js.length := by
  rw [List.length_append, List.length_append, List.length_take, List.length_drop, List.length_singleton]
  omega
section
variable {P : Program} {w : World} {K : PySem.W.Frag} {mg : Str → Option Value} {base : Heap} {H : Hp}
def spTight : Sp := fun vs H Q _ => ∃ cell count wide : Int, vs = [.int cell, .int count, .int wide] ∧ (0 ≤ count ∧ count ≤ 60) ∧ (1 ≤ wide ∧ wide ≤ BW + 1) ∧
  ∀ p H' js, H p = none → Ex H H' → TL H' p js → js.length ≤ 60 → (∀ j ∈ js, JobOk j) → Q (.ref p) H'
theorem toNat_at {x n : Int} (h0 : 0 ≤ x) (h : x < n) {js : List T3} (hl : (js.length : Int) = n) : x.toNat < js.length ∧ x = ((x.toNat : Nat) : Int) := by omega
theorem wide_ok {j : T3} {wide : Int} (hw : 1 ≤ wide ∧ wide ≤ BW + 1) (h : 0 ≤ j.1 ∧ j.1 < j.2.2 ∧ 1 ≤ j.2.1 ∧ j.2.1 ≤ 480 ∧ j.2.2 ≤ 602) : JobOk (j.1 * wide, j.2.1 * wide, j.2.2 * wide) := by
  have w0 : 0 ≤ wide := by omega
  have p1 := mul_bound (a := j.1) (n := 602) (w := wide) h.1 (by omega) w0
  have p2 := mul_bound (a := j.2.1) (n := 480) (w := wide) (by omega) (by omega) w0
  have p2' := Int.mul_le_mul_of_nonneg_right h.2.2.1 w0
  have p3 := mul_bound (a := j.2.2) (n := 602) (w := wide) (by omega) (by omega) w0
  have p4 := mul_step h.2.1 w0
  have hb : BW + 1 = 100000000000000000000000000000000000000000000000000000001 := by decide
  have hc : BJ = 1000000000000000000000000000000000000000000000000000000000000 := by decide
  exact ⟨⟨p1.1, by show 1 ≤ j.2.1 * wide; omega, by show j.1 * wide < j.2.2 * wide; omega⟩, by show j.1 * wide < BJ; omega, by show j.2.1 * wide < BJ; omega, by show j.2.2 * wide < BJ; omega⟩
theorem less_ok {j : T3} (h : JobOk j) : JobOk (j.1, j.2.1, max (j.1 + 1) (j.2.2 - 1)) := by
  obtain ⟨⟨h1, h2, h3⟩, h4, h5, h6⟩ := h
  exact ⟨⟨h1, h2, by show j.1 < max (j.1 + 1) (j.2.2 - 1); omega⟩, h4, h5, by show max (j.1 + 1) (j.2.2 - 1) < BJ; omega⟩
theorem ok_law_tight_by (T : TX K mg) : FnOk P w K mg base CX0 2 T.f_law_tight_by T.d_law_tight_by ["_law_cell", "_law_count", "_law_wide"] spTight := by
  refine T.h_law_tight_by.F.ok sc_law_tight_by (fun vs H Q E h => ?_) (fun cdv A outer s H vs Q E hr h => ?_)
  · obtain ⟨_, _, _, rfl, _⟩ := h
    rfl
  · obtain ⟨cell, count, wide, rfl, hc, hw, q⟩ := h
    refine ⟨_, (pss_cons (ps_set (i := 3) sc_law_tight_by.nd rfl (.inl rfl) (pe_lst pa_nil))
  (pss_cons (ps_set (i := 4) sc_law_tight_by.nd rfl (.inl rfl) pe_int)
  (pss_cons (ps_for PassesOwn.never rfl (pi_range1 (by rfl) T.b_range (pa_cons (pe_op op_mul pe_int (pv 1)) pa_nil)) (pg_name (i := 5) sc_law_tight_by.nd rfl (.inl rfl))
    (pss_cons (ps_set (i := 6) sc_law_tight_by.nd rfl (.inl rfl) (pe_call (ok_law_mixed T) (hr.mono (by decide)) (by rfl) T.h_law_mixed.g T.h_law_mixed.F.kp T.h_law_mixed.b .nil pass0 (pa_cons (pv 0) (pa_cons (pv 5) (pa_cons pe_int pa_nil)))))
  (pss_cons (ps_set (i := 7) sc_law_tight_by.nd rfl (.inl rfl) (pe_op op_add (pv 4) (pe_op op_fdiv (pe_op op_mod (pv 6) pe_int) pe_int)))
  (pss_cons (ps_set (i := 4) sc_law_tight_by.nd rfl (.inl rfl) (pe_op op_add (pe_op op_add (pv 7) pe_int) (pe_op op_mod (pe_op op_fdiv (pv 6) pe_int) pe_int)))
  (pss_one (ps_if (pt_cmpR op_lt (pv 5) (pv 1) (nomark _))
    (pss_one (ps_expr (pe_bm PySem.F.plainAttrs_list PySem.F.slot_list_append PySem.F.type_list_append mt_append (pv 3) (pa_cons (pe_tup (pa_cons (pe_callB (id := "max") (call_max2 rfl) (by rfl) T.b_max (by decide +kernel) (pa_cons pe_int (pa_cons (pe_op op_sub (pv 7) (pe_op op_mod (pe_op op_fdiv (pv 6) pe_int) pe_int)) pa_nil))) (pa_cons (pe_op op_sub (pv 4) (pv 7)) (pa_cons (pe_op op_add (pv 4) (pe_op op_mod (pe_op op_fdiv (pv 6) pe_int) pe_int)) pa_nil)))) pa_nil))))
    (pss_cons (ps_set (i := 8) sc_law_tight_by.nd rfl (.inl rfl) (pe_op op_mod (pe_op op_fdiv (pv 6) pe_int) (pv 1)))
  (pss_cons (ps_asg (pe_ix (r := rIxL K) ix_list (pv 3) (pv 8) (fun _ _ => rfl)) (pg_tup rfl (pgs_cons (pg_name (i := 9) sc_law_tight_by.nd rfl (.inl rfl)) (pgs_cons (pg_name (i := 10) sc_law_tight_by.nd rfl (.inl rfl)) (pgs_cons (pg_name (i := 11) sc_law_tight_by.nd rfl (.inl rfl)) pgs_nil)))))
  (pss_one (ps_set (i := 3) sc_law_tight_by.nd rfl (.inl rfl) (pe_op op_cat (pe_op op_cat (pe_slice (r := rSlL K) sl_list (pv 3) po_none (po_some (pv 8))) (pe_lst (pa_cons (pe_tup (pa_cons (pv 9) (pa_cons (pe_op op_sub (pe_op op_add (pv 10) (pv 4)) (pv 7)) (pa_cons (pe_callB (id := "max") (call_max2 rfl) (by rfl) T.b_max (by decide +kernel) (pa_cons (pv 11) (pa_cons (pe_op op_add (pv 4) (pe_op op_mod (pe_op op_fdiv (pv 6) pe_int) pe_int)) pa_nil))) pa_nil)))) pa_nil))) (pe_slice (r := rSlL K) sl_list (pv 3) (po_some (pe_op op_add (pv 8) pe_int)) po_none))))))))))))
  (pss_cons (ps_setLc (i := 3) (own := [("_law_come", 9), ("_law_length", 10), ("_law_due", 11)]) (g := (gTup K 3 (gCons (gName 9) (gCons (gName 10) (gCons (gName 11) gNil))))) (tt := tYes) rfl sc_law_tight_by.nd rfl rfl (sw_true rfl rfl rfl (by decide +kernel)) (pi_list (pv 3)) (blkOk_by (own := [("_law_come", 9), ("_law_length", 10), ("_law_due", 11)]) (N := N_law_tight_by) (sc := defScope s_law_tight_by) (by decide +kernel)) (fun _ _ _ _ _ => (pg_tup rfl (pgs_cons (pg_name (i := 9) sc_law_tight_by.nd rfl (.inl rfl)) (pgs_cons (pg_name (i := 10) sc_law_tight_by.nd rfl (.inl rfl)) (pgs_cons (pg_name (i := 11) sc_law_tight_by.nd rfl (.inl rfl)) pgs_nil))))) (fun _ _ _ _ _ => pts_nil) (fun _ _ _ _ _ => (pe_tup (pa_cons (pe_op op_mulW (pv 9) (pv 2)) (pa_cons (pe_op op_mulW (pv 10) (pv 2)) (pa_cons (pe_op op_mulW (pv 11) (pv 2)) pa_nil))))))
  (pss_cons (ps_if (PW.pt (pw_and (pt_cmpR op_gt (pv 1) pe_int (nomark _)) (pw_and1 (pt_cmpR op_eq (pe_op op_mod (pe_op op_fdiv (pv 0) pe_int) pe_int) pe_int (nomark _)))))
    (pss_cons (ps_set (i := 8) sc_law_tight_by.nd rfl (.inl rfl) (pe_op op_mod (pe_op op_fdiv (pv 0) pe_int) (pv 1)))
  (pss_cons (ps_asg (pe_ix (r := rIxL K) ix_list (pv 3) (pv 8) (fun _ _ => rfl)) (pg_tup rfl (pgs_cons (pg_name (i := 9) sc_law_tight_by.nd rfl (.inl rfl)) (pgs_cons (pg_name (i := 10) sc_law_tight_by.nd rfl (.inl rfl)) (pgs_cons (pg_name (i := 11) sc_law_tight_by.nd rfl (.inl rfl)) pgs_nil)))))
  (pss_one (ps_set (i := 3) sc_law_tight_by.nd rfl (.inl rfl) (pe_op op_cat (pe_op op_cat (pe_slice (r := rSlL K) sl_list (pv 3) po_none (po_some (pv 8))) (pe_lst (pa_cons (pe_tup (pa_cons (pv 9) (pa_cons (pv 10) (pa_cons (pe_callB (id := "max") (call_max2 rfl) (by rfl) T.b_max (by decide +kernel) (pa_cons (pe_op op_add (pv 9) pe_int) (pa_cons (pe_op op_sub (pv 11) pe_int) pa_nil))) pa_nil)))) pa_nil))) (pe_slice (r := rSlL K) sl_list (pv 3) (po_some (pe_op op_add (pv 8) pe_int)) po_none))))))
    pss_nil)
  (pss_one (ps_ret (pv 3)))))))), ?_⟩
    refine q_asgTL etl_nil fun l0 H1 n0 e1 h1 => ?_
    refine q_asg ev_c fun H2 e2 => ?_
    refine q_forR1 (n := 2 * count) (ea_cons (by walk_at "ev") ea_nil) (by omega) (fun i σ' H' => ∃ (l : Addr) (js : List T3) (t : Int) (x5 x6 x7 x8 x9 x10 x11 : Option V), σ' = [some (.int cell), some (.int count), some (.int wide), some (.ref l), some (.int t), x5, x6, x7, x8, x9, x10, x11] ∧
      Ex H H' ∧ H l = none ∧ TL H' l js ∧ js.length = min i count.toNat ∧ Small i js ∧ 0 ≤ t ∧ t ≤ 5 * i)
      (fun H3 e3 => ⟨l0, [], 0, none, none, none, none, none, none, none, rfl, (e1.trans e2).trans e3, n0, (h1.mono e2).mono e3, by simp, fun j hj => by simp at hj, by omega, by omega⟩) ?_ ?_
    · rintro i σ' H' hi ⟨l, js, t, x5, x6, x7, x8, x9, x10, x11, rfl, eH, nl, hT, hlen, hS, t0, t1⟩
      have hjl : js.length ≤ 60 := by omega
      -- _law_mix
      refine q_asg (ev_call (ea_cons (ev_var rfl) (ea_cons (ev_var rfl) (ea_cons ev_c ea_nil))) (v_mixed (by decide))) fun H3 e3 => ?_
      have m0 : 0 ≤ mixedI cell (i : Int) 2147483647 := Int.emod_nonneg _ (by decide)
      generalize mixedI cell (i : Int) 2147483647 = mx at *
      refine q_asg (v := .int (t + mx % 6 / 5)) (by walk_at "ev") fun H4 e4 => ?_
      refine q_asg (v := .int (t + mx % 6 / 5 + 1 + mx / 6 % 4)) (by walk_at "ev") fun H5 e5 => ?_
      have b0 : 0 ≤ mx % 6 / 5 ∧ mx % 6 / 5 ≤ 1 := by omega
      have b1 : 0 ≤ mx / 6 % 4 ∧ mx / 6 % 4 ≤ 3 := by omega
      have b2 : 0 ≤ mx / 24 % 3 ∧ mx / 24 % 3 ≤ 2 := by omega
      have b3 : 0 ≤ mx / 72 % 3 ∧ mx / 72 % 3 ≤ 2 := by omega
      have b4 : 0 ≤ mx / 72 % 2 ∧ mx / 72 % 2 ≤ 1 := by omega
      have m24 : 0 ≤ mx / 24 := by omega
      have e35 := (e3.trans e4).trans e5
      have hT5 := hT.mono e35
      refine s_if (b := decide ((i : Int) < count)) (by walk_at "evt") (fun hb H6 e6 => ?_) (fun hb H6 e6 => ?_)
      · have hik : i < count.toNat := by have := of_decide_eq_true hb; omega
        refine s_appT (hT5.mono e6) (ev_var rfl) (j := (max 0 (t + mx % 6 / 5 - mx / 24 % 3), t + mx % 6 / 5 + 1 + mx / 6 % 4 - (t + mx % 6 / 5), t + mx % 6 / 5 + 1 + mx / 6 % 4 + mx / 72 % 3)) (eu_three (ev_mx2 ev_c (by walk_at "ev") fun _ _ q => ⟨_, _, rfl, q⟩) (by walk_at "ev") (by walk_at "ev")) (by omega) fun H7 md hT7 => ?_
        refine ⟨l, _, _, _, _, _, _, _, _, _, rfl, md.base ((eH.trans e35).trans e6) nl, nl, hT7, ?_, ?_, by omega, by omega⟩
        · rw [List.length_append, List.length_singleton, hlen]; omega
        · refine (hS.mono (Nat.le_succ i)).snoc ⟨?_, ?_, ?_, ?_, ?_⟩
          all_goals (dsimp only; omega)
      · have hik : count ≤ (i : Int) := by have := of_decide_eq_false hb; omega
        have hcp : 0 < count := by omega
        have hl2 : (js.length : Int) = count := by omega
        -- _law_at
        refine q_asg (v := .int (mx / 24 % count)) (ev_op (by walk_at "ev") (ev_var rfl) (rv_I (by show 0 < count; exact hcp))) fun H7 e7 => ?_
        have a0 : 0 ≤ mx / 24 % count := Int.emod_nonneg _ (by omega)
        have a1 : mx / 24 % count < count := Int.emod_lt_of_pos _ hcp
        generalize mx / 24 % count = at_ at *
        obtain ⟨g1, g2⟩ := toNat_at a0 a1 hl2
        generalize at_.toNat = n at *
        subst g2
        have hT7 := hT5.mono (e6.trans e7)
        obtain ⟨tt, ts, k1, k2, k3⟩ := hT7.atI (List.getElem?_eq_getElem g1)
        -- _law_come, _law_length, _law_due = _law_jobs[_law_at]
        refine (ev_op (ev_var rfl) (ev_var rfl) (rv_ixL (SqL.of k1) (atI_nat k2))) H7 (Ex.refl _) _ fun H8 e8 => ?_
        refine g_three (e8 _ _ k3) ?_
        have hS7 := hS js[n] (List.getElem_mem g1)
        generalize js[n] = jn at *
        have hT8 := hT7.mono e8
        refine s_asgTL (etl_cat (etl_cat (etl_take (n := n) (ev_var rfl) (ev_var rfl) hT8) (etl_one (j := (jn.1, jn.2.1 + (t + mx % 6 / 5 + 1 + mx / 6 % 4) - (t + mx % 6 / 5), max jn.2.2 (t + mx % 6 / 5 + 1 + mx / 6 % 4 + mx / 72 % 2))) (eu_three (ev_var rfl) (by walk_at "ev") (ev_mx2 (ev_var rfl) (by walk_at "ev") fun _ _ q => ⟨_, _, rfl, q⟩))) (by simp only [List.length_take, List.length_cons, List.length_nil]; omega))
          (etl_drop (n := n + 1) (ev_var rfl) (ev_is (v := .int ((n : Int) + 1)) (by walk_at "ev") rfl) hT8) (by simp only [List.length_append, List.length_take, List.length_drop, List.length_cons, List.length_nil]; omega)) fun l9 H9 n9 e9 hT9 => ?_
        have eAll := ((((eH.trans e35).trans e6).trans e7).trans e8)
        refine ⟨l9, _, _, _, _, _, _, _, _, _, rfl, eAll.trans e9, fresh_back eAll n9, hT9, ?_, ?_, by omega, by omega⟩
        · rw [put_len g1, hlen]; omega
        · refine (hS.mono (Nat.le_succ i)).put ⟨?_, ?_, ?_, ?_, ?_⟩
          all_goals (dsimp only; omega)
    · rintro σ' H' ⟨l, js, t, x5, x6, x7, x8, x9, x10, x11, rfl, eH, nl, hT, hlen, hS, t0, t1⟩
      have hcn : (2 * count).toNat ≤ 120 := by omega
      have hjl : js.length ≤ 60 := by omega
      have hl2 : (js.length : Int) = count := by omega
      have hbw : BW + 1 ≤ BJ := by decide
      have hb0 : (1000 : Int) ≤ BJ := by decide
      have hS2 : ∀ j ∈ js, 0 ≤ j.1 ∧ j.1 < j.2.2 ∧ 1 ≤ j.2.1 ∧ j.2.1 ≤ 480 ∧ j.2.2 ≤ 602 := fun j hj => by
        have := hS j hj
        omega
      -- the times made wider
      refine q_asgTL (etl_lc (fun _ => true) (fun j => (j.1 * wide, j.2.1 * wide, j.2.2 * wide)) (fun j _ => [some (.int cell), some (.int count), some (.int wide), some (.ref l), some (.int t), x5, x6, x7, x8, some (.int j.1), some (.int j.2.1), some (.int j.2.2)])
        (ev_var rfl) hT (by omega) (fun j u H1 Q' hu hq => g_three hu hq) (fun j u => rfl) (fun j u H1 hj _ _ => fun H2 _ Q' k => k H2 (Ex.refl _)) (fun j u H1 hj _ _ _ => .inl ?_)) fun l4 H4 n4 e4 hT4 => ?_
      · have := hS2 j hj
        exact eu_three (ev_op (ev_var rfl) (ev_var rfl) (rv_I (cmulW (by omega) (by omega) (by omega) (by omega)))) (ev_op (ev_var rfl) (ev_var rfl) (rv_I (cmulW (by omega) (by omega) (by omega) (by omega)))) (ev_op (ev_var rfl) (ev_var rfl) (rv_I (cmulW (by omega) (by omega) (by omega) (by omega))))
      rw [List.filter_eq_self.mpr (fun _ _ => rfl)] at hT4
      have hJ : ∀ j ∈ js.map (fun j => (j.1 * wide, j.2.1 * wide, j.2.2 * wide)), JobOk j := fun j hj => by
        obtain ⟨i, hi, rfl⟩ := List.mem_map.mp hj
        exact wide_ok hw (hS2 i hi)
      have hl4 : (js.map (fun j => (j.1 * wide, j.2.1 * wide, j.2.2 * wide))).length = js.length := List.length_map _
      generalize js.map (fun j => (j.1 * wide, j.2.1 * wide, j.2.2 * wide)) = js4 at *
      refine q_when (b := decide (0 < count) && decide (V.int (cell / 3 % 3) = V.int 1)) (et_and (by walk_at "evt") fun _ => by walk_at "evt") (fun hb H5 e5 => ?_) (fun hb H5 e5 => ?_)
      · have hcp : 0 < count := of_decide_eq_true (Bool.and_eq_true_iff.mp hb).1
        refine q_asg (v := .int (cell / 9 % count)) (ev_op (by walk_at "ev") (ev_var rfl) (rv_I (by show 0 < count; exact hcp))) fun H6 e6 => ?_
        have a0 : 0 ≤ cell / 9 % count := Int.emod_nonneg _ (by omega)
        have a1 : cell / 9 % count < count := Int.emod_lt_of_pos _ hcp
        generalize cell / 9 % count = at_ at *
        obtain ⟨g1, g2⟩ := toNat_at a0 a1 (js := js4) (by rw [hl4]; exact hl2)
        generalize at_.toNat = n at *
        subst g2
        have hT6 := (hT4.mono e5).mono e6
        obtain ⟨tt, ts, k1, k2, k3⟩ := hT6.atI (List.getElem?_eq_getElem g1)
        refine (ev_op (ev_var rfl) (ev_var rfl) (rv_ixL (SqL.of k1) (atI_nat k2))) H6 (Ex.refl _) _ fun H8 e8 => ?_
        refine g_three (e8 _ _ k3) ?_
        have hJn := hJ js4[n] (List.getElem_mem g1)
        generalize js4[n] = jn at *
        have hT8 := hT6.mono e8
        refine s_asgTL (etl_cat (etl_cat (etl_take (n := n) (ev_var rfl) (ev_var rfl) hT8) (etl_one (j := (jn.1, jn.2.1, max (jn.1 + 1) (jn.2.2 - 1))) (eu_three (ev_var rfl) (ev_var rfl) (ev_mx2 (by walk_at "ev") (by walk_at "ev") fun _ _ q => ⟨_, _, rfl, q⟩))) (by simp only [List.length_take, List.length_cons, List.length_nil]; omega))
          (etl_drop (n := n + 1) (ev_var rfl) (ev_is (v := .int ((n : Int) + 1)) (by walk_at "ev") rfl) hT8) (by simp only [List.length_append, List.length_take, List.length_drop, List.length_cons, List.length_nil]; omega)) fun l9 H9 n9 e9 hT9 => ?_
        have eAll := ((((eH.trans e4).trans e5).trans e6).trans e8)
        refine s_ret (ev_var rfl) fun H10 e10 => ?_
        refine q l9 H10 _ (fresh_back eAll n9) ((eAll.trans e9).trans e10) (hT9.mono e10) (by rw [put_len g1]; omega) fun x hx => ?_
        rcases List.mem_append.mp hx with z | z
        · rcases List.mem_append.mp z with z | z
          · exact hJ x (List.mem_of_mem_take z)
          · rw [List.mem_singleton.mp z]; exact less_ok hJn
        · exact hJ x (List.mem_of_mem_drop z)
      · refine s_ret (ev_var rfl) fun H6 e6 => ?_
        exact q l4 H6 _ (fresh_back eH n4) (((eH.trans e4).trans e5).trans e6) ((hT4.mono e5).mono e6) (by omega) hJ
end
end DLL
namespace DLL
open PySem PySem.Spec PyProof.Rows L2 Evl DL
section
variable {P : Program} {w : World} {K : PySem.W.Frag} {mg : Str → Option Value} {base : Heap} {H : Hp}
theorem ev_cell {σ : St} {ta : TA} {E : XK} {a : Addr} {ns : List Int} {k : Nat} (h : EvA ta σ H [.ref a, .int (k : Int)]) (hS : SqL K H a (ns.map V.int)) : Ev (tCall (spCellAt K) [] E ta) σ H (.int (ns.getD k 0)) := ev_call h (v_cell_at hS)
/-- the jobs of a script: some sound ones, at most sixty -/
def spJobsBy (K : PySem.W.Frag) : Sp := fun vs H Q _ => ∃ (a : Addr) (ns : List Int) (f : Nat), vs = [.ref a, .int (f : Int)] ∧ SqL K H a (ns.map V.int) ∧ ns.length ≤ 63 ∧ f ≤ 10 ∧
  ∀ p H' js, H p = none → Ex H H' → TL H' p js → js.length ≤ 60 → (∀ j ∈ js, JobOk j) → Q (.ref p) H'
theorem ok_law_jobs_by (T : TX K mg) : FnOk P w K mg base CX0 3 T.f_law_jobs_by T.d_law_jobs_by ["_law_script", "_law_first"] (spJobsBy K) := by
  refine T.h_law_jobs_by.F.ok sc_law_jobs_by (fun vs H Q E h => ?_) (fun cdv A outer s H vs Q E hr h => ?_)
  · obtain ⟨_, _, _, rfl, _⟩ := h
    rfl
  · obtain ⟨a, ns, f, rfl, hS, hn, hf, q⟩ := h
    refine ⟨_, (pss_cons (ps_set (i := 2) sc_law_jobs_by.nd rfl (.inl rfl) (pe_call (ok_law_count_by T) (hr.mono (by decide)) (by rfl) T.h_law_count_by.g T.h_law_count_by.F.kp T.h_law_count_by.b .nil pass0 (pa_cons (pe_call (ok_law_cell_at T) (hr.mono (by decide)) (by rfl) T.h_law_cell_at.g T.h_law_cell_at.F.kp T.h_law_cell_at.b .nil pass0 (pa_cons (pv 0) (pa_cons (pv 1) pa_nil))) pa_nil)))
  (pss_cons (ps_set (i := 3) sc_law_jobs_by.nd rfl (.inl rfl) (pe_call (ok_law_wide_by T) (hr.mono (by decide)) (by rfl) T.h_law_wide_by.g T.h_law_wide_by.F.kp T.h_law_wide_by.b .nil pass0 (pa_cons (pe_call (ok_law_cell_at T) (hr.mono (by decide)) (by rfl) T.h_law_cell_at.g T.h_law_cell_at.F.kp T.h_law_cell_at.b .nil pass0 (pa_cons (pv 0) (pa_cons (pe_op op_add (pv 1) pe_int) pa_nil))) pa_nil)))
  (pss_cons (ps_set (i := 4) sc_law_jobs_by.nd rfl (.inl rfl) (pe_call (ok_law_cell_at T) (hr.mono (by decide)) (by rfl) T.h_law_cell_at.g T.h_law_cell_at.F.kp T.h_law_cell_at.b .nil pass0 (pa_cons (pv 0) (pa_cons (pe_op op_add (pv 1) pe_int) pa_nil))))
  (pss_cons (ps_if (pt_cmpR op_eq (pe_op op_mod (pv 4) pe_int) pe_int (nomark _))
    (pss_one (ps_ret (pe_call (ok_law_tight_by T) (hr.mono (by decide)) (by rfl) T.h_law_tight_by.g T.h_law_tight_by.F.kp T.h_law_tight_by.b .nil pass0 (pa_cons (pv 4) (pa_cons (pv 2) (pa_cons (pv 3) pa_nil))))))
    pss_nil)
  (pss_cons (ps_set (i := 5) sc_law_jobs_by.nd rfl (.inl rfl) (pe_lst pa_nil))
  (pss_cons (ps_for PassesOwn.never rfl (pi_range1 (by rfl) T.b_range (pa_cons (pv 2) pa_nil)) (pg_name (i := 6) sc_law_jobs_by.nd rfl (.inl rfl))
    (pss_cons (ps_set (i := 7) sc_law_jobs_by.nd rfl (.inl rfl) (pe_op op_add (pe_op op_add (pv 1) pe_int) (pe_op op_mul pe_int (pv 6))))
  (pss_one (ps_if (PW.pt (pw_and (pt_cmpR op_lt (pv 2) pe_int (nomark _)) (pw_and1 (pt_cmpR op_lt (pe_op op_add (pv 7) pe_int) (pe_callB (id := "len") (r := Evl.rLenS K) call_len_seq (by rfl) T.b_len PySem.boot_len (pa_cons (pv 0) pa_nil)) (nomark _)))))
    (pss_one (ps_expr (pe_bm PySem.F.plainAttrs_list PySem.F.slot_list_append PySem.F.type_list_append mt_append (pv 5) (pa_cons (pe_call (ok_law_job_by T) (hr.mono (by decide)) (by rfl) T.h_law_job_by.g T.h_law_job_by.F.kp T.h_law_job_by.b .nil pass0 (pa_cons (pe_ix (r := rIxL K) ix_list (pv 0) (pv 7) (fun _ _ => rfl)) (pa_cons (pe_ix (r := rIxL K) ix_list (pv 0) (pe_op op_add (pv 7) pe_int) (fun _ _ => rfl)) (pa_cons (pe_ix (r := rIxL K) ix_list (pv 0) (pe_op op_add (pv 7) pe_int) (fun _ _ => rfl)) (pa_cons (pv 3) (pa_cons pe_int pa_nil)))))) pa_nil))))
    (pss_cons (ps_set (i := 8) sc_law_jobs_by.nd rfl (.inl rfl) (pe_call (ok_law_mixed T) (hr.mono (by decide)) (by rfl) T.h_law_mixed.g T.h_law_mixed.F.kp T.h_law_mixed.b .nil pass0 (pa_cons (pv 4) (pa_cons (pv 6) (pa_cons pe_int pa_nil)))))
  (pss_one (ps_expr (pe_bm PySem.F.plainAttrs_list PySem.F.slot_list_append PySem.F.type_list_append mt_append (pv 5) (pa_cons (pe_call (ok_law_job_by T) (hr.mono (by decide)) (by rfl) T.h_law_job_by.g T.h_law_job_by.F.kp T.h_law_job_by.b .nil pass0 (pa_cons (pv 8) (pa_cons (pe_call (ok_law_mixed T) (hr.mono (by decide)) (by rfl) T.h_law_mixed.g T.h_law_mixed.F.kp T.h_law_mixed.b .nil pass0 (pa_cons (pv 4) (pa_cons (pv 6) (pa_cons pe_int pa_nil)))) (pa_cons (pe_call (ok_law_mixed T) (hr.mono (by decide)) (by rfl) T.h_law_mixed.g T.h_law_mixed.F.kp T.h_law_mixed.b .nil pass0 (pa_cons (pv 4) (pa_cons (pv 6) (pa_cons pe_int pa_nil)))) (pa_cons (pv 3) (pa_cons (pv 2) pa_nil)))))) pa_nil)))))))))
  (pss_one (ps_ret (pv 5))))))))), ?_⟩
    refine q_asg (ev_call (ea_cons (ev_cell (ea_cons (ev_var rfl) (ea_cons (ev_var rfl) ea_nil)) hS) ea_nil) v_count) fun H1 e1 => ?_
    have hc := countI_le (ns.getD f 0)
    generalize countI (ns.getD f 0) = count at *
    refine q_asg (ev_call (ea_cons (ev_cell (k := f + 1) (ea_cons (ev_var rfl) (ea_cons (ev_is (v := .int ((f : Int) + 1)) (by walk_at "ev") rfl) ea_nil)) (ex_l e1 hS)) ea_nil) v_wide) fun H2 e2 => ?_
    have hw := wideI_le (ns.getD (f + 1) 0)
    generalize wideI (ns.getD (f + 1) 0) = wide at *
    refine q_asg (ev_cell (k := f + 2) (ea_cons (ev_var rfl) (ea_cons (ev_is (v := .int ((f : Int) + 2)) (by walk_at "ev") rfl) ea_nil)) (ex_l (e1.trans e2) hS)) fun H3 e3 => ?_
    generalize ns.getD (f + 2) 0 = cell at *
    refine q_when (b := decide (V.int (cell % 3) = V.int 1)) (by walk_at "evt") (fun hb H4 e4 => ?_) (fun hb H4 e4 => ?_)
    · refine s_retC (ea_cons (ev_var rfl) (ea_cons (ev_var rfl) (ea_cons (ev_var rfl) ea_nil))) fun H5 e5 => ?_
      have eA := (((e1.trans e2).trans e3).trans e4).trans e5
      exact ⟨cell, count, wide, rfl, hc, hw, fun p H' js hp e hT hl hJ => q p H' js (fresh_back eA hp) (eA.trans e) hT hl hJ⟩
    · refine q_asgTL etl_nil fun l0 H5 n5 e5 h5 => ?_
      have eA := (((e1.trans e2).trans e3).trans e4)
      refine q_forR1 (n := count) (ea_cons (ev_var rfl) ea_nil) (by omega) (fun i σ' H' => ∃ (js : List T3) (x6 x7 x8 : Option V), σ' = [some (.ref a), some (.int (f : Int)), some (.int count), some (.int wide), some (.int cell), some (.ref l0), x6, x7, x8] ∧
        Ex H H' ∧ TL H' l0 js ∧ js.length = i ∧ ∀ j ∈ js, JobOk j) (fun H6 e6 => ⟨[], none, none, none, rfl, (eA.trans e5).trans e6, h5.mono e6, rfl, fun j hj => by simp at hj⟩) ?_ ?_
      · rintro i σ' H' hi ⟨js, x6, x7, x8, rfl, eH, hT, hl, hJ⟩
        have hS' := ex_l eH hS
        refine q_asg (v := .int (((f + 3 + 3 * i : Nat)) : Int)) (ev_is (v := .int ((f : Int) + 3 + 3 * (i : Int))) (by walk_at "ev") (by congr 1)) fun H6 e6 => ?_
        have n0 : H l0 = none := fresh_back eA n5
        have hS6 := ex_l e6 hS'
        refine s_if (b := decide (count < 12) && decide (((f + 3 + 3 * i : Nat) : Int) + 2 < ((ns.map V.int).length : Int))) (et_and (by walk_at "evt") fun _ => et_test (ev_op (by walk_at "ev") (ev_len (ev_var rfl) hS6) rv_I0)) (fun hb H7 e7 => ?_) (fun hb H7 e7 => ?_)
        · have hk : f + 3 + 3 * i + 2 < ns.length := by
            have := of_decide_eq_true (Bool.and_eq_true_iff.mp hb).2
            rw [List.length_map] at this
            omega
          have hS7 := ex_l e7 hS6
          refine s_appT ((hT.mono e6).mono e7) (ev_var rfl) (v_job_by (by omega) hw (ea_cons (ev_op (ev_var rfl) (ev_var rfl) (rv_ixL hS7 (atI_nat (ints_at (by omega))))) (ea_cons (ev_op (ev_var rfl) (ev_is (v := .int (((f + 3 + 3 * i : Nat) : Int) + 1)) (by walk_at "ev") rfl) (rv_ixL hS7 (atI_nat (j := f + 3 + 3 * i + 1) (ints_at (by omega)))))
            (ea_cons (ev_op (ev_var rfl) (ev_is (v := .int (((f + 3 + 3 * i : Nat) : Int) + 2)) (by walk_at "ev") rfl) (rv_ixL hS7 (atI_nat (j := f + 3 + 3 * i + 2) (ints_at (by omega))))) (ea_cons (ev_var rfl) (ea_cons ev_c ea_nil)))))) (by omega) fun H8 md hT8 => ?_
          refine ⟨_, _, _, _, rfl, md.base ((eH.trans e6).trans e7) n0, hT8, by rw [List.length_append, List.length_singleton, hl], fun j hj => ?_⟩
          rcases List.mem_append.mp hj with z | z
          · exact hJ j z
          · rw [List.mem_singleton.mp z]; exact jobI_ok (by omega) hw
        · refine q_asg (ev_call (ea_cons (ev_var rfl) (ea_cons (ev_var rfl) (ea_cons ev_c ea_nil))) (v_mixed (by decide))) fun H8 e8 => ?_
          refine s_appT (((hT.mono e6).mono e7).mono e8) (ev_var rfl) (v_job_by (more := count) hc hw (ea_cons (ev_var rfl) (ea_cons (ev_call (ea_cons (ev_var rfl) (ea_cons (ev_var rfl) (ea_cons ev_c ea_nil))) (v_mixed (by decide)))
            (ea_cons (ev_call (ea_cons (ev_var rfl) (ea_cons (ev_var rfl) (ea_cons ev_c ea_nil))) (v_mixed (by decide))) (ea_cons (ev_var rfl) (ea_cons (ev_var rfl) ea_nil)))))) (by omega) fun H9 md hT9 => ?_
          refine ⟨_, _, _, _, rfl, md.base (((eH.trans e6).trans e7).trans e8) n0, hT9, by rw [List.length_append, List.length_singleton, hl], fun j hj => ?_⟩
          rcases List.mem_append.mp hj with z | z
          · exact hJ j z
          · rw [List.mem_singleton.mp z]; exact jobI_ok hc hw
      · rintro σ' H' ⟨js, x6, x7, x8, rfl, eH, hT, hl, hJ⟩
        refine s_ret (ev_var rfl) fun H6 e6 => ?_
        exact q l0 H6 js (fresh_back eA n5) (eH.trans e6) (hT.mono e6) (by omega) hJ
end
end DLL
namespace DLL
open PySem PySem.Spec PyProof.Rows L2 Evl DL
section
variable {P : Program} {w : World} {K : PySem.W.Frag} {mg : Str → Option Value} {base : Heap} {H : Hp}
/-! ### sound, check_jobs -/
def soundB (j : T3) : Bool := decide (0 ≤ j.1) && (decide (1 ≤ j.2.1) && decide (j.1 < j.2.2))
theorem soundB_iff {j : T3} : soundB j = true ↔ SoundJ j := by
  unfold soundB SoundJ
  simp
def spSound : Sp := fun vs H Q _ => ∃ (t : Addr) (j : T3), vs = [.ref t] ∧ AtT H t j ∧ ∀ H', Ex H H' → Q (.bl (soundB j)) H'
theorem ok_sound (T : TX K mg) : FnOk P w K mg base CX0 1 T.f_sound T.d_sound ["job"] spSound := by
  refine T.h_sound.F.ok sc_sound (fun vs H Q E h => ?_) (fun cdv A outer s H vs Q E hr h => ?_)
  · obtain ⟨_, _, rfl, _⟩ := h
    rfl
  · obtain ⟨t, j, rfl, ht, q⟩ := h
    refine ⟨_, (pss_cons (ps_if (PW.pt (pw_or (pt_cmpR op_neTy (pe_callTy (T := "type") (r := rTyp K) call_type1 (by rfl) T.b_type (by decide +kernel) (pa_cons (pv 0) pa_nil)) (pe_bltn (v := .ty "tuple") (by rfl) T.b_tuple (by decide +kernel) rfl) (nomark _)) (pw_or1 (pt_cmpR op_ne (pe_callB (id := "len") (r := Evl.rLenS K) call_len_seq (by rfl) T.b_len PySem.boot_len (pa_cons (pv 0) pa_nil)) pe_int (nomark _)))))
    (pss_one (ps_ret pe_bl))
    pss_nil)
  (pss_cons (ps_if (pt_not (pt_val (pe_callB (id := "all") (r := rAll K) (cr_all rfl) (by rfl) T.b_all (by decide +kernel) (pa_cons (pe_lc (own := [("number", 4)]) (g := (gName 4)) (tt := tYes) rfl sc_sound.nd (pi_tup (pv 0)) (blkOk_by (own := [("number", 4)]) (N := N_sound) (sc := defScope s_sound) (by decide +kernel)) (fun _ _ _ _ _ => (pg_name (i := 4) sc_sound.nd rfl (.inl rfl))) (fun _ _ _ _ _ => pts_nil) (fun _ _ _ _ _ => (pe_cmpR op_eqTy (pe_callTy (T := "type") (r := rTyp K) call_type1 (by rfl) T.b_type (by decide +kernel) (pa_cons (pv 4) pa_nil)) (pe_bltn (v := .ty "int") (by rfl) T.b_int (by decide +kernel) rfl) (nomark _)))) pa_nil))))
    (pss_one (ps_ret pe_bl))
    pss_nil)
  (pss_cons (ps_asg (pv 0) (pg_tup rfl (pgs_cons (pg_name (i := 1) sc_sound.nd rfl (.inl rfl)) (pgs_cons (pg_name (i := 2) sc_sound.nd rfl (.inl rfl)) (pgs_cons (pg_name (i := 3) sc_sound.nd rfl (.inl rfl)) pgs_nil)))))
  (pss_one (ps_ret (pe_and (pe_cmpR op_ge (pv 1) pe_int (nomark _)) (pe_and (pe_cmpR op_ge (pv 2) pe_int (nomark _)) (pe_one (pe_cmpR op_gt (pv 3) (pv 1) (nomark _)))))))))), ?_⟩
    refine q_when (b := (!decide (("tuple" : String) = "tuple")) || (!decide (V.int (((tv j).length : Nat) : Int) = V.int 3))) (et_or (et_test (ev_op (ev_type (ev_var rfl) fun H1 e1 => .tup (ex_t e1 (SqT.of ht))) ev_c (rv_neTy st_tup st_tup))) fun _ => et_test (ev_op (ev_lenU (ev_var rfl) ht) ev_c (rv_ne rfl))) (fun hb H1 e1 => ?_) (fun hb H1 e1 => ?_)
    · exact absurd (show ((!decide (("tuple" : String) = "tuple")) || (!decide (V.int (((tv j).length : Nat) : Int) = V.int 3))) = false from rfl) (by rw [hb]; decide)
    · refine q_when (b := !([true, true, true].all id)) (et_not (et_B (ev_allN (bs := [true, true, true]) (el_lcU (xs := tv j) (fun _ => .bl true) (ev_var rfl) (ex_t e1 (SqT.of ht)) (show 3 ≤ 40000 by decide) (fun _ => rfl) fun x H2 hx e2 => ?_)))) (fun hb H2 e2 => absurd hb (by decide)) (fun hb H2 e2 => ?_)
      · obtain ⟨n, rfl⟩ : ∃ n, x = V.int n := by
          unfold tv at hx
          simp only [List.mem_cons, List.not_mem_nil, or_false] at hx
          rcases hx with e | e | e <;> exact ⟨_, e⟩
        exact ev_op (ev_type (ev_var rfl) fun H3 _ => .int n) ev_c (rv_eqTy st_int st_int)
      · refine q_asgG (ev_var rfl) fun H3 e3 => ?_
        refine g_three (((e1.trans e2).trans e3) _ _ ht) ?_
        exact s_ret (v := .bl (soundB j)) (ev_andV (by walk_at "ev") fun _ => ev_andV (by walk_at "ev") fun _ => by walk_at "ev") fun H4 e4 => q H4 (((e1.trans e2).trans e3).trans e4)
theorem ev_sound {σ : St} {ta : TA} {E : XK} {t : Addr} {j : T3} (h : EvA ta σ H [.ref t]) (ht : AtT H t j) : Ev (tCall spSound [] E ta) σ H (.bl (soundB j)) := ev_call h fun H1 e Q q E => ⟨t, j, rfl, e _ _ ht, q⟩
/-- at most sixty sound jobs: nothing is refused -/
def spCheck : Sp := fun vs H Q _ => ∃ (p : Addr) (js : List T3), vs = [.ref p] ∧ TL H p js ∧ js.length ≤ 60 ∧ Sound js ∧ ∀ H', Ex H H' → Q .non H'
theorem ok_check_jobs (T : TX K mg) : FnOk P w K mg base CX0 2 T.f_check_jobs T.d_check_jobs ["jobs"] spCheck := by
  refine T.h_check_jobs.F.ok sc_check_jobs (fun vs H Q E h => ?_) (fun cdv A outer s H vs Q E hr h => ?_)
  · obtain ⟨_, _, rfl, _⟩ := h
    rfl
  · obtain ⟨p, js, rfl, hT, hl, hS, q⟩ := h
    refine ⟨_, (pss_cons (ps_if (pt_cmpR op_gt (pe_callB (id := "len") (r := Evl.rLenS K) call_len_seq (by rfl) T.b_len PySem.boot_len (pa_cons (pv 0) pa_nil)) (pe_glob (v := .int 60) (by rfl) T.c_LIMIT ⟨_, rfl⟩) (nomark _))
    (pss_one ps_never)
    pss_nil)
  (pss_one (ps_for PassesOwn.never rfl (pi_enum (by rfl) T.b_enumerate (pa_cons (pv 0) pa_nil)) (pg_tup rfl (pgs_cons (pg_name (i := 1) sc_check_jobs.nd rfl (.inl rfl)) (pgs_cons (pg_name (i := 2) sc_check_jobs.nd rfl (.inl rfl)) pgs_nil)))
    (pss_one (ps_if (pt_not (pt_val (pe_call (ok_sound T) (hr.mono (by decide)) (by rfl) T.h_sound.g T.h_sound.F.kp T.h_sound.b .nil pass0 (pa_cons (pv 2) pa_nil))))
    (pss_one ps_never)
    pss_nil))))), ?_⟩
    refine q_when (b := decide ((60 : Int) < (js.length : Int))) (et_test (ev_op (ev_lenT (ev_var rfl) hT) ev_c rv_I0)) (fun hb H1 e1 => ?_) (fun hb H1 e1 => ?_)
    · have := of_decide_eq_true hb
      omega
    · obtain ⟨ts, h1, h2⟩ := hT.mono e1
      refine s_forEn (ev_var rfl) (SqL.of h1) (fun i σ' H' => ∃ x1 x2 : Option V, σ' = [some (.ref p), x1, x2] ∧ Ex H1 H') (fun H2 e2 => ⟨none, none, rfl, e2⟩) (fun i σ' H' _ ⟨_, _, _, e⟩ => SqL.of (e _ _ h1)) ?_ ?_
      · rintro i x TT σ' H' hi nT ⟨x1, x2, rfl, e2⟩
        rw [List.getElem?_map] at hi
        obtain ⟨t, et, rfl⟩ := Option.map_eq_some_iff.mp hi
        obtain ⟨j, hj, a⟩ := h2.getA et
        have e3 : Ex H' (upd H' TT (.tup [.int (i : Int), .ref t])) := Ex.new nT
        refine g_two upd_same ?_
        have hs : soundB j = true := soundB_iff.mpr (hS j (List.mem_of_getElem? hj))
        refine s_when (b := !soundB j) (et_not (et_B (ev_sound (ea_cons (ev_var rfl) ea_nil) (e3 _ _ (e2 _ _ a))))) (fun hb H4 e4 => ?_) (fun hb H4 e4 => ⟨_, _, rfl, (e2.trans e3).trans e4⟩)
        rw [hs] at hb
        cases hb
      · rintro σ' H' ⟨x1, x2, rfl, e2⟩
        exact q _ (e1.trans e2)
theorem ev_check {σ : St} {ta : TA} {E : XK} {p : Addr} {js : List T3} (h : EvA ta σ H [.ref p]) (hT : TL H p js) (hl : js.length ≤ 60) (hS : Sound js) : Ev (tCall spCheck [] E ta) σ H .non := ev_call h fun H1 e Q q E => ⟨p, js, rfl, hT.mono e, hl, hS, q⟩
end
end DLL
namespace DLL
open PySem PySem.Spec PyProof.Rows L2 Evl DL
section
variable {P : Program} {w : World} {K : PySem.W.Frag} {mg : Str → Option Value} {base : Heap} {H : Hp}
/-! ### who is due first -/
def optV : Option Nat → V
  | none => .non
  | some k => .int (k : Int)
def spFirst : Sp := fun vs H Q _ => ∃ (p l : Addr) (js : List T3) (ns : List Int) (t : Int), vs = [.ref p, .ref l, .int t] ∧ TL H p js ∧ IL H l ns ∧ ns.length = js.length ∧ ∀ H', Ex H H' → Q (optV (firstDue js ns t)) H'
theorem fd_skip {js : List T3} {ns : List Int} {t : Int} {i : Nat} (h : ¬ there js ns t i) : fdUpto js ns t (i + 1) = fdUpto js ns t i := by
  show fdStep js ns t (fdUpto js ns t i) i = _
  unfold fdStep
  rw [if_neg h]
theorem fd_none {js : List T3} {ns : List Int} {t : Int} {i : Nat} (h : there js ns t i) (e : fdUpto js ns t i = none) : fdUpto js ns t (i + 1) = some i := by
  show fdStep js ns t (fdUpto js ns t i) i = _
  unfold fdStep
  rw [if_pos h, e]
theorem fd_some {js : List T3} {ns : List Int} {t : Int} {i b : Nat} (h : there js ns t i) (e : fdUpto js ns t i = some b) : fdUpto js ns t (i + 1) = if du js i < du js b then some i else some b := by
  show fdStep js ns t (fdUpto js ns t i) i = _
  unfold fdStep
  rw [if_pos h, e]
theorem fd_lt {js : List T3} {ns : List Int} {t : Int} {i b : Nat} (e : fdUpto js ns t i = some b) : b < i := by
  rcases fdUpto_spec js ns t i with ⟨e2, _⟩ | ⟨p, e2, h, _⟩
  · rw [e] at e2; cases e2
  · rw [e] at e2; cases e2; exact h
theorem ok_first_due (T : TX K mg) : FnOk P w K mg base CX0 1 T.f_first_due T.d_first_due ["jobs", "left", "time"] spFirst := by
  refine T.h_first_due.F.ok sc_first_due (fun vs H Q E h => ?_) (fun cdv A outer s H vs Q E hr h => ?_)
  · obtain ⟨_, _, _, _, _, rfl, _⟩ := h
    rfl
  · obtain ⟨p, l, js, ns, t, rfl, hT, hL, hlen, q⟩ := h
    refine ⟨_, (pss_cons (ps_set (i := 3) sc_first_due.nd rfl (.inl rfl) pe_non)
  (pss_cons (ps_for PassesOwn.never rfl (pi_enum (by rfl) T.b_enumerate (pa_cons (pv 0) pa_nil)) (pg_tup rfl (pgs_cons (pg_name (i := 4) sc_first_due.nd rfl (.inl rfl)) (pgs_cons (pg_tup rfl (pgs_cons (pg_name (i := 5) sc_first_due.nd rfl (.inl rfl)) (pgs_cons (pg_name (i := 6) sc_first_due.nd rfl (.inl rfl)) (pgs_cons (pg_name (i := 7) sc_first_due.nd rfl (.inl rfl)) pgs_nil)))) pgs_nil)))
    (pss_cons (ps_if (PW.pt (pw_or (pt_cmpR op_gt (pv 5) (pv 2) (nomark _)) (pw_or1 (pt_cmpR op_eq (pe_ix (r := rIxL K) ix_list (pv 1) (pv 4) (fun _ _ => rfl)) pe_int (nomark _)))))
    (pss_one ps_continue)
    pss_nil)
  (pss_one (ps_if (PW.pt (pw_or (pt_cmpR op_isN (pv 3) pe_non (nomark _)) (pw_or1 (pt_cmpR op_lt (pv 7) (pe_ix (r := rIxT K) ix_tup (pe_ix (r := rIxL K) ix_list (pv 0) (pv 3) (fun _ _ => rfl)) pe_int (fun _ _ => rfl)) (nomark _)))))
    (pss_one (ps_set (i := 3) sc_first_due.nd rfl (.inl rfl) (pv 4)))
    pss_nil))))
  (pss_one (ps_ret (pv 3))))), ?_⟩
    refine q_asg ev_c fun H1 e1 => ?_
    obtain ⟨ts, h1, h2⟩ := hT.mono e1
    have hlt : (ts.map V.ref).length = js.length := by rw [List.length_map, h2.len]
    refine q_forEn (ev_var rfl) (SqL.of h1) (fun i σ' H' => ∃ x4 x5 x6 x7 : Option V, σ' = [some (.ref p), some (.ref l), some (.int t), some (optV (fdUpto js ns t i)), x4, x5, x6, x7] ∧ Ex H1 H') (fun H2 e2 => ⟨none, none, none, none, rfl, e2⟩) (fun i σ' H' _ ⟨_, _, _, _, _, e⟩ => SqL.of (e _ _ h1)) ?_ ?_
    · rintro i x TT σ' H' hi nT ⟨x4, x5, x6, x7, rfl, e2⟩
      rw [List.getElem?_map] at hi
      obtain ⟨u, et, rfl⟩ := Option.map_eq_some_iff.mp hi
      obtain ⟨j, hj, a⟩ := h2.getA et
      obtain ⟨c1, c2, c3⟩ := cm_at hj
      have hi2 : i < js.length := (List.getElem?_eq_some_iff.mp hj).1
      have e3 : Ex H1 (upd H' TT (.tup [.int (i : Int), .ref u])) := e2.trans (Ex.new nT)
      refine g_two3 upd_same (e3 _ _ a) ?_
      generalize upd H' TT (.tup [.int (i : Int), .ref u]) = H2 at *
      have hT2 := (hT.mono e1).mono e3
      have hL2 := (hL.mono e1).mono e3
      refine q_when (b := decide (t < j.1) || decide (V.int (ns.getD i 0) = V.int 0)) (et_or (by walk_at "evt") fun _ => et_test (ev_op (ev_ixI (ev_var rfl) (ev_var rfl) hL2 (by omega)) ev_c (rv_eq rfl))) (fun hb H3 e4 => ?_) (fun hb H3 e4 => ?_)
      · refine ⟨some (.int (i : Int)), some (.int j.1), some (.int j.2.1), some (.int j.2.2), ?_, e3.trans e4⟩
        have hn : ¬ there js ns t i := by
          rintro ⟨g1, g2⟩
          rcases (Bool.or_eq_true_iff.mp hb) with z | z
          · have := of_decide_eq_true z; omega
          · exact g2 (V.int.inj (of_decide_eq_true z))
        rw [fd_skip hn]
        rfl
      · rw [Bool.or_eq_false_iff] at hb
        have hy : there js ns t i := ⟨by have := of_decide_eq_false hb.1; omega, fun z => of_decide_eq_false hb.2 (by rw [z])⟩
        have hT3 := hT2.mono e4
        cases hbst : fdUpto js ns t i with
        | none =>
          refine s_ifAsg (b := decide (optV none = V.non) || false) (v := .int (i : Int)) (et_or (et_test (ev_op (ev_var rfl) ev_c rv_isN)) fun z => by cases z) (fun _ => ev_var rfl) (fun z => by cases z) fun H4 e5 => ?_
          refine ⟨some (.int (i : Int)), some (.int j.1), some (.int j.2.1), some (.int j.2.2), ?_, (e3.trans e4).trans e5⟩
          rw [fd_none hy hbst]
          rfl
        | some b =>
          have hbl := fd_lt hbst
          have hjb : js[b]? = some js[b] := List.getElem?_eq_getElem (by omega)
          have cb := (cm_at hjb).2.2
          refine s_ifAsg (b := decide (optV (some b) = V.non) || decide (j.2.2 < (js[b]).2.2)) (v := optV (fdUpto js ns t (i + 1))) (et_or (et_test (ev_op (ev_var rfl) ev_c rv_isN)) fun _ => et_test (ev_op (ev_var rfl) (ev_field hjb (ev_var rfl) (ev_var rfl) hT3 ev_c (t3_2 _)) rv_I0)) (fun z => ?_) (fun z => ?_) fun H4 e5 => ⟨_, _, _, _, rfl, (e3.trans e4).trans e5⟩
          · have hd : du js i < du js b := by
              rw [c3, cb]
              exact of_decide_eq_true z
            rw [fd_some hy hbst, if_pos hd]
            exact ev_var rfl
          · have hd : ¬ du js i < du js b := by
              rw [c3, cb]
              exact of_decide_eq_false z
            rw [fd_some hy hbst, if_neg hd]
            rfl
    · rintro σ' H' ⟨x4, x5, x6, x7, rfl, e2⟩
      refine s_ret (ev_var rfl) fun H2 e3 => ?_
      have := q H2 ((e1.trans e2).trans e3)
      rw [hlt]
      exact this
theorem ev_first {σ : St} {ta : TA} {E : XK} {p l : Addr} {js : List T3} {ns : List Int} {t : Int} (h : EvA ta σ H [.ref p, .ref l, .int t]) (hT : TL H p js) (hL : IL H l ns) (hn : ns.length = js.length) : Ev (tCall spFirst [] E ta) σ H (optV (firstDue js ns t)) :=
  ev_call h fun H1 e Q q E => ⟨p, l, js, ns, t, rfl, hT.mono e, hL.mono e, hn, q⟩
end
end DLL
namespace DLL
open PySem PySem.Spec PyProof.Rows L2 Evl DL
section
variable {P : Program} {w : World} {K : PySem.W.Frag} {mg : Str → Option Value} {base : Heap} {H : Hp}
/-! ### the next time that matters -/
def spNext : Sp := fun vs H Q _ => ∃ (p : Addr) (js : List T3) (t : Int), vs = [.ref p, .int t] ∧ TL H p js ∧ js.length ≤ 60 ∧ comesAfter js t ≠ [] ∧ ∀ H', Ex H H' → Q (.int (nextCome js t)) H'
theorem ok_next_come (T : TX K mg) : FnOk P w K mg base CX0 1 T.f_next_come T.d_next_come ["jobs", "time"] spNext := by
  refine T.h_next_come.F.ok sc_next_come (fun vs H Q E h => ?_) (fun cdv A outer s H vs Q E hr h => ?_)
  · obtain ⟨_, _, _, rfl, _⟩ := h
    rfl
  · obtain ⟨p, js, t, rfl, hT, hl, hne, q⟩ := h
    refine ⟨_, (pss_one (ps_ret (pe_callB (id := "min") (r := rMin K) (cr_min rfl) (by rfl) T.b_min (by decide +kernel) (pa_cons (pe_lc (own := [("come", 2), ("length", 3), ("due", 4)]) (g := (gTup K 3 (gCons (gName 2) (gCons (gName 3) (gCons (gName 4) gNil))))) rfl sc_next_come.nd (pi_list (pv 0)) (blkOk_by (own := [("come", 2), ("length", 3), ("due", 4)]) (N := N_next_come) (sc := defScope s_next_come) (by decide +kernel)) (fun _ _ _ _ _ => (pg_tup rfl (pgs_cons (pg_name (i := 2) sc_next_come.nd rfl (.inl rfl)) (pgs_cons (pg_name (i := 3) sc_next_come.nd rfl (.inl rfl)) (pgs_cons (pg_name (i := 4) sc_next_come.nd rfl (.inl rfl)) pgs_nil))))) (fun _ _ _ _ _ => (pts_one (pt_cmpR op_gt (pv 2) (pv 1) (nomark _)))) (fun _ _ _ _ _ => (pv 2))) pa_nil)))), ?_⟩
    refine s_ret (v := .int (nextCome js t)) (ev_minN (ns := comesAfter js t) (el_ints (fun j => decide (t < j.1)) (·.1) (fun j _ => [some (.ref p), some (.int t), some (.int j.1), some (.int j.2.1), some (.int j.2.2)]) (ev_var rfl) hT (by omega) (fun j u H1 Q' hu hq => g_three hu hq) (fun j u => rfl) (fun j u H1 _ _ _ => by walk_at "evt") (fun j u H1 _ _ _ _ => ev_var rfl)) hne) q
theorem ev_next {σ : St} {ta : TA} {E : XK} {p : Addr} {js : List T3} {t : Int} (h : EvA ta σ H [.ref p, .int t]) (hT : TL H p js) (hl : js.length ≤ 60) (hne : comesAfter js t ≠ []) : Ev (tCall spNext [] E ta) σ H (.int (nextCome js t)) :=
  ev_call h fun H1 e Q q E => ⟨p, js, t, rfl, hT.mono e, hl, hne, q⟩
def spEnd : Sp := fun vs H Q _ => ∃ (p : Addr) (js : List T3) (t r : Int), vs = [.ref p, .int t, .int r] ∧ TL H p js ∧ js.length ≤ 60 ∧ ∀ H', Ex H H' → Q (.int (endOf js t r)) H'
theorem ok_end_of_work (T : TX K mg) : FnOk P w K mg base CX0 1 T.f_end_of_work T.d_end_of_work ["jobs", "time", "rest"] spEnd := by
  refine T.h_end_of_work.F.ok sc_end_of_work (fun vs H Q E h => ?_) (fun cdv A outer s H vs Q E hr h => ?_)
  · obtain ⟨_, _, _, _, rfl, _⟩ := h
    rfl
  · obtain ⟨p, js, t, r, rfl, hT, hl, q⟩ := h
    refine ⟨_, (pss_cons (ps_set (i := 3) sc_end_of_work.nd rfl (.inr rfl) (pe_op op_add (pv 1) (pv 2)))
  (pss_one (ps_ret (pe_callBK (cr_minD rfl hr.units) (by rfl) T.b_min (by decide +kernel) (pa_cons (pe_lc (own := [("come", 4), ("length", 5), ("due", 6)]) (g := (gTup K 3 (gCons (gName 4) (gCons (gName 5) (gCons (gName 6) gNil))))) rfl sc_end_of_work.nd (pi_list (pv 0)) (blkOk_by (own := [("come", 4), ("length", 5), ("due", 6)]) (N := N_end_of_work) (sc := defScope s_end_of_work) (by decide +kernel)) (fun _ _ _ _ _ => (pg_tup rfl (pgs_cons (pg_name (i := 4) sc_end_of_work.nd rfl (.inl rfl)) (pgs_cons (pg_name (i := 5) sc_end_of_work.nd rfl (.inl rfl)) (pgs_cons (pg_name (i := 6) sc_end_of_work.nd rfl (.inl rfl)) pgs_nil))))) (fun _ _ _ _ _ => (pts_one (pt_chain op_lt op_lt (pv 1) (pv 4) (pv 3)))) (fun _ _ _ _ _ => (pv 4))) pa_nil) (pk_cons (pv 3) pk_nil))))), ?_⟩
    refine q_asg (v := .int (t + r)) (by walk_at "ev") fun H1 e1 => ?_
    refine s_ret (v := .int (endOf js t r)) (ev_minD (ns := comesWithin js t (t + r)) (el_ints (fun j => decide (t < j.1) && decide (j.1 < t + r)) (·.1) (fun j _ => [some (.ref p), some (.int t), some (.int r), some (.int (t + r)), some (.int j.1), some (.int j.2.1), some (.int j.2.2)]) (ev_var rfl) (hT.mono e1) (by omega) (fun j u H1 Q' hu hq => g_three hu hq) (fun j u => rfl)
      (fun j u H1 _ _ _ => et_test (ev_chain (ev_var rfl) (ev_var rfl) rv_I0 (fun _ => ev_var rfl) fun _ => rv_I0)) (fun j u H1 _ _ _ _ => ev_var rfl)) fun H2 _ => ev_var rfl) fun H2 e2 => q H2 (e1.trans e2)
theorem ev_end {σ : St} {ta : TA} {E : XK} {p : Addr} {js : List T3} {t r : Int} (h : EvA ta σ H [.ref p, .int t, .int r]) (hT : TL H p js) (hl : js.length ≤ 60) : Ev (tCall spEnd [] E ta) σ H (.int (endOf js t r)) :=
  ev_call h fun H1 e Q q E => ⟨p, js, t, r, rfl, hT.mono e, hl, q⟩
/-! ### a piece more -/
def spAdd : Sp := fun vs H Q _ => ∃ (l : Addr) (ps : List T3) (p b e : Int), vs = [.ref l, .int p, .int b, .int e] ∧ TL H l ps ∧ ps.length < 90000 ∧ ∀ H1, Mod l H H1 → TL H1 l (addPiece ps p b e) → Q .non H1
theorem ok_add_piece (T : TX K mg) : FnOk P w K mg base CX0 1 T.f_add_piece T.d_add_piece ["pieces", "place", "begin", "end"] spAdd := by
  refine T.h_add_piece.F.ok sc_add_piece (fun vs H Q E h => ?_) (fun cdv A outer s H vs Q E hr h => ?_)
  · obtain ⟨_, _, _, _, _, rfl, _⟩ := h
    rfl
  · obtain ⟨l, ps, p, b, e, rfl, hT, hz, q⟩ := h
    refine ⟨_, (pss_cons (ps_if (PW.pt (pw_and (pt_truth (pv 0) (by intro _; rfl)) (pw_and1 (pt_cmpR op_eq (pe_ix (r := rIxT K) ix_tup (pe_ix (r := rIxL K) ix_list (pv 0) (pe_un un_neg pe_int) (fun _ _ => rfl)) pe_int (fun _ _ => rfl)) (pv 1) (nomark _)))))
    (pss_one (ps_set (i := 2) sc_add_piece.nd rfl (.inl rfl) (pe_ix (r := rIxT K) ix_tup (pe_bm0 PySem.F.plainAttrs_list PySem.F.slot_list_pop PySem.F.type_list_pop mt_pop (pv 0)) pe_int (fun _ _ => rfl))))
    pss_nil)
  (pss_one (ps_expr (pe_bm PySem.F.plainAttrs_list PySem.F.slot_list_append PySem.F.type_list_append mt_append (pv 0) (pa_cons (pe_tup (pa_cons (pv 1) (pa_cons (pv 2) (pa_cons (pv 3) pa_nil)))) pa_nil))))), ?_⟩
    rcases last_cases ps with h0 | ⟨r, x, h0⟩
    · subst h0
      refine q_when (b := (![].isEmpty) && false) (et_and (et_truL (js := []) (ev_var rfl) hT) fun z => by cases z) (fun z => by cases z) fun _ H1 e1 => ?_
      exact s_appT (hT.mono e1) (ev_var rfl) (eu_three (ev_var rfl) (ev_var rfl) (ev_var rfl)) (by decide) fun H2 md h2 => q H2 ((Mod.ex e1).trans md) h2
    · subst h0
      have hne : (r ++ [x]).isEmpty = false := by cases r <;> rfl
      have hlast : ∀ H1, Ex H H1 → ∃ (u : Addr) (us : List Addr), H1 l = some (.lst (us.map V.ref ++ [.ref u])) ∧ Tps H1 us r ∧ AtT H1 u x := fun H1 e1 => by
        obtain ⟨ts, h1, h2⟩ := hT.mono e1
        have h3 := h2.take r.length
        have h4 := h2.drop r.length
        rw [List.take_left] at h3
        rw [List.drop_left] at h4
        have hl := h4.len
        obtain ⟨u, hu⟩ : ∃ u, ts.drop r.length = [u] := List.length_eq_one_iff.mp hl
        rw [hu] at h4
        cases h4 with
        | cons a _ =>
          refine ⟨u, ts.take r.length, ?_, h3, a⟩
          rw [h1]
          congr 2
          rw [show ([V.ref u] : List V) = [u].map V.ref from rfl, ← List.map_append, ← hu, List.take_append_drop]
      obtain ⟨u, us, k1, k2, k3⟩ := hlast H (Ex.refl _)
      have hAt : ∀ H1, Ex H H1 → Ev (tOp (rIxL K) (tVar 0) (tUn (rU fun i => .int (-i)) (tC (.int 1)))) (start N_add_piece [.ref l, .int p, .int b, .int e]) H1 (.ref u) := fun H1 e1 => ev_op (ev_var rfl) (ev_un ev_c ru_neg) (rv_ixL (SqL.of (e1 _ _ k1)) (atI_last _ _))
      refine q_when (b := (!(r ++ [x]).isEmpty) && decide (V.int x.1 = V.int p)) (et_and (et_truL (ev_var rfl) hT) fun _ => et_test (ev_op (ev_op (hAt H (Ex.refl _)) ev_c (rv_ixT (SqT.of k3) (t3_0 x))) (ev_var rfl) (rv_eq rfl))) (fun hb H1 e1 => ?_) (fun hb H1 e1 => ?_)
      · have hx : x.1 = p := V.int.inj (of_decide_eq_true (Bool.and_eq_true_iff.mp hb).2)
        have c1 := e1 _ _ k1
        -- begin = pieces.pop()[1]
        have hget : (us.map V.ref ++ [V.ref u])[(us.map V.ref ++ [V.ref u]).length - 1]? = some (V.ref u) := by
          rw [List.length_append, List.length_singleton, Nat.add_sub_cancel, List.getElem?_concat_length]
        refine ⟨.ref l, rfl, .inl ⟨rfl, _, SqL.of c1⟩, l, _, .ref u, rfl, rfl, c1, hget, ?_⟩
        have md1 : Mod l H1 (upd H1 l (.lst (us.map V.ref ++ [V.ref u]).dropLast)) := Mod.upd c1
        have hT2 : TL (upd H1 l (.lst (us.map V.ref ++ [V.ref u]).dropLast)) l r := ⟨us, by rw [upd_same, List.dropLast_concat], md1.tps (k2.mono e1)⟩
        have hu2 := md1.tup _ _ (e1 _ _ k3)
        refine ⟨u, tv x, 1, .int x.2.1, rfl, rfl, SqT.of hu2, t3_1 x, ?_⟩
        refine s_appT hT2 (ev_var rfl) (j := (p, x.2.1, e)) (eu_three (ev_var rfl) (ev_var rfl) (ev_var rfl)) (by rw [List.length_append] at hz; omega) fun H2 md h2 => ?_
        refine q H2 (((Mod.ex e1).trans md1).trans md) ?_
        rw [addPiece_snoc, if_pos hx]
        exact h2
      · rw [hne] at hb
        have hx : ¬ x.1 = p := fun z => of_decide_eq_false hb (by rw [z])
        refine s_appT (hT.mono e1) (ev_var rfl) (j := (p, b, e)) (eu_three (ev_var rfl) (ev_var rfl) (ev_var rfl)) (by omega) fun H2 md h2 => ?_
        refine q H2 ((Mod.ex e1).trans md) ?_
        rw [addPiece_snoc, if_neg hx]
        exact h2
/-! ### the run -/
def spRun : Sp := fun vs H Q _ => ∃ (p : Addr) (js : List T3), vs = [.ref p] ∧ TL H p js ∧ js.length ≤ 60 ∧ Sound js ∧ ∀ q H', H q = none → Ex H H' → TL H' q (runM js) → Q (.ref q) H'
theorem comes_ne {js : List T3} {t : Int} (h : ∃ i, i < js.length ∧ t < cm js i) : comesAfter js t ≠ [] := by
  obtain ⟨i, hi, hc⟩ := h
  exact List.ne_nil_of_mem (mem_comesAfter.mpr ⟨hc, i, hi, rfl⟩)
theorem any_done (s : RS) : (s.left.any fun n => n != 0) = !decide (done s) := by
  rw [Bool.eq_iff_iff]
  simp only [List.any_eq_true, bne_iff_ne, Bool.not_eq_true', decide_eq_false_iff_not]
  constructor
  · rintro ⟨x, hx, h⟩ c
    exact h (c x hx)
  · intro h
    exact Classical.byContradiction fun c => h fun x hx => Classical.byContradiction fun e => c ⟨x, hx, e⟩
theorem ok_run (T : TX K mg) : FnOk P w K mg base CX0 3 T.f_run T.d_run ["jobs"] spRun := by
  refine T.h_run.F.ok sc_run (fun vs H Q E h => ?_) (fun cdv A outer s H vs Q E hr h => ?_)
  · obtain ⟨_, _, rfl, _⟩ := h
    rfl
  · obtain ⟨p, js, rfl, hT, hl, hS, q⟩ := h
    refine ⟨_, (pss_cons (ps_expr (pe_call (ok_check_jobs T) (hr.mono (by decide)) (by rfl) T.h_check_jobs.g T.h_check_jobs.F.kp T.h_check_jobs.b .nil pass0 (pa_cons (pv 0) pa_nil)))
  (pss_cons (ps_setLc (i := 1) (own := [("come", 6), ("length", 7), ("due", 8)]) (g := (gTup K 3 (gCons (gName 6) (gCons (gName 7) (gCons (gName 8) gNil))))) (tt := tYes) rfl sc_run.nd rfl rfl (sw_true rfl rfl rfl (by decide +kernel)) (pi_list (pv 0)) (blkOk_by (own := [("come", 6), ("length", 7), ("due", 8)]) (N := N_run) (sc := defScope s_run) (by decide +kernel)) (fun _ _ _ _ _ => (pg_tup rfl (pgs_cons (pg_name (i := 6) sc_run.nd rfl (.inl rfl)) (pgs_cons (pg_name (i := 7) sc_run.nd rfl (.inl rfl)) (pgs_cons (pg_name (i := 8) sc_run.nd rfl (.inl rfl)) pgs_nil))))) (fun _ _ _ _ _ => pts_nil) (fun _ _ _ _ _ => (pv 7)))
  (pss_cons (ps_set (i := 2) sc_run.nd rfl (.inl rfl) (pe_lst pa_nil))
  (pss_cons (ps_set (i := 3) sc_run.nd rfl (.inl rfl) pe_int)
  (pss_cons (ps_while PassesOwn.never (pt_val (pe_callB (id := "any") (r := rAnyI K) (cr_anyI rfl) (by rfl) T.b_any (by decide +kernel) (pa_cons (pv 1) pa_nil)))
    (pss_cons (ps_set (i := 4) sc_run.nd rfl (.inl rfl) (pe_call (ok_first_due T) (hr.mono (by decide)) (by rfl) T.h_first_due.g T.h_first_due.F.kp T.h_first_due.b .nil pass0 (pa_cons (pv 0) (pa_cons (pv 1) (pa_cons (pv 3) pa_nil)))))
  (pss_one (ps_if (pt_cmpR op_isN (pv 4) pe_non (nomark _))
    (pss_one (ps_set (i := 3) sc_run.nd rfl (.inl rfl) (pe_call (ok_next_come T) (hr.mono (by decide)) (by rfl) T.h_next_come.g T.h_next_come.F.kp T.h_next_come.b .nil pass0 (pa_cons (pv 0) (pa_cons (pv 3) pa_nil)))))
    (pss_cons (ps_set (i := 5) sc_run.nd rfl (.inl rfl) (pe_call (ok_end_of_work T) (hr.mono (by decide)) (by rfl) T.h_end_of_work.g T.h_end_of_work.F.kp T.h_end_of_work.b .nil pass0 (pa_cons (pv 0) (pa_cons (pv 3) (pa_cons (pe_ix (r := rIxL K) ix_list (pv 1) (pv 4) (fun _ _ => rfl)) pa_nil)))))
  (pss_cons (ps_expr (pe_call (ok_add_piece T) (hr.mono (by decide)) (by rfl) T.h_add_piece.g T.h_add_piece.F.kp T.h_add_piece.b .nil pass0 (pa_cons (pv 2) (pa_cons (pv 4) (pa_cons (pv 3) (pa_cons (pv 5) pa_nil))))))
  (pss_cons (ps_augS (pv 1) (pv 4) get_list (pe_op op_sub (pv 5) (pv 3)) ip_sub set_list)
  (pss_one (ps_set (i := 3) sc_run.nd rfl (.inl rfl) (pv 5))))))))))
  (pss_one (ps_ret (pv 2)))))))), ?_⟩
    refine q_drop (ev_check (ea_cons (ev_var rfl) ea_nil) hT hl hS) fun H1 e1 => ?_
    refine q_asgL (el_ints (fun _ => true) (·.2.1) (fun j _ => [some (.ref p), none, none, none, none, none, some (.int j.1), some (.int j.2.1), some (.int j.2.2)]) (ev_var rfl) (hT.mono e1) (by omega) (fun j u H1 Q' hu hq => g_three hu hq) (fun j u => rfl) (fun j u H1 _ _ _ => evt_yes) (fun j u H1 _ _ _ _ => ev_var rfl)) fun l H2 nl e2 hL => ?_
    rw [filter_yes] at hL
    refine q_asgTL etl_nil fun pc H3 np e3 hP => ?_
    refine q_asg ev_c fun H4 e4 => ?_
    have eA := ((e1.trans e2).trans e3).trans e4
    have nl0 : H l = none := fresh_back e1 nl
    have np0 : H pc = none := fresh_back (e1.trans e2) np
    have hlp : l ≠ pc := ne_of_none hL np
    refine q_while (fun m σ' H' => ∃ (s : RS) (x4 x5 : Option V), σ' = [some (.ref p), some (.ref l), some (.ref pc), some (.int s.time), x4, x5, none, none, none] ∧ Ex H H' ∧ IL H' l s.left ∧ TL H' pc s.pieces ∧ RInv js s ∧ mu js s ≤ m ∧ runFrom js m s = runFrom js (2 * js.length) (rs0 js))
      (2 * js.length) ⟨rs0 js, none, none, rfl, eA, e4 _ _ (e3 _ _ hL), hP.mono e4, RInv.start hS, mu_le js _, rfl⟩ ?_
    rintro m σ' H' ⟨s, x4, x5, rfl, eH, hI, hPc, I, hm, hR⟩
    refine ⟨_, et_B (ev_anyI (ev_var rfl) hI), fun hb H5 e5 => ?_, fun hb H5 e5 => ?_⟩
    · -- one turn
      have nd : ¬ done s := by
        rw [any_done] at hb
        simpa using hb
      have hstep := I.step hS nd
      obtain ⟨m', rfl⟩ : ∃ m', m = m' + 1 := ⟨m - 1, by omega⟩
      have hR' : runFrom js m' (DL.step js s) = runFrom js (2 * js.length) (rs0 js) := by
        rw [← hR]
        show _ = if done s then s else runFrom js m' (DL.step js s)
        rw [if_neg nd]
      have hT5 := hT.mono (eH.trans e5)
      have hpl : s.pieces.length < 90000 := by
        rcases I.few with z | ⟨z, _⟩
        · omega
        · rw [z]; decide
      refine ⟨fun σ2 H2 => ∃ (s : RS) (x4 x5 : Option V), σ2 = [some (.ref p), some (.ref l), some (.ref pc), some (.int s.time), x4, x5, none, none, none] ∧ Ex H H2 ∧ IL H2 l s.left ∧ TL H2 pc s.pieces ∧ RInv js s ∧ mu js s ≤ m' ∧ runFrom js m' s = runFrom js (2 * js.length) (rs0 js), fun σ2 H2 h => ⟨m', Nat.lt_succ_self _, h⟩, ?_⟩
      refine q_asg (ev_first (ea_cons (ev_var rfl) (ea_cons (ev_var rfl) (ea_cons (ev_var rfl) ea_nil))) hT5 (hI.mono e5) I.len) fun H6 e6 => ?_
      have hT6 := hT5.mono e6
      cases hf : firstDue js s.left s.time with
      | none =>
        rw [step_none hf] at hstep hR'
        refine s_if (b := true) (et_is (et_test (ev_op (ev_var rfl) ev_c rv_isN)) rfl) (fun _ H7 e7 => ?_) (fun z => by cases z)
        refine s_asg (ev_next (ea_cons (ev_var rfl) (ea_cons (ev_var rfl) ea_nil)) (hT6.mono e7) hl (comes_ne (none_next I nd hf))) fun H8 e8 => ?_
        have e58 := ((e5.trans e6).trans e7).trans e8
        exact ⟨{ s with time := nextCome js s.time }, some .non, x5, rfl, eH.trans e58, hI.mono e58, hPc.mono e58, hstep.1, by omega, hR'⟩
      | some b =>
        rw [step_some hf] at hstep hR'
        obtain ⟨hbl, _⟩ := some_spec hf
        have hb2 : b < s.left.length := by rw [I.len]; exact hbl
        refine s_if (b := false) (et_is (et_test (ev_op (ev_var rfl) ev_c rv_isN)) rfl) (fun z => by cases z) (fun _ H7 e7 => ?_)
        have e57 := (e5.trans e6).trans e7
        refine q_asg (ev_end (ea_cons (ev_var rfl) (ea_cons (ev_var rfl) (ea_cons (ev_ixI (ev_var rfl) (ev_var rfl) (hI.mono e57) hb2) ea_nil))) (hT6.mono e7) hl) fun H8 e8 => ?_
        generalize endOf js s.time (s.left.getD b 0) = d at *
        have e58 := e57.trans e8
        refine q_dropC (ea_cons (ev_var rfl) (ea_cons (ev_var rfl) (ea_cons (ev_var rfl) (ea_cons (ev_var rfl) ea_nil)))) fun H9 e9 => ⟨pc, s.pieces, (b : Int), s.time, d, rfl, hPc.mono (e58.trans e9), hpl, fun H10 md h10 => ?_⟩
        have e510 := e58.trans e9
        have hI10 : IL H10 l s.left := md.il (hI.mono e510) hlp
        refine q_augI (f := fun i j => i - j) (z := d - s.time) (ev_var rfl) (ev_var rfl) hI10 hb2 (by walk_at "ev") fun H11 md2 h11 => ?_
        refine s_asg (ev_var rfl) fun H12 e12 => ?_
        refine ⟨⟨s.left.set b (s.left.getD b 0 - (d - s.time)), addPiece s.pieces (b : Int) s.time d, d⟩, _, _, rfl, ((md2.base (md.base (eH.trans e510) np0) nl0)).trans e12, h11.mono e12, (md2.tl h10 (Ne.symm hlp)).mono e12, hstep.1, by omega, hR'⟩
    · have hd : done s := by
        rw [any_done] at hb
        simpa using hb
      refine s_ret (ev_var rfl) fun H6 e6 => ?_
      refine q pc H6 np0 ((eH.trans e5).trans e6) ?_
      rw [runFrom_done hd] at hR
      unfold runM
      rw [← hR]
      exact (hPc.mono e5).mono e6
theorem etl_run {σ : St} {te : TE} {E : XK} {js : List T3} (h : EvTL te σ H js) (hl : js.length ≤ 60) (hS : Sound js) : EvTL (tCall spRun [] E (tCons te tNil)) σ H (runM js) := fun H1 e Q k =>
  h H1 e _ fun p H2 np e2 hT => ⟨p, js, rfl, hT, hl, hS, fun q H' nq e3 hP => k q H' (fresh_back e2 nq) (e2.trans e3) hP⟩
theorem etl_runR {σ : St} {ta : TA} {E : XK} {p : Addr} {js : List T3} (h : EvA ta σ H [.ref p]) (hT : TL H p js) (hl : js.length ≤ 60) (hS : Sound js) : EvTL (tCall spRun [] E ta) σ H (runM js) := fun H1 e Q k =>
  h H1 e _ fun H2 e2 => ⟨p, js, rfl, hT.mono (e.trans e2), hl, hS, fun q H' nq e3 hP => k q H' (fresh_back e2 nq) (e2.trans e3) hP⟩
end
end DLL
namespace DLL
open PySem PySem.Spec PyProof.Rows L2 Evl DL
section
variable {P : Program} {w : World} {K : PySem.W.Frag} {mg : Str → Option Value} {base : Heap} {H : Hp}
def spWhole : Sp := fun vs H Q _ => ∃ n : Int, vs = [.int n] ∧ ∀ H', Ex H H' → Q (.bl true) H'
theorem ok_law_whole (T : TX K mg) : FnOk P w K mg base CX0 1 T.f_law_whole T.d_law_whole ["_law_found"] spWhole := by
  refine T.h_law_whole.F.ok sc_law_whole (fun vs H Q E h => ?_) (fun cdv A outer s H vs Q E hr h => ?_)
  · obtain ⟨_, rfl, _⟩ := h
    rfl
  · obtain ⟨n, rfl, q⟩ := h
    refine ⟨_, (pss_one (ps_ret (pe_and (pe_callB (id := "isinstance") (r := rIsi K) call_isi (by rfl) T.b_isinstance (by decide +kernel) (pa_cons (pv 0) (pa_cons (pe_bltn (v := .ty "int") (by rfl) T.b_int (by decide +kernel) rfl) pa_nil))) (pe_one (pe_not (pe_callB (id := "isinstance") (r := rIsi K) call_isi (by rfl) T.b_isinstance (by decide +kernel) (pa_cons (pv 0) (pa_cons (pe_bltn (v := .ty "bool") (by rfl) T.b_bool (by decide +kernel) rfl) pa_nil)))))))), ?_⟩
    exact s_ret (v := .bl true) (ev_andV (a := true) (b := !false) (ev_isi (ev_var rfl) (fun H1 _ => .int n) (kit_ty (by decide +kernel)) ev_c) fun _ => ev_notV (ev_isi (ev_var rfl) (fun H1 _ => .int n) (kit_ty (by decide +kernel)) ev_c)) q
theorem ev_whole {σ : St} {ta : TA} {E : XK} {n : Int} (h : EvA ta σ H [.int n]) : Ev (tCall spWhole [] E ta) σ H (.bl true) := ev_call h fun H1 e Q q E => ⟨n, rfl, q⟩
end
def spLaw (K : PySem.W.Frag) : Sp := fun vs H Q _ => ∃ (a : Addr) (ns : List Int), vs = [.ref a] ∧ SqL K H a (ns.map V.int) ∧ ns.length ≤ 63 ∧ ∀ H', Q (.bl true) H'
theorem all_zero {l : List Int} {n : Nat} (hl : l.length = n) (h : ∀ i, l.getD i 0 = 0) : l = List.replicate n 0 := by
  refine List.eq_replicate_iff.mpr ⟨hl, fun x hx => ?_⟩
  obtain ⟨i, hi, e⟩ := List.getElem_of_mem hx
  have := h i
  rw [getD_lt hi, e] at this
  exact this
theorem soundOf {js : List T3} (h : ∀ j ∈ js, JobOk j) : Sound js := fun j hj => (h j hj).s
theorem left_step {js ps : List T3} {i : Nat} {q : T3} (h : ps[i]? = some q) : leftAfter js (ps.take (i + 1)) = takeOff (leftAfter js (ps.take i)) q := by
  rw [List.take_add_one, h]
  exact leftAfter_snoc js (ps.take i) q
theorem time_step {ps : List T3} {i : Nat} {q : T3} (h : ps[i]? = some q) : timeAfter (ps.take (i + 1)) = q.2.2 := by
  rw [List.take_add_one, h]
  exact timeAfter_snoc (ps.take i) q
end DLL
namespace DLL
open PySem PySem.Spec PyProof.Rows L2 Evl DL
section
variable {P : Program} {w : World} {K : PySem.W.Frag} {mg : Str → Option Value} {base : Heap} {H : Hp}
theorem ok_law {f : Addr} {fd : FuncData} (F : Fun K "law" "law" s_law f fd) (T : TX K mg) : FnOk P w K mg base CX0 4 f fd ["_law_script"] (spLaw K) := by
  refine F.ok sc_law (fun vs H Q E h => ?_) (fun cdv A outer s H vs Q E hr h => ?_)
  · obtain ⟨_, _, rfl, _⟩ := h
    rfl
  · obtain ⟨a, ns, rfl, hS, hn, q⟩ := h
    refine ⟨_, (pss_cons (ps_set (i := 1) sc_law.nd rfl (.inl rfl) (pe_call (ok_law_jobs_by T) (hr.mono (by decide)) (by rfl) T.h_law_jobs_by.g T.h_law_jobs_by.F.kp T.h_law_jobs_by.b .nil pass0 (pa_cons (pv 0) (pa_cons pe_int pa_nil))))
  (pss_cons (ps_set (i := 2) sc_law.nd rfl (.inl rfl) (pe_callTy (T := "list") (r := Evl.rListS K) call_list_of (by rfl) T.b_list (by decide +kernel) (pa_cons (pv 1) pa_nil)))
  (pss_cons (ps_set (i := 3) sc_law.nd rfl (.inl rfl) (pe_call (ok_run T) (hr.mono (by decide)) (by rfl) T.h_run.g T.h_run.F.kp T.h_run.b .nil pass0 (pa_cons (pv 2) pa_nil)))
  (pss_cons (ps_if (PW.pt (pw_or (pt_not (pt_val (pe_callB (id := "isinstance") (r := rIsi K) call_isi (by rfl) T.b_isinstance (by decide +kernel) (pa_cons (pv 3) (pa_cons (pe_bltn (v := .ty "list") (by rfl) T.b_list (by decide +kernel) rfl) pa_nil))))) (pw_or1 (pt_cmpR (r := rNeD K) (op_neD hr.units) (pv 2) (pv 1) (nomark _)))))
    (pss_one (ps_ret pe_bl))
    pss_nil)
  (pss_cons (ps_setLc (i := 4) (own := [("_law_job", 7)]) (g := (gName 7)) (tt := tYes) rfl sc_law.nd rfl rfl (sw_true rfl rfl rfl (by decide +kernel)) (pi_list (pv 1)) (blkOk_by (own := [("_law_job", 7)]) (N := N_law) (sc := defScope s_law) (by decide +kernel)) (fun _ _ _ _ _ => (pg_name (i := 7) sc_law.nd rfl (.inl rfl))) (fun _ _ _ _ _ => pts_nil) (fun _ _ _ _ _ => (pe_ix (r := rIxT K) ix_tup (pv 7) pe_int (fun _ _ => rfl))))
  (pss_cons (ps_set (i := 5) sc_law.nd rfl (.inl rfl) pe_int)
  (pss_cons (ps_for PassesOwn.never rfl (pi_list (pv 3)) (pg_name (i := 6) sc_law.nd rfl (.inl rfl))
    (pss_cons (ps_if (PW.pt (pw_or (pt_not (pt_val (pe_callB (id := "isinstance") (r := rIsi K) call_isi (by rfl) T.b_isinstance (by decide +kernel) (pa_cons (pv 6) (pa_cons (pe_bltn (v := .ty "tuple") (by rfl) T.b_tuple (by decide +kernel) rfl) pa_nil))))) (pw_or1 (pt_cmpR op_ne (pe_callB (id := "len") (r := Evl.rLenS K) call_len_seq (by rfl) T.b_len PySem.boot_len (pa_cons (pv 6) pa_nil)) pe_int (nomark _)))))
    (pss_one (ps_ret pe_bl))
    pss_nil)
  (pss_cons (ps_if (PW.pt (pw_or (pt_not (pt_val (pe_call (ok_law_whole T) (hr.mono (by decide)) (by rfl) T.h_law_whole.g T.h_law_whole.F.kp T.h_law_whole.b .nil pass0 (pa_cons (pe_ix (r := rIxT K) ix_tup (pv 6) pe_int (fun _ _ => rfl)) pa_nil)))) (pw_or (pt_not (pt_val (pe_call (ok_law_whole T) (hr.mono (by decide)) (by rfl) T.h_law_whole.g T.h_law_whole.F.kp T.h_law_whole.b .nil pass0 (pa_cons (pe_ix (r := rIxT K) ix_tup (pv 6) pe_int (fun _ _ => rfl)) pa_nil)))) (pw_or1 (pt_not (pt_val (pe_call (ok_law_whole T) (hr.mono (by decide)) (by rfl) T.h_law_whole.g T.h_law_whole.F.kp T.h_law_whole.b .nil pass0 (pa_cons (pe_ix (r := rIxT K) ix_tup (pv 6) pe_int (fun _ _ => rfl)) pa_nil))))))))
    (pss_one (ps_ret pe_bl))
    pss_nil)
  (pss_cons (ps_if (PW.pt (pw_or (pt_not (pt_chain op_le op_lt pe_int (pe_ix (r := rIxT K) ix_tup (pv 6) pe_int (fun _ _ => rfl)) (pe_callB (id := "len") (r := Evl.rLenS K) call_len_seq (by rfl) T.b_len PySem.boot_len (pa_cons (pv 1) pa_nil)))) (pw_or (pt_not (pt_chain op_le op_lt (pv 5) (pe_ix (r := rIxT K) ix_tup (pv 6) pe_int (fun _ _ => rfl)) (pe_ix (r := rIxT K) ix_tup (pv 6) pe_int (fun _ _ => rfl)))) (pw_or1 (pt_cmpR op_lt (pe_ix (r := rIxT K) ix_tup (pv 6) pe_int (fun _ _ => rfl)) (pe_ix (r := rIxT K) ix_tup (pe_ix (r := rIxL K) ix_list (pv 1) (pe_ix (r := rIxT K) ix_tup (pv 6) pe_int (fun _ _ => rfl)) (fun _ _ => rfl)) pe_int (fun _ _ => rfl)) (nomark _))))))
    (pss_one (ps_ret pe_bl))
    pss_nil)
  (pss_cons (ps_asg (pe_op op_sub (pe_ix (r := rIxL K) ix_list (pv 4) (pe_ix (r := rIxT K) ix_tup (pv 6) pe_int (fun _ _ => rfl)) (fun _ _ => rfl)) (pe_op op_sub (pe_ix (r := rIxT K) ix_tup (pv 6) pe_int (fun _ _ => rfl)) (pe_ix (r := rIxT K) ix_tup (pv 6) pe_int (fun _ _ => rfl)))) (pg_sub (pv 4) (pe_ix (r := rIxT K) ix_tup (pv 6) pe_int (fun _ _ => rfl)) set_list))
  (pss_one (ps_set (i := 5) sc_law.nd rfl (.inl rfl) (pe_ix (r := rIxT K) ix_tup (pv 6) pe_int (fun _ _ => rfl)))))))))
  (pss_one (ps_ret (pe_cmpR (r := rEqD K) (op_eqD hr.units) (pv 4) (pe_op op_rep (pe_lst (pa_cons pe_int pa_nil)) (pe_callB (id := "len") (r := Evl.rLenS K) call_len_seq (by rfl) T.b_len PySem.boot_len (pa_cons (pv 1) pa_nil))) (nomark _))))))))))), ?_⟩
    refine q_asgC (ea_cons (ev_var rfl) (ea_cons ev_c ea_nil)) fun H1 e1 => ⟨a, ns, 0, rfl, ex_l e1 hS, hn, by decide, fun p H2 js _ e2 hT hl hJ => ?_⟩
    refine q_asgTL (etl_list (ev_var rfl) hT) fun p2 H3 _ e3 hT2 => ?_
    refine q_asgC (ea_cons (ev_var rfl) ea_nil) fun H4 e4 => ⟨p2, js, rfl, hT2.mono e4, hl, soundOf hJ, fun p3 H5 _ e5 hP => ?_⟩
    have R := run_ok (soundOf hJ)
    generalize runM js = ps at *
    have hT5 := ((hT.mono e3).mono e4).mono e5
    have hT25 := (hT2.mono e4).mono e5
    obtain ⟨us, u1, u2⟩ := id hP
    refine q_when (b := !true || !decide (js = js)) (et_or (et_not (et_B (ev_isi (ev_var rfl) (fun H1 e => .lst (e _ _ u1)) (kit_ty (by decide +kernel)) ev_c))) fun _ => et_test (ev_op (ev_var rfl) (ev_var rfl) (rv_neT hT25 hT5))) (fun hb H6 e6 => ?_) (fun hb H6 e6 => ?_)
    · simp at hb
    refine q_asgL (el_ints (fun _ => true) (·.2.1) (fun j u => [some (.ref a), some (.ref p), some (.ref p2), some (.ref p3), none, none, none, some (.ref u)]) (ev_var rfl) (hT5.mono e6) (by omega) (fun j u H1 Q' hu hq => hq) (fun j u => rfl) (fun j u H1 _ _ _ => evt_yes) (fun j u H1 _ _ hu _ => ev_fld1 (ev_var rfl) hu ev_c (t3_1 j))) fun l H7 nl e7 hL => ?_
    rw [filter_yes] at hL
    refine q_asg ev_c fun H8 e8 => ?_
    have nl6 := nl
    refine q_forTL (ev_var rfl) ((hP.mono (e6.trans e7)).mono e8) (fun i σ' H' => ∃ x6 : Option V, σ' = [some (.ref a), some (.ref p), some (.ref p2), some (.ref p3), some (.ref l), some (.int (timeAfter (ps.take i))), x6, none] ∧ Ex H6 H' ∧ IL H' l (leftAfter js (ps.take i)))
      (fun H9 e9 => ⟨none, rfl, (e7.trans e8).trans e9, e9 _ _ (e8 _ _ hL)⟩) (fun i σ' H' _ ⟨_, _, e, _⟩ => (hP.mono e6).mono e) ?_ ?_
    · rintro i x t σ' H' hi ht ⟨x6, rfl, e9, hI⟩
      have O := R.way i x hi
      obtain ⟨pl, b, e⟩ := x
      obtain ⟨n, rfl⟩ : ∃ n : Nat, pl = (n : Int) := ⟨pl.toNat, by have := O.p0; dsimp only at this; omega⟩
      have hn' : n < js.length := by have := O.pn; dsimp only at this; rw [Int.toNat_natCast] at this; exact this
      have hjn : js[n]? = some js[n] := List.getElem?_eq_getElem hn'
      have hc := O.come
      have htb := O.tb
      have hbe := O.be
      dsimp only at hc htb hbe
      rw [Int.toNat_natCast, (cm_at hjn).1] at hc
      have hT6 := (hT5.mono e6).mono e9
      have hlen : n < (leftAfter js (ps.take i)).length := by rw [leftAfter_len]; exact hn'
      have f0 : ∀ {H9 : Hp} {σ : St}, AtT H9 t ((n : Int), b, e) → σ[6]? = some (some (.ref t)) → Ev (tOp (rIxT K) (tVar 6) (tC (.int 0))) σ H9 (.int (n : Int)) := fun h hs => ev_fld1 (ev_var hs) h ev_c (t3_0 _)
      have f1 : ∀ {H9 : Hp} {σ : St}, AtT H9 t ((n : Int), b, e) → σ[6]? = some (some (.ref t)) → Ev (tOp (rIxT K) (tVar 6) (tC (.int 1))) σ H9 (.int b) := fun h hs => ev_fld1 (ev_var hs) h ev_c (t3_1 _)
      have f2 : ∀ {H9 : Hp} {σ : St}, AtT H9 t ((n : Int), b, e) → σ[6]? = some (some (.ref t)) → Ev (tOp (rIxT K) (tVar 6) (tC (.int 2))) σ H9 (.int e) := fun h hs => ev_fld1 (ev_var hs) h ev_c (t3_2 _)
      refine q_when (b := !true || !decide (V.int (((tv ((n : Int), b, e)).length : Nat) : Int) = V.int 3)) (et_or (et_not (et_B (ev_isi (ev_var rfl) (fun H1 e => .tup (e _ _ ht)) (kit_ty (by decide +kernel)) ev_c))) fun _ => et_test (ev_op (ev_lenU (ev_var rfl) ht) ev_c (rv_ne rfl))) (fun hb H10 e10 => ?_) (fun hb H10 e10 => ?_)
      · exact absurd (show (!true || !decide (V.int (((tv ((n : Int), b, e)).length : Nat) : Int) = V.int 3)) = false from rfl) (by rw [hb]; decide)
      have h10 := e10 _ _ ht
      refine q_when (b := !true || (!true || !true)) (et_or (et_not (et_B (ev_whole (ea_cons (f0 h10 rfl) ea_nil)))) fun _ => et_or (et_not (et_B (ev_whole (ea_cons (f1 h10 rfl) ea_nil)))) fun _ => et_not (et_B (ev_whole (ea_cons (f2 h10 rfl) ea_nil)))) (fun hb H11 e11 => by cases hb) (fun hb H11 e11 => ?_)
      have h11 := e11 _ _ h10
      have hT11 := (hT6.mono e10).mono e11
      have hI11 := (hI.mono e10).mono e11
      refine q_when (b := !(decide ((0 : Int) ≤ (n : Int)) && decide ((n : Int) < (js.length : Int))) || (!(decide (timeAfter (ps.take i) ≤ b) && decide (b < e)) || decide (b < (js[n]).1)))
        (et_or (et_not (et_test (ev_chain ev_c (f0 h11 rfl) rv_I0 (fun _ => ev_lenT (ev_var rfl) hT11) fun _ => rv_I0))) fun _ => et_or (et_not (et_test (ev_chain (ev_var rfl) (f1 h11 rfl) rv_I0 (fun _ => f2 h11 rfl) fun _ => rv_I0))) fun _ => et_test (ev_op (f1 h11 rfl) (ev_field hjn (ev_var rfl) (f0 h11 rfl) hT11 ev_c (t3_0 _)) rv_I0)) (fun hb H12 e12 => ?_) (fun hb H12 e12 => ?_)
      · exfalso
        simp only [Bool.or_eq_true, Bool.not_eq_true', Bool.and_eq_false_iff, decide_eq_false_iff_not, decide_eq_true_eq] at hb
        omega
      have h12 := e12 _ _ h11
      have hI12 := hI11.mono e12
      refine q_setI (i := n) (z := (leftAfter js (ps.take i)).getD n 0 - (e - b)) (ev_op (ev_ixI (ev_var rfl) (f0 h12 rfl) hI12 hlen) (ev_op (f2 h12 rfl) (f1 h12 rfl) rv_I0) rv_I0) (ev_var rfl) (f0 h12 rfl) hI12 hlen fun H13 md h13 => ?_
      refine s_asg (f2 (md.tup _ _ h12) rfl) fun H14 e14 => ⟨some (.ref t), ?_, (md.base (((e9.trans e10).trans e11).trans e12) nl6).trans e14, ?_⟩
      · rw [time_step hi]
        rfl
      · rw [left_step hi]
        unfold takeOff
        rw [Int.toNat_natCast]
        exact h13.mono e14
    · rintro σ' H' ⟨x6, rfl, e9, hI⟩
      rw [List.take_length] at hI
      have hz := all_zero (leftAfter_len js ps) R.all
      rw [hz] at hI
      have hT6 := (hT5.mono e6).mono e9
      refine s_ret (v := .bl (decide (List.replicate js.length (0 : Int) = List.replicate js.length 0))) (ev_opL (xs := (List.replicate js.length (0 : Int)).map V.int) (ev_var rfl) (by
        rw [List.map_replicate]
        exact el_rep ev_c (ev_lenT (ev_var rfl) hT6) (by omega)) fun p4 H10 hp e10 => rv_eqN (hI.mono e10) hp) fun H11 _ => ?_
      rw [decide_eq_true rfl]
      exact q H11
end
theorem all_mk {l : PySem.W.OpenLaw} {w : World} {K : PySem.W.Frag} {h : Heap} {mg : Str → Option Value} {fa f0 f1 f2 f3 f4 f5 f6 f7 f8 f9 f10 f11 f12 f13 f14 f15 : Addr} (X : K.In h) (G : h.Ns mainGlobals mg) (hfa : mg "law" = some (.ref fa))
    {od0 an0 od1 an1 od2 an2 od3 an3 od4 an4 od5 an5 od6 an6 od7 an7 od8 an8 od9 an9 od10 an10 od11 an11 od12 an12 od13 an13 od14 an14 od15 an15 : Option Addr} {sl0 sl1 sl2 sl3 sl4 sl5 sl6 sl7 sl8 sl9 sl10 sl11 sl12 sl13 sl14 sl15 : Array (Option Value)} {oc0 kV0 dc0 pm0 cd0 ct0 oc1 kV1 dc1 pm1 cd1 ct1 oc2 kV2 dc2 pm2 cd2 ct2 oc3 kV3 dc3 pm3 cd3 ct3 oc4 kV4 dc4 pm4 cd4 ct4 oc5 kV5 dc5 pm5 cd5 ct5 oc6 kV6 dc6 pm6 cd6 ct6 oc7 kV7 dc7 pm7 cd7 ct7 oc8 kV8 dc8 pm8 cd8 ct8 oc9 kV9 dc9 pm9 cd9 ct9 oc10 kV10 dc10 pm10 cd10 ct10 oc11 kV11 dc11 pm11 cd11 ct11 oc12 kV12 dc12 pm12 cd12 ct12 oc13 kV13 dc13 pm13 cd13 ct13 oc14 kV14 dc14 pm14 cd14 ct14 oc15 kV15 dc15 pm15 cd15 ct15 : Value} {tk_LIMIT : Tok}
    (a0 : PySem.W.nsIn K mainGlobals "sound" = some (some (.ref f0))) (l0 : K.lookup f0 = some ⟨oc0, od0, .func (PySem.W.fnOf "sound" "sound" (defArgs s_sound) (defBody s_sound) (defScope s_sound) .none kV0 dc0 pm0 an0 cd0 ct0), sl0⟩) (c0 : PySem.W.codeIn K cd0 "sound" = true) (k0 : PySem.W.keepIn K (.ref f0) = true)
    (a1 : PySem.W.nsIn K mainGlobals "check_jobs" = some (some (.ref f1))) (l1 : K.lookup f1 = some ⟨oc1, od1, .func (PySem.W.fnOf "check_jobs" "check_jobs" (defArgs s_check_jobs) (defBody s_check_jobs) (defScope s_check_jobs) .none kV1 dc1 pm1 an1 cd1 ct1), sl1⟩) (c1 : PySem.W.codeIn K cd1 "check_jobs" = true) (k1 : PySem.W.keepIn K (.ref f1) = true)
    (a2 : PySem.W.nsIn K mainGlobals "run" = some (some (.ref f2))) (l2 : K.lookup f2 = some ⟨oc2, od2, .func (PySem.W.fnOf "run" "run" (defArgs s_run) (defBody s_run) (defScope s_run) .none kV2 dc2 pm2 an2 cd2 ct2), sl2⟩) (c2 : PySem.W.codeIn K cd2 "run" = true) (k2 : PySem.W.keepIn K (.ref f2) = true)
    (a3 : PySem.W.nsIn K mainGlobals "_first_due" = some (some (.ref f3))) (l3 : K.lookup f3 = some ⟨oc3, od3, .func (PySem.W.fnOf "_first_due" "_first_due" (defArgs s_first_due) (defBody s_first_due) (defScope s_first_due) .none kV3 dc3 pm3 an3 cd3 ct3), sl3⟩) (c3 : PySem.W.codeIn K cd3 "_first_due" = true) (k3 : PySem.W.keepIn K (.ref f3) = true)
    (a4 : PySem.W.nsIn K mainGlobals "_next_come" = some (some (.ref f4))) (l4 : K.lookup f4 = some ⟨oc4, od4, .func (PySem.W.fnOf "_next_come" "_next_come" (defArgs s_next_come) (defBody s_next_come) (defScope s_next_come) .none kV4 dc4 pm4 an4 cd4 ct4), sl4⟩) (c4 : PySem.W.codeIn K cd4 "_next_come" = true) (k4 : PySem.W.keepIn K (.ref f4) = true)
    (a5 : PySem.W.nsIn K mainGlobals "_end_of_work" = some (some (.ref f5))) (l5 : K.lookup f5 = some ⟨oc5, od5, .func (PySem.W.fnOf "_end_of_work" "_end_of_work" (defArgs s_end_of_work) (defBody s_end_of_work) (defScope s_end_of_work) .none kV5 dc5 pm5 an5 cd5 ct5), sl5⟩) (c5 : PySem.W.codeIn K cd5 "_end_of_work" = true) (k5 : PySem.W.keepIn K (.ref f5) = true)
    (a6 : PySem.W.nsIn K mainGlobals "_add_piece" = some (some (.ref f6))) (l6 : K.lookup f6 = some ⟨oc6, od6, .func (PySem.W.fnOf "_add_piece" "_add_piece" (defArgs s_add_piece) (defBody s_add_piece) (defScope s_add_piece) .none kV6 dc6 pm6 an6 cd6 ct6), sl6⟩) (c6 : PySem.W.codeIn K cd6 "_add_piece" = true) (k6 : PySem.W.keepIn K (.ref f6) = true)
    (a7 : PySem.W.nsIn K mainGlobals "_law_whole" = some (some (.ref f7))) (l7 : K.lookup f7 = some ⟨oc7, od7, .func (PySem.W.fnOf "_law_whole" "_law_whole" (defArgs s_law_whole) (defBody s_law_whole) (defScope s_law_whole) .none kV7 dc7 pm7 an7 cd7 ct7), sl7⟩) (c7 : PySem.W.codeIn K cd7 "_law_whole" = true) (k7 : PySem.W.keepIn K (.ref f7) = true)
    (a8 : PySem.W.nsIn K mainGlobals "_law_cell_at" = some (some (.ref f8))) (l8 : K.lookup f8 = some ⟨oc8, od8, .func (PySem.W.fnOf "_law_cell_at" "_law_cell_at" (defArgs s_law_cell_at) (defBody s_law_cell_at) (defScope s_law_cell_at) .none kV8 dc8 pm8 an8 cd8 ct8), sl8⟩) (c8 : PySem.W.codeIn K cd8 "_law_cell_at" = true) (k8 : PySem.W.keepIn K (.ref f8) = true)
    (a9 : PySem.W.nsIn K mainGlobals "_law_mixed" = some (some (.ref f9))) (l9 : K.lookup f9 = some ⟨oc9, od9, .func (PySem.W.fnOf "_law_mixed" "_law_mixed" (defArgs s_law_mixed) (defBody s_law_mixed) (defScope s_law_mixed) .none kV9 dc9 pm9 an9 cd9 ct9), sl9⟩) (c9 : PySem.W.codeIn K cd9 "_law_mixed" = true) (k9 : PySem.W.keepIn K (.ref f9) = true)
    (a10 : PySem.W.nsIn K mainGlobals "_law_job_by" = some (some (.ref f10))) (l10 : K.lookup f10 = some ⟨oc10, od10, .func (PySem.W.fnOf "_law_job_by" "_law_job_by" (defArgs s_law_job_by) (defBody s_law_job_by) (defScope s_law_job_by) .none kV10 dc10 pm10 an10 cd10 ct10), sl10⟩) (c10 : PySem.W.codeIn K cd10 "_law_job_by" = true) (k10 : PySem.W.keepIn K (.ref f10) = true)
    (a11 : PySem.W.nsIn K mainGlobals "_law_count_by" = some (some (.ref f11))) (l11 : K.lookup f11 = some ⟨oc11, od11, .func (PySem.W.fnOf "_law_count_by" "_law_count_by" (defArgs s_law_count_by) (defBody s_law_count_by) (defScope s_law_count_by) .none kV11 dc11 pm11 an11 cd11 ct11), sl11⟩) (c11 : PySem.W.codeIn K cd11 "_law_count_by" = true) (k11 : PySem.W.keepIn K (.ref f11) = true)
    (a12 : PySem.W.nsIn K mainGlobals "_law_wide_by" = some (some (.ref f12))) (l12 : K.lookup f12 = some ⟨oc12, od12, .func (PySem.W.fnOf "_law_wide_by" "_law_wide_by" (defArgs s_law_wide_by) (defBody s_law_wide_by) (defScope s_law_wide_by) .none kV12 dc12 pm12 an12 cd12 ct12), sl12⟩) (c12 : PySem.W.codeIn K cd12 "_law_wide_by" = true) (k12 : PySem.W.keepIn K (.ref f12) = true)
    (a13 : PySem.W.nsIn K mainGlobals "_law_tight_by" = some (some (.ref f13))) (l13 : K.lookup f13 = some ⟨oc13, od13, .func (PySem.W.fnOf "_law_tight_by" "_law_tight_by" (defArgs s_law_tight_by) (defBody s_law_tight_by) (defScope s_law_tight_by) .none kV13 dc13 pm13 an13 cd13 ct13), sl13⟩) (c13 : PySem.W.codeIn K cd13 "_law_tight_by" = true) (k13 : PySem.W.keepIn K (.ref f13) = true)
    (a14 : PySem.W.nsIn K mainGlobals "_law_jobs_by" = some (some (.ref f14))) (l14 : K.lookup f14 = some ⟨oc14, od14, .func (PySem.W.fnOf "_law_jobs_by" "_law_jobs_by" (defArgs s_law_jobs_by) (defBody s_law_jobs_by) (defScope s_law_jobs_by) .none kV14 dc14 pm14 an14 cd14 ct14), sl14⟩) (c14 : PySem.W.codeIn K cd14 "_law_jobs_by" = true) (k14 : PySem.W.keepIn K (.ref f14) = true)
    (a15 : PySem.W.nsIn K mainGlobals "law" = some (some (.ref f15))) (l15 : K.lookup f15 = some ⟨oc15, od15, .func (PySem.W.fnOf "law" "law" (defArgs s_law) (defBody s_law) (defScope s_law) .none kV15 dc15 pm15 an15 cd15 ct15), sl15⟩) (c15 : PySem.W.codeIn K cd15 "law" = true) (k15 : PySem.W.keepIn K (.ref f15) = true)
    (z_tuple : PySem.W.nsIn K mainGlobals "tuple" = some none)
    (z_all : PySem.W.nsIn K mainGlobals "all" = some none)
    (z_type : PySem.W.nsIn K mainGlobals "type" = some none)
    (z_len : PySem.W.nsIn K mainGlobals "len" = some none)
    (z_int : PySem.W.nsIn K mainGlobals "int" = some none)
    (z_enumerate : PySem.W.nsIn K mainGlobals "enumerate" = some none)
    (z_any : PySem.W.nsIn K mainGlobals "any" = some none)
    (z_min : PySem.W.nsIn K mainGlobals "min" = some none)
    (z_isinstance : PySem.W.nsIn K mainGlobals "isinstance" = some none)
    (z_bool : PySem.W.nsIn K mainGlobals "bool" = some none)
    (z_range : PySem.W.nsIn K mainGlobals "range" = some none)
    (z_max : PySem.W.nsIn K mainGlobals "max" = some none)
    (z_list : PySem.W.nsIn K mainGlobals "list" = some none)
    (w_LIMIT : PySem.W.nsIn K mainGlobals "LIMIT" = some (some (.int 60 tk_LIMIT)))
    : ∃ fd : FuncData, (∀ (s : Shared) (v : Value), BindsTo s fd ⟨[v], []⟩ [("_law_script", v)]) ∧ ∀ base : Heap, K.In base → base.Ns mainGlobals mg → FnOk l.prog w K mg base CX0 4 fa fd ["_law_script"] (spLaw K) := by
  have e := hfa.symm.trans (PySem.W.mg_of X G a15)
  cases e
  have F0 := fun_mk (st := s_sound) l0 c0 k0
  have F1 := fun_mk (st := s_check_jobs) l1 c1 k1
  have F2 := fun_mk (st := s_run) l2 c2 k2
  have F3 := fun_mk (st := s_first_due) l3 c3 k3
  have F4 := fun_mk (st := s_next_come) l4 c4 k4
  have F5 := fun_mk (st := s_end_of_work) l5 c5 k5
  have F6 := fun_mk (st := s_add_piece) l6 c6 k6
  have F7 := fun_mk (st := s_law_whole) l7 c7 k7
  have F8 := fun_mk (st := s_law_cell_at) l8 c8 k8
  have F9 := fun_mk (st := s_law_mixed) l9 c9 k9
  have F10 := fun_mk (st := s_law_job_by) l10 c10 k10
  have F11 := fun_mk (st := s_law_count_by) l11 c11 k11
  have F12 := fun_mk (st := s_law_wide_by) l12 c12 k12
  have F13 := fun_mk (st := s_law_tight_by) l13 c13 k13
  have F14 := fun_mk (st := s_law_jobs_by) l14 c14 k14
  have F15 := fun_mk (st := s_law) l15 c15 k15
  have b0 := F0.binds (ps := ["job"]) fun _ _ _ _ _ _ us hl => match us, hl with | [_], _ => rfl
  have b1 := F1.binds (ps := ["jobs"]) fun _ _ _ _ _ _ us hl => match us, hl with | [_], _ => rfl
  have b2 := F2.binds (ps := ["jobs"]) fun _ _ _ _ _ _ us hl => match us, hl with | [_], _ => rfl
  have b3 := F3.binds (ps := ["jobs", "left", "time"]) fun _ _ _ _ _ _ us hl => match us, hl with | [_, _, _], _ => rfl
  have b4 := F4.binds (ps := ["jobs", "time"]) fun _ _ _ _ _ _ us hl => match us, hl with | [_, _], _ => rfl
  have b5 := F5.binds (ps := ["jobs", "time", "rest"]) fun _ _ _ _ _ _ us hl => match us, hl with | [_, _, _], _ => rfl
  have b6 := F6.binds (ps := ["pieces", "place", "begin", "end"]) fun _ _ _ _ _ _ us hl => match us, hl with | [_, _, _, _], _ => rfl
  have b7 := F7.binds (ps := ["_law_found"]) fun _ _ _ _ _ _ us hl => match us, hl with | [_], _ => rfl
  have b8 := F8.binds (ps := ["_law_script", "_law_k"]) fun _ _ _ _ _ _ us hl => match us, hl with | [_, _], _ => rfl
  have b9 := F9.binds (ps := ["_law_cell", "_law_k", "_law_prime"]) fun _ _ _ _ _ _ us hl => match us, hl with | [_, _, _], _ => rfl
  have b10 := F10.binds (ps := ["_law_come", "_law_length", "_law_due", "_law_wide", "_law_more"]) fun _ _ _ _ _ _ us hl => match us, hl with | [_, _, _, _, _], _ => rfl
  have b11 := F11.binds (ps := ["_law_cell"]) fun _ _ _ _ _ _ us hl => match us, hl with | [_], _ => rfl
  have b12 := F12.binds (ps := ["_law_cell"]) fun _ _ _ _ _ _ us hl => match us, hl with | [_], _ => rfl
  have b13 := F13.binds (ps := ["_law_cell", "_law_count", "_law_wide"]) fun _ _ _ _ _ _ us hl => match us, hl with | [_, _, _], _ => rfl
  have b14 := F14.binds (ps := ["_law_script", "_law_first"]) fun _ _ _ _ _ _ us hl => match us, hl with | [_, _], _ => rfl
  have T : TX K mg := { f_sound := _, d_sound := _, h_sound := ⟨F0, b0, PySem.W.mg_of X G a0⟩, f_check_jobs := _, d_check_jobs := _, h_check_jobs := ⟨F1, b1, PySem.W.mg_of X G a1⟩, f_run := _, d_run := _, h_run := ⟨F2, b2, PySem.W.mg_of X G a2⟩, f_first_due := _, d_first_due := _, h_first_due := ⟨F3, b3, PySem.W.mg_of X G a3⟩, f_next_come := _, d_next_come := _, h_next_come := ⟨F4, b4, PySem.W.mg_of X G a4⟩, f_end_of_work := _, d_end_of_work := _, h_end_of_work := ⟨F5, b5, PySem.W.mg_of X G a5⟩, f_add_piece := _, d_add_piece := _, h_add_piece := ⟨F6, b6, PySem.W.mg_of X G a6⟩, f_law_whole := _, d_law_whole := _, h_law_whole := ⟨F7, b7, PySem.W.mg_of X G a7⟩, f_law_cell_at := _, d_law_cell_at := _, h_law_cell_at := ⟨F8, b8, PySem.W.mg_of X G a8⟩, f_law_mixed := _, d_law_mixed := _, h_law_mixed := ⟨F9, b9, PySem.W.mg_of X G a9⟩, f_law_job_by := _, d_law_job_by := _, h_law_job_by := ⟨F10, b10, PySem.W.mg_of X G a10⟩, f_law_count_by := _, d_law_count_by := _, h_law_count_by := ⟨F11, b11, PySem.W.mg_of X G a11⟩, f_law_wide_by := _, d_law_wide_by := _, h_law_wide_by := ⟨F12, b12, PySem.W.mg_of X G a12⟩, f_law_tight_by := _, d_law_tight_by := _, h_law_tight_by := ⟨F13, b13, PySem.W.mg_of X G a13⟩, f_law_jobs_by := _, d_law_jobs_by := _, h_law_jobs_by := ⟨F14, b14, PySem.W.mg_of X G a14⟩, b_tuple := PySem.W.mg_none_of X G z_tuple, b_all := PySem.W.mg_none_of X G z_all, b_type := PySem.W.mg_none_of X G z_type, b_len := PySem.W.mg_none_of X G z_len, b_int := PySem.W.mg_none_of X G z_int, b_enumerate := PySem.W.mg_none_of X G z_enumerate, b_any := PySem.W.mg_none_of X G z_any, b_min := PySem.W.mg_none_of X G z_min, b_isinstance := PySem.W.mg_none_of X G z_isinstance, b_bool := PySem.W.mg_none_of X G z_bool, b_range := PySem.W.mg_none_of X G z_range, b_max := PySem.W.mg_none_of X G z_max, b_list := PySem.W.mg_none_of X G z_list, t_LIMIT := tk_LIMIT, c_LIMIT := PySem.W.mg_of X G w_LIMIT }
  exact ⟨PySem.W.fnOf "law" "law" (defArgs s_law) (defBody s_law) (defScope s_law) .none kV15 dc15 pm15 an15 cd15 ct15, fun s v => .of_eq rfl, fun base _ _ => ok_law F15 T⟩
end DLL
open PySem PySem.W PyProof.Rows
set_option maxRecDepth 100000 in
set_option maxHeartbeats 0 in
theorem PySem.Challenge.cw_deadlinerun_k05_run_does_all_holds : PySem.Challenge.rw_deadlinerun_k05_run_does_all.Holds := by
  w_on; o_law; k_head; (case hw => w_witness2)
  k_fill
  refine L2.walk_of (l := PySem.Challenge.rw_deadlinerun_k05_run_does_all) (n := 63) (k := 4) (x := "_law_script") (CX := fun _ => L2.CX0) (sp := fun w => DLL.spLaw _) rfl (by decide) rfl ⟨rfl, by decide, by decide⟩ (fun w h Y => PySem.W.kIn_of Y) ?F (fun _ _ a ns hl _ hS => ⟨a, ns, rfl, hS, hl, fun _ => rfl⟩) (fun _ _ _ _ _ h => h)
  case F =>
    intro w mg fa h KX G hmg
    refine' DLL.all_mk KX G hmg ?a0 ?l0 ?c0 ?k0 ?a1 ?l1 ?c1 ?k1 ?a2 ?l2 ?c2 ?k2 ?a3 ?l3 ?c3 ?k3 ?a4 ?l4 ?c4 ?k4 ?a5 ?l5 ?c5 ?k5 ?a6 ?l6 ?c6 ?k6 ?a7 ?l7 ?c7 ?k7 ?a8 ?l8 ?c8 ?k8 ?a9 ?l9 ?c9 ?k9 ?a10 ?l10 ?c10 ?k10 ?a11 ?l11 ?c11 ?k11 ?a12 ?l12 ?c12 ?k12 ?a13 ?l13 ?c13 ?k13 ?a14 ?l14 ?c14 ?k14 ?a15 ?l15 ?c15 ?k15 ?z_tuple ?z_all ?z_type ?z_len ?z_int ?z_enumerate ?z_any ?z_min ?z_isinstance ?z_bool ?z_range ?z_max ?z_list ?w_LIMIT
    (case a0 => k_is)
    (case l0 => k_is)
    (case c0 => k_is)
    (case k0 => k_is)
    (case a1 => k_is)
    (case l1 => k_is)
    (case c1 => k_is)
    (case k1 => k_is)
    (case a2 => k_is)
    (case l2 => k_is)
    (case c2 => k_is)
    (case k2 => k_is)
    (case a3 => k_is)
    (case l3 => k_is)
    (case c3 => k_is)
    (case k3 => k_is)
    (case a4 => k_is)
    (case l4 => k_is)
    (case c4 => k_is)
    (case k4 => k_is)
    (case a5 => k_is)
    (case l5 => k_is)
    (case c5 => k_is)
    (case k5 => k_is)
    (case a6 => k_is)
    (case l6 => k_is)
    (case c6 => k_is)
    (case k6 => k_is)
    (case a7 => k_is)
    (case l7 => k_is)
    (case c7 => k_is)
    (case k7 => k_is)
    (case a8 => k_is)
    (case l8 => k_is)
    (case c8 => k_is)
    (case k8 => k_is)
    (case a9 => k_is)
    (case l9 => k_is)
    (case c9 => k_is)
    (case k9 => k_is)
    (case a10 => k_is)
    (case l10 => k_is)
    (case c10 => k_is)
    (case k10 => k_is)
    (case a11 => k_is)
    (case l11 => k_is)
    (case c11 => k_is)
    (case k11 => k_is)
    (case a12 => k_is)
    (case l12 => k_is)
    (case c12 => k_is)
    (case k12 => k_is)
    (case a13 => k_is)
    (case l13 => k_is)
    (case c13 => k_is)
    (case k13 => k_is)
    (case a14 => k_is)
    (case l14 => k_is)
    (case c14 => k_is)
    (case k14 => k_is)
    (case a15 => k_is)
    (case l15 => k_is)
    (case c15 => k_is)
    (case k15 => k_is)
    (case z_tuple => k_is)
    (case z_all => k_is)
    (case z_type => k_is)
    (case z_len => k_is)
    (case z_int => k_is)
    (case z_enumerate => k_is)
    (case z_any => k_is)
    (case z_min => k_is)
    (case z_isinstance => k_is)
    (case z_bool => k_is)
    (case z_range => k_is)
    (case z_max => k_is)
    (case z_list => k_is)
    (case w_LIMIT => k_is)

