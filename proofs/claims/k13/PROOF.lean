import PyProof.Rows.All
import Wide.All
import OpenK.AllK
import Wide.FinOn
import HandS.ForMost
import HandS.ForExc
import HandS.Wide
import HandS.Evl
import HandS.SortRule
import HandS.IsInst
import HandS.Flow
import HandS.More
import HandS.Zip
import HandS.SortKw
import KE.DataAny
import KE.DatumOrd
import PyProof.TypeEq
import HandS.SortInts
import HandS.Rev
import HandS.TryMany
import HandS.ExcIs
import HandS.RaiseMore
import HandS.FStr
import HandS.Codes
import HandS.StrMore
import PySem.Challenge.RW_deadlinerun_k13_whole_book
set_option Elab.async false
set_option linter.all false
set_option maxRecDepth 100000
namespace L2
open PySem PySem.Spec PyProof.Rows PySem.W
/-! ### rules of my own -/
section
variable {X : Cx} {a b c d : Expr} {ta tb tc td : TE} {pos : Pos}
/-- three comparisons in a row -/
def tChain3 (r r' r'' : R2) (ta tb tc td : TE) : TE := fun σ H Q => ta σ H fun x H1 => tb σ H1 fun y H2 => r x y H2 fun z H3 => ∃ k, z = .bl k ∧
  (if k = true then tc σ H3 fun w' H4 => r' y w' H4 fun z2 H5 => ∃ k2, z2 = .bl k2 ∧ (if k2 = true then td σ H5 fun w2 H6 => r'' w' w2 H6 Q else Q (.bl false) H5) else Q (.bl false) H3)
theorem pe_chain3 {op op' op'' : CmpOp} {r r' r'' : R2} (ho : OpR X (compareOp op) r) (ho' : OpR X (compareOp op') r') (ho'' : OpR X (compareOp op'') r'') (ha : PE X a ta) (hb : PE X b tb) (hc : PE X c tc) (hd : PE X d td)
    (hm : lastMarks [op, op', op''] [b, c, d] = false := by with_unfolding_all rfl) : PE X (.Compare a [op, op', op''] [b, c, d] pos) (tChain3 r r' r'' ta tb tc td) := by
  refine ⟨fun pn t₀ τ G Q J rd => ?_⟩
  refine Compare_chain (thn (ha.run pn t₀ τ G _ J rd) fun v₁ t₁ ⟨x₁, G₁, J₁, k₁, w₁⟩ => chain_link (thn (hb.run pn t₁ τ G₁ _ J₁ w₁) fun v₂ t₂ ⟨x₂, G₂, J₂, k₂, w₂⟩ =>
    thn (ho pn t₂ τ G₂ x₁ x₂ v₁ v₂ _ J₂ k₁ k₂ w₂) fun b₁ t₃ ⟨y₁, G₃, J₃, l₁, m, em, w₃⟩ => ?_)) hm
  subst em
  cases l₁
  refine wpAny_truthy_bool ?_
  cases m with
  | false =>
    refine ite_ff ⟨.bl false, G₃, J₃, rfl, w₃⟩
  | true =>
    refine ite_tt (chain_link (thn (hc.run pn t₃ τ G₃ _ J₃ w₃) fun v₃ t₄ ⟨x₃, G₄, J₄, k₃, w₄⟩ => thn (ho' pn t₄ τ G₄ x₂ x₃ v₂ v₃ _ J₄ k₂ k₃ w₄) fun b₂ t₅ ⟨y₂, G₅, J₅, l₂, m₂, em₂, w₅⟩ => ?_))
    subst em₂
    cases l₂
    refine wpAny_truthy_bool ?_
    cases m₂ with
    | false =>
      refine ite_ff ⟨.bl false, G₅, J₅, rfl, w₅⟩
    | true => exact ite_tt (chain_last (thn (hd.run pn t₅ τ G₅ _ J₅ w₅) fun v₄ t₆ ⟨x₄, G₆, J₆, k₄, w₆⟩ => ho'' pn t₆ τ G₆ x₃ x₄ v₃ v₄ Q J₆ k₃ k₄ w₆))

/-- xs[i], by values, for a store by an operator -/
theorem get_list : PGet X (rIxL X.K) := by
  intro pn t₀ τ G o i ov iv Q J ro ri rd
  obtain ⟨p, xs, k, z, rfl, rfl, isl, at_, q⟩ := rd
  cases ro
  obtain ⟨tk, rfl⟩ := ri
  obtain ⟨items, rel, place, size⟩ := J.list isl
  obtain ⟨n, n1, n2, n3, n4, n5⟩ := atI_get at_
  obtain ⟨u, eu, ru⟩ := rel.get n2
  have len := rel.length
  have most := line63
  have done : EP X pn τ Q u t₀ := ⟨z, G, J, ru, q⟩
  by_cases h0 : 0 ≤ k
  · have same : k.toNat = n := by
      rw [seqIndex_of h0 n5] at n1
      exact Option.some.inj n1
    exact thn (wpAny_getItem_list (Q := fun r t => r = u ∧ EP X pn τ Q r t) place.isList h0 (by omega) (by rw [same]; simpa using eu) ⟨rfl, done⟩) fun _ _ y => y.2
  · have same : (k + (items.toArray.size : Int)).toNat = n := by
      have n1' := n1
      rw [seqIndex_neg (by omega) n4] at n1'
      rw [List.size_toArray, ← len]
      exact Option.some.inj n1'
    exact thn (wpAny_getItem_list_neg (Q := fun r t => r = u ∧ EP X pn τ Q r t) place.isList (by omega) (by rw [List.size_toArray] <;> omega) (by omega) (by rw [same]; simpa using eu) ⟨rfl, done⟩) fun _ _ y => y.2

/-- any(xs) of whole numbers -/
theorem reads_ints {h : Heap} : ∀ {ns : List Int} {us : List Value}, Vals (ns.map V.int) us → ∃ as, ReadsAll h us (ns.map PyData.int) as
  | [], _, r => by cases r; exact ⟨_, ReadsAll.nil⟩
  | n :: ns, _, r => by
    cases r with
    | cons r1 r2 =>
      obtain ⟨t, rfl⟩ := r1
      obtain ⟨as, q⟩ := reads_ints r2
      exact ⟨_, ReadsAll.cons (Reads.int n t) q⟩
theorem plain_ints : ∀ ns : List Int, PyData.plainAll (ns.map PyData.int) = true
  | [] => rfl
  | n :: ns => by
    show ((PyData.int n).plain && PyData.plainAll (ns.map PyData.int)) = true
    rw [plain_ints ns]
    rfl
theorem any_ints (ns : List Int) : (ns.map PyData.int).any PyData.truthy = ns.any (fun n => n != 0) := by
  rw [List.any_map]
  rfl
def rAnyI (K : PySem.W.Frag) : List V → Hp → VK → Prop := fun vs H Q => ∃ (a : Addr) (ns : List Int), vs = [V.ref a] ∧ SqL K H a (ns.map V.int) ∧ Q (.bl (ns.any (fun n => n != 0))) H
theorem cr_anyI (hc : X.calm = true) : CallR X (.builtin "any") (rAnyI X.K) := by
  intro pn t₀ τ G vs us Q J rel rd
  obtain ⟨a, ns, rfl, isl, q⟩ := rd
  obtain ⟨items, each, place, _⟩ := J.list isl
  rw [Vals.ref1 rel]
  obtain ⟨as, hr⟩ := reads_ints (h := t₀.heap) each
  refine any_list_data (J.ok.hd hc) place.isList (vs := items.toArray) (xs := ns.map PyData.int) (as := as) (by simpa using hr) (plain_ints ns) (fun x hx => ?_) fun h' tk hk => ?_
  · obtain ⟨n, _, rfl⟩ := List.mem_map.mp hx
    trivial
  · rw [any_ints]
    exact ⟨.bl _, G, J.kept hk, rfl, q⟩
theorem alike_ints (ns : List Int) : AlikeAll (ns.map PyData.int) := by
  refine ⟨fun x hx y hy => ?_, fun x hx => ?_⟩
  · obtain ⟨n, _, rfl⟩ := List.mem_map.mp hx
    obtain ⟨m, _, rfl⟩ := List.mem_map.mp hy
    rfl
  · obtain ⟨n, _, rfl⟩ := List.mem_map.mp hx
    intro e; cases e
theorem depth_ints : ∀ ns : List Int, PyData.depthAll (ns.map PyData.int) ≤ 2
  | [] => by decide
  | n :: ns => by
    have h := depth_ints ns
    show max (PyData.int n).depth (PyData.depthAll (ns.map PyData.int)) ≤ 2
    have h1 : (PyData.int n).depth ≤ 2 := Nat.zero_le 2
    omega
/-- min(xs, default=d) of whole numbers -/
def rMinD (K : PySem.W.Frag) : List V → List V → Hp → VK → Prop := fun vs zs H Q => ∃ (a : Addr) (ns : List Int) (d : Int), vs = [V.ref a] ∧ zs = [V.int d] ∧ SqL K H a (ns.map V.int) ∧ (ns = [] → Q (.int d) H) ∧ (ns ≠ [] → ∀ m, m ∈ ns → (∀ y, y ∈ ns → m ≤ y) → Q (.int m) H)
theorem foldl_min : ∀ (ns : List Int) (n : Int), (ns.foldl min n = n ∨ ns.foldl min n ∈ ns) ∧ ns.foldl min n ≤ n ∧ ∀ y ∈ ns, ns.foldl min n ≤ y
  | [], n => ⟨.inl rfl, Int.le_refl _, fun y h => by simp at h⟩
  | m :: ns, n => by
    obtain ⟨h1, h2, h3⟩ := foldl_min ns (min n m)
    rw [List.foldl_cons]
    refine ⟨?_, by omega, fun y hy => ?_⟩
    · rcases h1 with e | e
      · by_cases c : n ≤ m
        · left; rw [e, Int.min_eq_left c]
        · right; rw [e, Int.min_eq_right (by omega)]; exact List.mem_cons_self
      · right; exact List.mem_cons_of_mem _ e
    · rcases List.mem_cons.mp hy with e | e
      · rw [e]; omega
      · exact h3 y e
theorem cr_minD (hc : X.calm = true) (hu : X.A.units + 64 < cLine) : CallRK X (.builtin "min") [Str.ofString "default"] (rMinD X.K) := by
  intro pn t₀ τ H vs zs us ws Q I rel relK rd
  obtain ⟨a, ns, d, rfl, rfl, isl, q0, q1⟩ := rd
  obtain ⟨items, each, place, _⟩ := I.list isl
  rw [Vals.ref1 rel]
  obtain ⟨wd, rfl, rd⟩ := vals1 relK
  obtain ⟨as, hr⟩ := reads_ints (h := t₀.heap) each
  show wpAny _ _ (call (.builtin "min") [.ref a] [(Str.ofString "default", wd)]) _ _ _
  refine min_list_default (I.ok.hd hc) place.isList (vs := items.toArray) (xs := ns.map PyData.int) (as := as) (by simpa using hr) (alike_ints ns) (by have := depth_ints ns; omega) (fun e h' tk hk => ?_) fun y ys i v h' tk bs e hv hrd hk => ?_
  · exact ⟨.int d, H, I.kept hk, rd, q0 (List.map_eq_nil_iff.mp e)⟩
  · cases ns with
    | nil => cases e
    | cons n ns =>
      rw [List.map_cons] at e
      injection e with e1 e2
      subst e1
      subst e2
      rw [minD_ints] at hrd
      obtain ⟨t, ev⟩ : ∃ t, v = Value.int (ns.foldl min n) t := by
        cases hrd with
        | int _ t => exact ⟨t, rfl⟩
      obtain ⟨g1, g2, g3⟩ := foldl_min ns n
      refine ⟨.int (ns.foldl min n), H, I.kept hk, ⟨t, ev⟩, q1 (List.cons_ne_nil _ _) _ ?_ fun y hy => ?_⟩
      · rcases g1 with z | z
        · rw [z]; exact List.mem_cons_self
        · exact List.mem_cons_of_mem _ z
      · rcases List.mem_cons.mp hy with z | z
        · rw [z]; exact g2
        · exact g3 y z

/-! ### == and != of built-in types -/
theorem meta_of {T : String} (h : T = "int" ∨ T = "bool" ∨ T = "str" ∨ T = "NoneType" ∨ T = "list" ∨ T = "tuple") : ∀ s' : Shared, s'.TypeIs (.type T) "type" := by
  intro s'
  rcases h with rfl | rfl | rfl | rfl | rfl | rfl
  · exact TypeEq.meta_int s'
  · exact TypeEq.meta_bool s'
  · exact TypeEq.meta_str s'
  · exact TypeEq.meta_NoneType s'
  · exact TypeEq.meta_list s'
  · exact TypeEq.meta_tuple s'
def SmallTy (T : String) : Prop := T = "int" ∨ T = "bool" ∨ T = "str" ∨ T = "NoneType" ∨ T = "list" ∨ T = "tuple"
def rEqTy : R2 := fun x y H Q => ∃ a b, x = .ty a ∧ y = .ty b ∧ SmallTy a ∧ SmallTy b ∧ Q (.bl (decide (a = b))) H
theorem op_eqTy : OpR X (compareOp .Eq) rEqTy := by
  intro pn t₀ τ G p₁ p₂ v₁ v₂ Q J rel₁ rel₂ rd
  obtain ⟨a, b, rfl, rfl, ha, hb, q⟩ := rd
  cases (show v₁ = Value.type a from rel₁)
  cases (show v₂ = Value.type b from rel₂)
  by_cases e : a = b
  · subst e
    exact TypeEq.eq_type_same (meta_of ha) (fin_bl J q (decide_eq_true rfl))
  · exact TypeEq.eq_type_other (meta_of ha) (meta_of hb) (beq_eq_false_iff_ne.mpr fun z => e (Value.type.inj z)) (fin_bl J q (decide_eq_false e))
end
end L2
namespace PySem.TypeEq
open Sem (wp)
theorem slot_type_ne : Slot "type" (cmpInfo .NotEq).2.1 "object.__ne__" := by
  refine .of (owner := "object") (n := "__ne__") ?_ (by decide +kernel) (by decide +kernel) (by decide +kernel) ?_ ?_
  · rw [typeLookup_type, builtinLookup_eq_fast]
    kernel_rfl
  · first
      | exact .inl (by decide +kernel)
      | exact .inr (by decide +kernel)
  · rw [isSubtype_type]
    kernel_rfl
theorem slot_type_ne_refl : Slot "type" (cmpInfo .NotEq).2.2 "object.__ne__" := slot_type_ne
section
variable {prog : Program} {w : World} {A : Around} {s : Shared} {E : Value → Shared → Prop}
theorem object_ne_run {X Y : String} {Q : Fin → Shared → Prop} (hX : ∀ s' : Shared, s'.TypeIs (.type X) "type")
    (h : if (Value.type X == Value.type Y) = true then Q (.done (.ret (.bool false))) s else Q (.done (.ret .notImplemented)) s) :
    wpAny (model prog w) A (Builtin.«object.__ne__» ⟨[.type X, .type Y], []⟩) Q E s := by
  show wpAny _ _ (Builtin.«object.__ne__» _) _ _ _
  delta Builtin.«object.__ne__»
  refine wpAny_bind (wpAny_pure (wpAny_bind (wpAny_cRoomFor_byValue rfl (wpAny_bind (wpAny_callSpecialIfBound?_slot (hX s) slot_type_eq ?_)))))
  by_cases e : (Value.type X == Value.type Y) = true
  · rw [if_pos e] at h
    refine call_gives slot_type_eq (hX s) F.entry_object_eq (F.args_object_eq_2 _ _) (object_eq_same rfl e) ?_
    refine wpAny_bind (wpAny_truthy_bool ?_)
    exact wpAny_pure h
  · rw [if_neg e] at h
    refine call_gives slot_type_eq (hX s) F.entry_object_eq (F.args_object_eq_2 _ _) (object_eq_other rfl (by simpa using e)) ?_
    exact wpAny_pure h
/-- != of two values of one type, where either method declines -/
theorem ne_declined {M : Model} {p q : Value} {T id : String} {k : Bool} {Q : Value → Shared → Prop} (tp : ∀ s' : Shared, s'.TypeIs p T) (tq : ∀ s' : Shared, s'.TypeIs q T)
    (one : Slot T (cmpInfo .NotEq).2.1 id) (two : Slot T (cmpInfo .NotEq).2.2 id) (off : [p, q].any Value.onHeap = false) (same : isSame p q = pure k)
    (run : wpAny M A (call (.builtin id) [p, q]) (fun v t₁ => v = .notImplemented ∧ wpAny M A (call (.builtin id) [q, p]) (fun v t₂ => v = .notImplemented ∧ Q (.bool (!k)) t₂) E t₁) E s) :
    wpAny M A (richCompare .NotEq p q) Q E s := by
  rcases how : cmpInfo .NotEq with ⟨g, f, r⟩
  rw [how] at one two
  simp only [richCompare, how, (tp s).oneThing_none]
  try with_reducible refine wpAny_holding ?_
  refine wpAny_bind (wpAny_cRoomFor_or (.inl off) (wpAny_bind (wpAny_typeOf (tp s) (wpAny_bind (wpAny_typeOf (tq s) ?_)))))
  simp only [Bool.not_false, if_true, if_false, Bool.false_eq_true, bne_self_eq_false, pure_bind]
  refine wpAny_bind (m := tryCompare p _ q) (wpAny_tryCompare_declines (tp s) one (wpAny_mono run (fun v t₁ z₁ => ⟨z₁.1, ?_⟩) fun _ _ y => y))
  refine wpAny_bind (m := tryCompare q _ p) (wpAny_tryCompare_declines (tq t₁) two (wpAny_mono z₁.2 (fun v t₂ z₂ => ⟨z₂.1, ?_⟩) fun _ _ y => y))
  exact wpAny_bind (wpAny_rule (wpAny_bind (wpAny_of_eq same (wpAny_pure z₂.2))))
theorem ne_type {X Y : String} {Q : Value → Shared → Prop} (hX : ∀ s' : Shared, s'.TypeIs (.type X) "type") (hY : ∀ s' : Shared, s'.TypeIs (.type Y) "type") (h : Q (.bool (!(Value.type X == Value.type Y))) s) : wpAny (model prog w) A (compareOp .NotEq (.type X) (.type Y)) Q E s := by
  show wpAny _ A (richCompare .NotEq _ _) Q E s
  by_cases e : (Value.type X == Value.type Y) = true
  · rw [e] at h
    refine wpAny_richCompare_same (T := "type") (hX s) (hY s) slot_type_ne (wpAny_call_entry slot_type_ne (hX s) F.entry_object_ne (object_ne_run hX ?_) (F.args_object_ne_2 _ _))
    rw [if_pos e]
    exact ⟨_, rfl, nofun, h⟩
  · have e0 : (Value.type X == Value.type Y) = false := by simpa using e
    have e' : ¬ (Value.type Y == Value.type X) = true := fun z => e (by rw [beq_iff_eq] at z ⊢; exact z.symm)
    rw [e0] at h
    refine ne_declined (T := "type") (k := false) hX hY slot_type_ne slot_type_ne_refl rfl (by rw [isSame_plain rfl, e0]) ?_
    refine wpAny_call_entry slot_type_ne (hX s) F.entry_object_ne (object_ne_run hX ?_) (F.args_object_ne_2 _ _)
    rw [if_neg e]
    refine ⟨_, rfl, rfl, ?_⟩
    refine wpAny_call_entry slot_type_ne_refl (hY s) F.entry_object_ne (object_ne_run hY ?_) (F.args_object_ne_2 _ _)
    rw [if_neg e']
    exact ⟨_, rfl, rfl, h⟩
end
end PySem.TypeEq
namespace L2
open PySem PySem.Spec PyProof.Rows PySem.W
section
variable {X : Cx}
def rNeTy : R2 := fun x y H Q => ∃ a b, x = .ty a ∧ y = .ty b ∧ SmallTy a ∧ SmallTy b ∧ Q (.bl (!decide (a = b))) H
theorem op_neTy : OpR X (compareOp .NotEq) rNeTy := by
  intro pn t₀ τ G p₁ p₂ v₁ v₂ Q J rel₁ rel₂ rd
  obtain ⟨a, b, rfl, rfl, ha, hb, q⟩ := rd
  cases (show v₁ = Value.type a from rel₁)
  cases (show v₂ = Value.type b from rel₂)
  exact TypeEq.ne_type (meta_of ha) (meta_of hb) (fin_bl J q (congrArg not (ty_beq a b).symm))
end
end L2
/-! the mathematics of the run, in plain Lean -/
namespace DL
abbrev T3 := Int × Int × Int
def cm (js : List T3) (i : Nat) : Int := (js.getD i (0, 0, 0)).1
def ln (js : List T3) (i : Nat) : Int := (js.getD i (0, 0, 0)).2.1
def du (js : List T3) (i : Nat) : Int := (js.getD i (0, 0, 0)).2.2
def SoundJ (j : T3) : Prop := 0 ≤ j.1 ∧ 1 ≤ j.2.1 ∧ j.1 < j.2.2
def Sound (js : List T3) : Prop := ∀ j ∈ js, SoundJ j
theorem getD_lt {α : Type} {l : List α} {i : Nat} {d : α} (h : i < l.length) : l.getD i d = l[i] := by
  simp [List.getD, List.getElem?_eq_getElem h]
theorem getD_of {α : Type} {l : List α} {i : Nat} {d x : α} (h : l[i]? = some x) : l.getD i d = x := by
  simp [List.getD, h]
theorem getD_ge {α : Type} {l : List α} {i : Nat} {d : α} (h : l.length ≤ i) : l.getD i d = d := by
  simp [List.getD, List.getElem?_eq_none h]
theorem getD_set_same {l : List Int} {i : Nat} {v : Int} (h : i < l.length) : (l.set i v).getD i 0 = v := by
  simp [List.getD, List.getElem?_set_self h]
theorem getD_set_ne {l : List Int} {i j : Nat} {v : Int} (h : i ≠ j) : (l.set i v).getD j 0 = l.getD j 0 := by
  simp [List.getD, List.getElem?_set_ne h]
theorem Sound.at {js : List T3} (S : Sound js) {i : Nat} (h : i < js.length) : 0 ≤ cm js i ∧ 1 ≤ ln js i ∧ cm js i < du js i := by
  have q := S js[i] (List.getElem_mem h)
  unfold cm ln du
  rw [getD_lt h]
  exact q

/-! ### who is chosen -/
def there (js : List T3) (left : List Int) (t : Int) (i : Nat) : Prop := cm js i ≤ t ∧ left.getD i 0 ≠ 0
instance (js : List T3) (left : List Int) (t : Int) (i : Nat) : Decidable (there js left t i) := by
  unfold there; infer_instance
def first (js : List T3) (p o : Nat) : Prop := du js p < du js o ∨ (du js p = du js o ∧ p ≤ o)
theorem first_refl (js : List T3) (p : Nat) : first js p p := .inr ⟨rfl, Nat.le_refl _⟩
theorem first_trans {js : List T3} {a b c : Nat} (h : first js a b) (k : first js b c) : first js a c := by
  unfold first at *; omega
def fdStep (js : List T3) (left : List Int) (t : Int) (best : Option Nat) (i : Nat) : Option Nat :=
  if there js left t i then
    match best with
    | none => some i
    | some b => if du js i < du js b then some i else some b
  else best
def fdUpto (js : List T3) (left : List Int) (t : Int) : Nat → Option Nat
  | 0 => none
  | k + 1 => fdStep js left t (fdUpto js left t k) k
def firstDue (js : List T3) (left : List Int) (t : Int) : Option Nat := fdUpto js left t js.length
theorem fdUpto_spec (js : List T3) (left : List Int) (t : Int) : ∀ k,
    (fdUpto js left t k = none ∧ ∀ i, i < k → ¬ there js left t i) ∨
    ∃ p, fdUpto js left t k = some p ∧ p < k ∧ there js left t p ∧ ∀ i, i < k → there js left t i → first js p i
  | 0 => .inl ⟨rfl, fun i h => absurd h (Nat.not_lt_zero _)⟩
  | k + 1 => by
    show (fdStep js left t (fdUpto js left t k) k = none ∧ _) ∨ ∃ p, fdStep js left t (fdUpto js left t k) k = some p ∧ _
    unfold fdStep
    by_cases ht : there js left t k
    · rw [if_pos ht]
      rcases fdUpto_spec js left t k with ⟨e, h⟩ | ⟨p, e, hp, tp, h⟩
      · rw [e]
        refine .inr ⟨k, rfl, Nat.lt_succ_self _, ht, fun i hi hti => ?_⟩
        rcases Nat.lt_succ_iff_lt_or_eq.mp hi with q | q
        · exact absurd hti (h i q)
        · rw [q]; exact first_refl _ _
      · rw [e]
        show _ ∨ ∃ p', (if du js k < du js p then some k else some p) = some p' ∧ _
        by_cases hd : du js k < du js p
        · rw [if_pos hd]
          refine .inr ⟨k, rfl, Nat.lt_succ_self _, ht, fun i hi hti => ?_⟩
          rcases Nat.lt_succ_iff_lt_or_eq.mp hi with q | q
          · have z := h i q hti
            unfold first at *; omega
          · rw [q]; exact first_refl _ _
        · rw [if_neg hd]
          refine .inr ⟨p, rfl, by omega, tp, fun i hi hti => ?_⟩
          rcases Nat.lt_succ_iff_lt_or_eq.mp hi with q | q
          · exact h i q hti
          · rw [q]; unfold first; omega
    · rw [if_neg ht]
      rcases fdUpto_spec js left t k with ⟨e, h⟩ | ⟨p, e, hp, tp, h⟩
      · refine .inl ⟨e, fun i hi hti => ?_⟩
        rcases Nat.lt_succ_iff_lt_or_eq.mp hi with q | q
        · exact h i q hti
        · rw [q] at hti; exact ht hti
      · refine .inr ⟨p, e, by omega, tp, fun i hi hti => ?_⟩
        rcases Nat.lt_succ_iff_lt_or_eq.mp hi with q | q
        · exact h i q hti
        · rw [q] at hti; exact absurd hti ht

/-! ### the least of a list -/
def lmin : List Int → Int
  | [] => 0
  | [x] => x
  | x :: y :: r => min x (lmin (y :: r))
theorem lmin_mem : ∀ {l : List Int}, l ≠ [] → lmin l ∈ l
  | [], h => absurd rfl h
  | [x], _ => List.mem_singleton.mpr rfl
  | x :: y :: r, _ => by
    have ih := lmin_mem (l := y :: r) (List.cons_ne_nil _ _)
    show min x (lmin (y :: r)) ∈ x :: y :: r
    by_cases h : x ≤ lmin (y :: r)
    · rw [Int.min_eq_left h]; exact List.mem_cons_self
    · rw [Int.min_eq_right (by omega)]; exact List.mem_cons_of_mem _ ih
theorem lmin_le : ∀ {l : List Int} {x : Int}, x ∈ l → lmin l ≤ x
  | [], _, h => by simp at h
  | [y], x, h => by rw [List.mem_singleton.mp h]; exact Int.le_refl _
  | z :: y :: r, x, h => by
    show min z (lmin (y :: r)) ≤ x
    rcases List.mem_cons.mp h with q | q
    · rw [q]; exact Int.min_le_left _ _
    · exact Int.le_trans (Int.min_le_right _ _) (lmin_le q)
theorem lmin_uniq {l : List Int} {m : Int} (hm : m ∈ l) (h : ∀ x ∈ l, m ≤ x) : m = lmin l := by
  have h1 := h _ (lmin_mem (List.ne_nil_of_mem hm))
  have h2 := lmin_le hm
  omega

/-! ### the run -/
structure RS where
  left : List Int
  pieces : List T3
  time : Int
def comesAfter (js : List T3) (t : Int) : List Int := (js.filter fun j => decide (t < j.1)).map (·.1)
def comesWithin (js : List T3) (t d : Int) : List Int := (js.filter fun j => decide (t < j.1) && decide (j.1 < d)).map (·.1)
def nextCome (js : List T3) (t : Int) : Int := lmin (comesAfter js t)
def endOf (js : List T3) (t rest : Int) : Int := if comesWithin js t (t + rest) = [] then t + rest else lmin (comesWithin js t (t + rest))
def addPiece (ps : List T3) (p : Int) (b e : Int) : List T3 :=
  match ps.getLast? with
  | some q => if q.1 = p then ps.dropLast ++ [(p, q.2.1, e)] else ps ++ [(p, b, e)]
  | none => ps ++ [(p, b, e)]
def step (js : List T3) (s : RS) : RS :=
  match firstDue js s.left s.time with
  | none => { s with time := nextCome js s.time }
  | some p =>
    { left := s.left.set p (s.left.getD p 0 - (endOf js s.time (s.left.getD p 0) - s.time))
      pieces := addPiece s.pieces (p : Int) s.time (endOf js s.time (s.left.getD p 0))
      time := endOf js s.time (s.left.getD p 0) }
def done (s : RS) : Prop := ∀ x ∈ s.left, x = 0
instance (s : RS) : Decidable (done s) := by unfold done; infer_instance
def runFrom (js : List T3) : Nat → RS → RS
  | 0, s => s
  | k + 1, s => if done s then s else runFrom js k (step js s)
def rs0 (js : List T3) : RS := ⟨js.map (·.2.1), [], 0⟩
def runM (js : List T3) : List T3 := (runFrom js (2 * js.length) (rs0 js)).pieces
theorem runFrom_done {js : List T3} {k : Nat} {s : RS} (h : done s) : runFrom js k s = s := by
  cases k with
  | zero => rfl
  | succ k => show (if done s then s else _) = s; rw [if_pos h]

theorem mem_comesAfter {js : List T3} {t x : Int} : x ∈ comesAfter js t ↔ t < x ∧ ∃ i, i < js.length ∧ cm js i = x := by
  unfold comesAfter
  rw [List.mem_map]
  constructor
  · rintro ⟨j, hj, e⟩
    obtain ⟨h1, h2⟩ := List.mem_filter.mp hj
    obtain ⟨i, hi, e2⟩ := List.getElem_of_mem h1
    refine ⟨by rw [← e]; exact of_decide_eq_true h2, i, hi, ?_⟩
    unfold cm
    rw [getD_lt hi, e2, e]
  · rintro ⟨h1, i, hi, e⟩
    unfold cm at e
    rw [getD_lt hi] at e
    exact ⟨js[i], List.mem_filter.mpr ⟨List.getElem_mem hi, by rw [e]; exact decide_eq_true h1⟩, e⟩
theorem mem_comesWithin {js : List T3} {t d x : Int} : x ∈ comesWithin js t d ↔ t < x ∧ x < d ∧ ∃ i, i < js.length ∧ cm js i = x := by
  unfold comesWithin
  rw [List.mem_map]
  constructor
  · rintro ⟨j, hj, e⟩
    obtain ⟨h1, h2⟩ := List.mem_filter.mp hj
    obtain ⟨i, hi, e2⟩ := List.getElem_of_mem h1
    rw [Bool.and_eq_true] at h2
    refine ⟨by rw [← e]; exact of_decide_eq_true h2.1, by rw [← e]; exact of_decide_eq_true h2.2, i, hi, ?_⟩
    unfold cm
    rw [getD_lt hi, e2, e]
  · rintro ⟨h1, h2, i, hi, e⟩
    unfold cm at e
    rw [getD_lt hi] at e
    exact ⟨js[i], List.mem_filter.mpr ⟨List.getElem_mem hi, by rw [e, Bool.and_eq_true]; exact ⟨decide_eq_true h1, decide_eq_true h2⟩⟩, e⟩
theorem nextCome_spec {js : List T3} {t : Int} {o : Nat} (ho : o < js.length) (h : t < cm js o) :
    t < nextCome js t ∧ (∃ i, i < js.length ∧ cm js i = nextCome js t) ∧ ∀ i, i < js.length → t < cm js i → nextCome js t ≤ cm js i := by
  have m : cm js o ∈ comesAfter js t := mem_comesAfter.mpr ⟨h, o, ho, rfl⟩
  have q := mem_comesAfter.mp (lmin_mem (List.ne_nil_of_mem m))
  exact ⟨q.1, q.2, fun i hi hc => lmin_le (mem_comesAfter.mpr ⟨hc, i, hi, rfl⟩)⟩
theorem endOf_spec (js : List T3) (t rest : Int) (hr : 0 < rest) :
    t < endOf js t rest ∧ endOf js t rest ≤ t + rest ∧ (endOf js t rest = t + rest ∨ ∃ i, i < js.length ∧ cm js i = endOf js t rest) ∧
    ∀ i, i < js.length → t < cm js i → endOf js t rest ≤ cm js i := by
  unfold endOf
  by_cases h : comesWithin js t (t + rest) = []
  · rw [if_pos h]
    refine ⟨by omega, Int.le_refl _, .inl rfl, fun i hi hc => ?_⟩
    by_cases hd : cm js i < t + rest
    · have m : cm js i ∈ comesWithin js t (t + rest) := mem_comesWithin.mpr ⟨hc, hd, i, hi, rfl⟩
      rw [h] at m; simp at m
    · omega
  · rw [if_neg h]
    have q := mem_comesWithin.mp (lmin_mem h)
    refine ⟨q.1, by omega, .inr q.2.2, fun i hi hc => ?_⟩
    by_cases hd : cm js i < t + rest
    · exact lmin_le (mem_comesWithin.mpr ⟨hc, hd, i, hi, rfl⟩)
    · omega

/-! ### how much is left -/
def takeOff (left : List Int) (q : T3) : List Int := left.set q.1.toNat (left.getD q.1.toNat 0 - (q.2.2 - q.2.1))
def leftAfter (js : List T3) (ps : List T3) : List Int := ps.foldl takeOff (js.map (·.2.1))
def timeAfter (ps : List T3) : Int := match ps.getLast? with
  | some q => q.2.2
  | none => 0
theorem takeOff_len (left : List Int) (q : T3) : (takeOff left q).length = left.length := List.length_set
theorem leftAfter_snoc (js ps : List T3) (q : T3) : leftAfter js (ps ++ [q]) = takeOff (leftAfter js ps) q := by
  unfold leftAfter; rw [List.foldl_append]; rfl
theorem leftAfter_nil (js : List T3) : leftAfter js [] = js.map (·.2.1) := rfl
theorem foldl_takeOff_len : ∀ (ps : List T3) (l : List Int), (ps.foldl takeOff l).length = l.length
  | [], _ => rfl
  | q :: r, l => by rw [List.foldl_cons, foldl_takeOff_len r, takeOff_len]
theorem leftAfter_len (js ps : List T3) : (leftAfter js ps).length = js.length := by
  unfold leftAfter; rw [foldl_takeOff_len, List.length_map]
theorem timeAfter_snoc (ps : List T3) (q : T3) : timeAfter (ps ++ [q]) = q.2.2 := by
  unfold timeAfter; rw [List.getLast?_concat]
theorem timeAfter_nil : timeAfter [] = 0 := rfl

structure PieceOk (js : List T3) (left : List Int) (time : Int) (q : T3) : Prop where
  p0 : 0 ≤ q.1
  pn : q.1.toNat < js.length
  tb : time ≤ q.2.1
  be : q.2.1 < q.2.2
  come : cm js q.1.toNat ≤ q.2.1
  rest : q.2.2 - q.2.1 ≤ left.getD q.1.toNat 0
  gap : time < q.2.1 → ∀ o, o < js.length → left.getD o 0 > 0 → q.2.1 ≤ cm js o
  edf : ∀ o, o < js.length → left.getD o 0 > 0 → cm js o < q.2.2 → first js q.1.toNat o
  goes : time = q.2.1 ∨ ∃ o, o < js.length ∧ cm js o = q.2.1
def WayOk (js ps : List T3) : Prop := ∀ i q, ps[i]? = some q → PieceOk js (leftAfter js (ps.take i)) (timeAfter (ps.take i)) q
theorem WayOk.nil (js : List T3) : WayOk js [] := fun i q h => by simp at h
theorem WayOk.snoc {js ps : List T3} {q : T3} (h : WayOk js ps) (k : PieceOk js (leftAfter js ps) (timeAfter ps) q) : WayOk js (ps ++ [q]) := fun i r e => by
  rcases Nat.lt_or_ge i ps.length with hi | hi
  · rw [List.getElem?_append_left hi] at e
    rw [List.take_append_of_le_length (Nat.le_of_lt hi)]
    exact h i r e
  · rw [List.getElem?_append_right hi] at e
    have h0 : i - ps.length = 0 := by
      cases z : i - ps.length with
      | zero => rfl
      | succ m => rw [z] at e; simp at e
    have hi2 : i = ps.length := by omega
    rw [h0] at e
    have eq : q = r := by simpa using e
    subst eq
    subst hi2
    rw [List.take_left]
    exact k
theorem WayOk.last {js ps : List T3} {q : T3} (h : WayOk js (ps ++ [q])) : PieceOk js (leftAfter js ps) (timeAfter ps) q := by
  have := h ps.length q (by simp)
  rw [List.take_left] at this
  exact this
theorem WayOk.init {js ps : List T3} {q : T3} (h : WayOk js (ps ++ [q])) : WayOk js ps := fun i r e => by
  have hi : i < ps.length := (List.getElem?_eq_some_iff.mp e).1
  have := h i r (by rw [List.getElem?_append_left hi]; exact e)
  rw [List.take_append_of_le_length (Nat.le_of_lt hi)] at this
  exact this

/-! ### the run's invariant -/
theorem countP_lt {P Q : Nat → Bool} : ∀ {l : List Nat}, (∀ i ∈ l, Q i = true → P i = true) → (∃ i ∈ l, P i = true ∧ Q i = false) → l.countP Q < l.countP P
  | [], _, ⟨i, hi, _⟩ => by simp at hi
  | x :: r, h, ⟨i, hi, hp, hq⟩ => by
    have hle : ∀ {l : List Nat}, (∀ i ∈ l, Q i = true → P i = true) → l.countP Q ≤ l.countP P := fun {l} h => List.countP_mono_left h
    rw [List.countP_cons, List.countP_cons]
    rcases List.mem_cons.mp hi with q | q
    · subst q
      have := hle (l := r) fun j hj => h j (List.mem_cons_of_mem _ hj)
      rw [hp, hq]; simp; omega
    · have ih := countP_lt (l := r) (fun j hj => h j (List.mem_cons_of_mem _ hj)) ⟨i, q, hp, hq⟩
      have hx := h x List.mem_cons_self
      cases e1 : P x <;> cases e2 : Q x <;> simp_all <;> omega
def ahead (js : List T3) (t : Int) : Nat := (List.range js.length).countP fun i => decide (t < cm js i)
def open_ (n : Nat) (left : List Int) : Nat := (List.range n).countP fun i => decide (left.getD i 0 ≠ 0)
def mu (js : List T3) (s : RS) : Nat := ahead js s.time + open_ js.length s.left
theorem ahead_le (js : List T3) (t : Int) : ahead js t ≤ js.length := by
  have := List.countP_le_length (p := fun i => decide (t < cm js i)) (l := List.range js.length)
  rw [List.length_range] at this; exact this
theorem open_le (n : Nat) (l : List Int) : open_ n l ≤ n := by
  have := List.countP_le_length (p := fun i => decide (l.getD i 0 ≠ 0)) (l := List.range n)
  rw [List.length_range] at this; exact this
theorem ahead_mono {js : List T3} {t u : Int} (h : t ≤ u) : ahead js u ≤ ahead js t :=
  List.countP_mono_left fun i _ q => decide_eq_true (by have := of_decide_eq_true q; omega)
theorem ahead_lt {js : List T3} {t u : Int} {o : Nat} (ho : o < js.length) (h1 : t < cm js o) (h2 : cm js o ≤ u) : ahead js u < ahead js t :=
  countP_lt (fun i _ q => decide_eq_true (by have := of_decide_eq_true q; omega)) ⟨o, List.mem_range.mpr ho, decide_eq_true h1, decide_eq_false (by omega)⟩

structure RInv (js : List T3) (s : RS) : Prop where
  len : s.left.length = js.length
  leq : s.left = leftAfter js s.pieces
  nn : ∀ i, 0 ≤ s.left.getD i 0
  way : WayOk js s.pieces
  t0 : 0 ≤ s.time
  le : timeAfter s.pieces ≤ s.time
  gap : timeAfter s.pieces = s.time ∨ ((∃ o, o < js.length ∧ cm js o = s.time) ∧ ∀ o, o < js.length → s.left.getD o 0 > 0 → s.time ≤ cm js o)
  apart : ∀ i q r, s.pieces[i]? = some q → s.pieces[i + 1]? = some r → q.1 ≠ r.1
  few : s.pieces.length + mu js s < 2 * js.length ∨ (s.pieces = [] ∧ s.time = 0 ∧ (∀ o, o < js.length → 0 < cm js o) ∧ s.left = js.map (·.2.1))
theorem left0 (js : List T3) {i : Nat} (h : i < js.length) : (js.map (·.2.1)).getD i 0 = ln js i := by
  unfold ln
  rw [getD_lt h, getD_lt (by rw [List.length_map]; exact h), List.getElem_map]
theorem RInv.start {js : List T3} (S : Sound js) : RInv js (rs0 js) where
  len := List.length_map _
  leq := rfl
  nn := fun i => by
    show 0 ≤ (js.map (·.2.1)).getD i 0
    rcases Nat.lt_or_ge i js.length with h | h
    · rw [left0 js h]; have := S.at h; omega
    · rw [getD_ge (by rw [List.length_map]; exact h)]; exact Int.le_refl _
  way := WayOk.nil js
  t0 := Int.le_refl _
  le := Int.le_refl _
  gap := .inl rfl
  apart := fun i q r h => by simp [rs0] at h
  few := by
    by_cases h : ∃ o, o < js.length ∧ cm js o ≤ 0
    · obtain ⟨o, ho, hc⟩ := h
      left
      show 0 + mu js (rs0 js) < _
      have h1 := open_le js.length (rs0 js).left
      have h2 : ahead js 0 < js.length := by
        have e : js.length = (List.range js.length).countP fun _ => true := by simp
        have : ahead js 0 < (List.range js.length).countP fun _ => true := countP_lt (fun _ _ _ => rfl) ⟨o, List.mem_range.mpr ho, rfl, decide_eq_false (by omega)⟩
        omega
      show 0 + (ahead js 0 + open_ js.length (rs0 js).left) < _
      omega
    · exact .inr ⟨rfl, rfl, fun o ho => by
        by_cases hc : cm js o ≤ 0
        · exact absurd ⟨o, ho, hc⟩ h
        · omega, rfl⟩
theorem mu_le (js : List T3) (s : RS) : mu js s ≤ 2 * js.length := by
  have h1 := ahead_le js s.time
  have h2 := open_le js.length s.left
  unfold mu; omega
theorem left_open {js : List T3} {s : RS} (I : RInv js s) (h : ¬ done s) : ∃ i, i < js.length ∧ s.left.getD i 0 ≠ 0 := by
  have : ∃ x, x ∈ s.left ∧ x ≠ 0 := by
    refine Classical.byContradiction fun c => h fun x hx => Classical.byContradiction fun e => c ⟨x, hx, e⟩
  obtain ⟨x, hx, e⟩ := this
  obtain ⟨i, hi, e2⟩ := List.getElem_of_mem hx
  refine ⟨i, by rw [← I.len]; exact hi, ?_⟩
  rw [getD_lt hi, e2]; exact e
/-- nobody is there: someone comes later -/
theorem none_next {js : List T3} {s : RS} (I : RInv js s) (h : ¬ done s) (e : firstDue js s.left s.time = none) : ∃ i, i < js.length ∧ s.time < cm js i := by
  obtain ⟨i, hi, hl⟩ := left_open I h
  rcases fdUpto_spec js s.left s.time js.length with ⟨_, z⟩ | ⟨p, e2, _⟩
  · refine ⟨i, hi, ?_⟩
    by_cases c : cm js i ≤ s.time
    · exact absurd ⟨c, hl⟩ (z i hi)
    · omega
  · unfold firstDue at e; rw [e] at e2; cases e2
theorem some_spec {js : List T3} {left : List Int} {t : Int} {p : Nat} (e : firstDue js left t = some p) : p < js.length ∧ there js left t p ∧ ∀ i, i < js.length → there js left t i → first js p i := by
  unfold firstDue at e
  rcases fdUpto_spec js left t js.length with ⟨e2, _⟩ | ⟨p', e2, h1, h2, h3⟩
  · rw [e] at e2; cases e2
  · rw [e] at e2; cases e2; exact ⟨h1, h2, h3⟩
theorem none_spec {js : List T3} {left : List Int} {t : Int} (e : firstDue js left t = none) : ∀ i, i < js.length → ¬ there js left t i := by
  unfold firstDue at e
  rcases fdUpto_spec js left t js.length with ⟨_, z⟩ | ⟨p', e2, h1, h2, h3⟩
  · exact z
  · rw [e] at e2; cases e2
theorem open_lt {n : Nat} {l l' : List Int} {p : Nat} (hp : p < n) (h1 : l.getD p 0 ≠ 0) (h2 : l'.getD p 0 = 0) (h : ∀ i, i ≠ p → l'.getD i 0 = l.getD i 0) : open_ n l' < open_ n l :=
  countP_lt (fun i _ q => by
    by_cases e : i = p
    · rw [e, h2] at q; simp at q
    · rw [h i e] at q; exact q) ⟨p, List.mem_range.mpr hp, decide_eq_true h1, decide_eq_false (by rw [h2]; simp)⟩
theorem open_mono {n : Nat} {l l' : List Int} {p : Nat} (h1 : l.getD p 0 ≠ 0) (h : ∀ i, i ≠ p → l'.getD i 0 = l.getD i 0) : open_ n l' ≤ open_ n l :=
  List.countP_mono_left fun i _ q => by
    by_cases e : i = p
    · rw [e]; exact decide_eq_true h1
    · rw [h i e] at q; exact q
theorem last_cases (ps : List T3) : ps = [] ∨ ∃ r q, ps = r ++ [q] := by
  rcases List.eq_nil_or_concat ps with h | ⟨r, q, h⟩
  · exact .inl h
  · exact .inr ⟨r, q, by rw [h, List.concat_eq_append]⟩
/-! ### one step keeps the invariant -/
theorem step_none {js : List T3} {s : RS} (e : firstDue js s.left s.time = none) : step js s = { s with time := nextCome js s.time } := by
  unfold step; rw [e]
theorem step_some {js : List T3} {s : RS} {p : Nat} (e : firstDue js s.left s.time = some p) : step js s =
    { left := s.left.set p (s.left.getD p 0 - (endOf js s.time (s.left.getD p 0) - s.time))
      pieces := addPiece s.pieces (p : Int) s.time (endOf js s.time (s.left.getD p 0))
      time := endOf js s.time (s.left.getD p 0) } := by
  unfold step; rw [e]
theorem RInv.idle {js : List T3} {s : RS} (S : Sound js) (I : RInv js s) (nd : ¬ done s) (e : firstDue js s.left s.time = none) :
    RInv js (step js s) ∧ mu js (step js s) < mu js s := by
  obtain ⟨o, ho, hc⟩ := none_next I nd e
  have N := nextCome_spec ho hc
  have ns := none_spec e
  rw [step_none e]
  have hmu : mu js { s with time := nextCome js s.time } < mu js s := by
    obtain ⟨i, hi, hci⟩ := N.2.1
    have := ahead_lt (js := js) (t := s.time) (u := nextCome js s.time) hi (by omega) (by omega)
    show ahead js (nextCome js s.time) + open_ js.length s.left < ahead js s.time + open_ js.length s.left
    omega
  refine ⟨{ len := I.len, leq := I.leq, nn := I.nn, way := I.way, t0 := by have := I.t0; show 0 ≤ nextCome js s.time; omega, le := by have := I.le; show timeAfter s.pieces ≤ nextCome js s.time; omega, gap := ?_, apart := I.apart, few := ?_ }, hmu⟩
  · refine .inr ⟨N.2.1, fun i hi hl => N.2.2 i hi ?_⟩
    have := ns i hi
    have hl' : s.left.getD i 0 > 0 := hl
    by_cases c : cm js i ≤ s.time
    · exact absurd ⟨c, by omega⟩ this
    · omega
  · rcases I.few with h | ⟨h1, h2, h3, h4⟩
    · left
      show s.pieces.length + _ < _
      omega
    · left
      show s.pieces.length + mu js { s with time := nextCome js s.time } < _
      have hm : mu js s ≤ 2 * js.length := mu_le js s
      have hz : s.pieces.length = 0 := by rw [h1]; rfl
      omega
theorem addPiece_nil (p b e : Int) : addPiece [] p b e = [(p, b, e)] := rfl
theorem addPiece_snoc (r : List T3) (q : T3) (p b e : Int) : addPiece (r ++ [q]) p b e = if q.1 = p then r ++ [(p, q.2.1, e)] else (r ++ [q]) ++ [(p, b, e)] := by
  unfold addPiece
  rw [List.getLast?_concat]
  show (if q.1 = p then (r ++ [q]).dropLast ++ [(p, q.2.1, e)] else _) = _
  rw [List.dropLast_concat]
theorem timeAfter_addPiece (ps : List T3) (p b e : Int) : timeAfter (addPiece ps p b e) = e := by
  rcases last_cases ps with h | ⟨r, q, h⟩
  · subst h; rfl
  · subst h
    rw [addPiece_snoc]
    by_cases c : q.1 = p
    · rw [if_pos c, timeAfter_snoc]
    · rw [if_neg c, timeAfter_snoc]
theorem addPiece_len (ps : List T3) (p b e : Int) : (addPiece ps p b e).length ≤ ps.length + 1 := by
  rcases last_cases ps with h | ⟨r, q, h⟩
  · subst h; exact Nat.le_refl _
  · subst h
    rw [addPiece_snoc]
    by_cases c : q.1 = p
    · rw [if_pos c]; simp
    · rw [if_neg c]; simp
theorem RInv.work {js : List T3} {s : RS} (S : Sound js) (I : RInv js s) {p : Nat} (e : firstDue js s.left s.time = some p) :
    RInv js (step js s) ∧ mu js (step js s) < mu js s := by
  obtain ⟨hp, ⟨hc, hl⟩, hf⟩ := some_spec e
  have hl0 := I.nn p
  obtain ⟨E1, E2, E3, E4⟩ := endOf_spec js s.time (s.left.getD p 0) (by omega)
  rw [step_some e]
  generalize endOf js s.time (s.left.getD p 0) = d at *
  have hpl : p < s.left.length := by rw [I.len]; exact hp
  have hset : ∀ i, i ≠ p → (s.left.set p (s.left.getD p 0 - (d - s.time))).getD i 0 = s.left.getD i 0 := fun i hi => getD_set_ne (Ne.symm hi)
  have hsetp : (s.left.set p (s.left.getD p 0 - (d - s.time))).getD p 0 = s.left.getD p 0 - (d - s.time) := getD_set_same hpl
  have hmu : mu js ⟨s.left.set p (s.left.getD p 0 - (d - s.time)), addPiece s.pieces p s.time d, d⟩ < mu js s := by
    show ahead js d + open_ js.length (s.left.set p (s.left.getD p 0 - (d - s.time))) < ahead js s.time + open_ js.length s.left
    have ha : ahead js d ≤ ahead js s.time := ahead_mono (by omega)
    have ho : open_ js.length (s.left.set p (s.left.getD p 0 - (d - s.time))) ≤ open_ js.length s.left := open_mono hl hset
    rcases E3 with q | ⟨i, hi, hci⟩
    · have := open_lt (n := js.length) (l := s.left) (l' := s.left.set p (s.left.getD p 0 - (d - s.time))) hp hl (by rw [hsetp]; omega) hset
      omega
    · have := ahead_lt (js := js) (t := s.time) (u := d) hi (by omega) (by omega)
      omega
  -- others that come ahead of d are there now
  have hthere : ∀ o, o < js.length → s.left.getD o 0 > 0 → cm js o < d → first js p o := fun o ho hlo hco => by
    refine hf o ho ⟨?_, by omega⟩
    by_cases c : cm js o ≤ s.time
    · exact c
    · have := E4 o ho (by omega); omega
  refine ⟨{ len := ?_, leq := ?_, nn := ?_, way := ?_, t0 := by have := I.t0; show 0 ≤ d; omega, le := ?_, gap := ?_, apart := ?_, few := ?_ }, hmu⟩
  · show (s.left.set _ _).length = _
    rw [List.length_set]; exact I.len
  · show s.left.set p _ = leftAfter js (addPiece s.pieces p s.time d)
    rcases last_cases s.pieces with h | ⟨r, q, h⟩
    · have hl' := I.leq
      rw [h] at hl' ⊢
      rw [addPiece_nil]
      show _ = leftAfter js ([] ++ [_])
      rw [leftAfter_snoc, ← hl']
      show _ = s.left.set (p : Int).toNat (s.left.getD (p : Int).toNat 0 - (d - s.time))
      rw [Int.toNat_natCast]
    · have hl' := I.leq
      have hg := I.gap
      have hw := I.way
      have hle := I.le
      rw [h] at hl' hg hw hle ⊢
      rw [addPiece_snoc]
      by_cases c : q.1 = (p : Int)
      · rw [if_pos c, leftAfter_snoc]
        rw [leftAfter_snoc] at hl'
        have et : q.2.2 = s.time := by
          rw [timeAfter_snoc] at hg hle
          rcases hg with z | ⟨_, z⟩
          · exact z
          · have := z p hp (by omega)
            have k := hw.last
            have k1 := k.come
            have k2 := k.be
            rw [c, Int.toNat_natCast] at k1
            omega
        have ec : q.1.toNat = p := by rw [c, Int.toNat_natCast]
        unfold takeOff at hl' ⊢
        show _ = List.set _ (p : Int).toNat (_ - (d - q.2.1))
        rw [Int.toNat_natCast]
        rw [ec] at hl'
        have hpl2 : p < (leftAfter js r).length := by rw [leftAfter_len]; exact hp
        rw [hl', List.set_set, getD_set_same hpl2]
        congr 1
        omega
      · rw [if_neg c, leftAfter_snoc, ← hl']
        show _ = s.left.set (p : Int).toNat (s.left.getD (p : Int).toNat 0 - (d - s.time))
        rw [Int.toNat_natCast]
  · intro i
    show 0 ≤ (s.left.set p _).getD i 0
    by_cases c : i = p
    · rw [c, hsetp]; omega
    · rw [hset i c]; exact I.nn i
  · show WayOk js (addPiece s.pieces p s.time d)
    rcases last_cases s.pieces with h | ⟨r, q, h⟩
    · have hl' := I.leq
      have hg := I.gap
      have hle := I.le
      rw [h] at hl' hg hle ⊢
      rw [addPiece_nil]
      refine WayOk.snoc (ps := []) (WayOk.nil js) ?_
      rw [← hl']
      exact {
        p0 := Int.natCast_nonneg p
        pn := by show (p : Int).toNat < _; rw [Int.toNat_natCast]; exact hp
        tb := hle
        be := E1
        come := by show cm js (p : Int).toNat ≤ _; rw [Int.toNat_natCast]; exact hc
        rest := by show d - s.time ≤ s.left.getD (p : Int).toNat 0; rw [Int.toNat_natCast]; omega
        gap := fun hlt o ho hlo => by
          rcases hg with z | ⟨_, z⟩
          · have hlt' : timeAfter [] < s.time := hlt
            omega
          · exact z o ho hlo
        edf := fun o ho hlo hco => by show first js (p : Int).toNat o; rw [Int.toNat_natCast]; exact hthere o ho hlo hco
        goes := by
          rcases hg with z | ⟨z, _⟩
          · exact .inl z
          · exact .inr z }
    · have hl' := I.leq
      have hg := I.gap
      have hw := I.way
      have hle := I.le
      rw [h] at hl' hg hw hle ⊢
      rw [addPiece_snoc]
      have k := hw.last
      by_cases c : q.1 = (p : Int)
      · rw [if_pos c]
        have ec : q.1.toNat = p := by rw [c, Int.toNat_natCast]
        rw [timeAfter_snoc] at hg hle
        have k1 := k.come
        have k2 := k.be
        have k3 := k.rest
        rw [ec] at k1 k3
        have et : q.2.2 = s.time := by
          rcases hg with z | ⟨_, z⟩
          · exact z
          · have := z p hp (by omega)
            omega
        rw [leftAfter_snoc] at hl'
        have hpl2 : p < (leftAfter js r).length := by rw [leftAfter_len]; exact hp
        have hA : ∀ o, o ≠ p → s.left.getD o 0 = (leftAfter js r).getD o 0 := fun o ho => by
          rw [hl']; unfold takeOff; rw [ec]; exact getD_set_ne (Ne.symm ho)
        have hAp : s.left.getD p 0 = (leftAfter js r).getD p 0 - (q.2.2 - q.2.1) := by
          rw [hl']; unfold takeOff; rw [ec]; exact getD_set_same hpl2
        refine WayOk.snoc hw.init ?_
        exact {
          p0 := Int.natCast_nonneg p
          pn := by show (p : Int).toNat < _; rw [Int.toNat_natCast]; exact hp
          tb := k.tb
          be := by show q.2.1 < d; omega
          come := by show cm js (p : Int).toNat ≤ _; rw [Int.toNat_natCast]; exact k1
          rest := by show d - q.2.1 ≤ (leftAfter js r).getD (p : Int).toNat 0; rw [Int.toNat_natCast]; omega
          gap := k.gap
          edf := fun o ho hlo hco => by
            show first js (p : Int).toNat o
            rw [Int.toNat_natCast]
            by_cases co : o = p
            · rw [co]; exact first_refl _ _
            · exact hthere o ho (by rw [hA o co]; exact hlo) hco
          goes := k.goes }
      · rw [if_neg c]
        refine WayOk.snoc hw ?_
        rw [← hl']
        exact {
          p0 := Int.natCast_nonneg p
          pn := by show (p : Int).toNat < _; rw [Int.toNat_natCast]; exact hp
          tb := hle
          be := E1
          come := by show cm js (p : Int).toNat ≤ _; rw [Int.toNat_natCast]; exact hc
          rest := by show d - s.time ≤ s.left.getD (p : Int).toNat 0; rw [Int.toNat_natCast]; omega
          gap := fun hlt o ho hlo => by
            rcases hg with z | ⟨_, z⟩
            · have hlt' : timeAfter (r ++ [q]) < s.time := hlt
              omega
            · exact z o ho hlo
          edf := fun o ho hlo hco => by show first js (p : Int).toNat o; rw [Int.toNat_natCast]; exact hthere o ho hlo hco
          goes := by
            rcases hg with z | ⟨z, _⟩
            · exact .inl z
            · exact .inr z }
  · show timeAfter (addPiece s.pieces p s.time d) ≤ d
    rw [timeAfter_addPiece]; exact Int.le_refl _
  · show timeAfter (addPiece s.pieces p s.time d) = d ∨ _
    exact .inl (timeAfter_addPiece _ _ _ _)
  · show ∀ i q r, (addPiece s.pieces p s.time d)[i]? = some q → (addPiece s.pieces p s.time d)[i + 1]? = some r → q.1 ≠ r.1
    have ha := I.apart
    rcases last_cases s.pieces with h | ⟨r, q, h⟩
    · rw [h, addPiece_nil]
      intro i q r h1 h2
      simp at h2
    · rw [h] at ha ⊢
      rw [addPiece_snoc]
      by_cases c : q.1 = (p : Int)
      · rw [if_pos c]
        intro i x y h1 h2
        have hi : i + 1 < (r ++ [((p : Int), q.2.1, d)]).length := (List.getElem?_eq_some_iff.mp h2).1
        rw [List.length_append, List.length_singleton] at hi
        rw [List.getElem?_append_left (by omega)] at h1
        have h1' : (r ++ [q])[i]? = some x := by rw [List.getElem?_append_left (by omega)]; exact h1
        rcases Nat.lt_or_ge (i + 1) r.length with z | z
        · rw [List.getElem?_append_left z] at h2
          exact ha i x y h1' (by rw [List.getElem?_append_left z]; exact h2)
        · have e1 : i + 1 = r.length := by omega
          rw [e1, List.getElem?_concat_length] at h2
          have := ha i x q h1' (by rw [e1, List.getElem?_concat_length])
          have e2 := Option.some.inj h2
          rw [← e2]
          show x.1 ≠ (p : Int)
          rw [← c]; exact this
      · rw [if_neg c]
        intro i x y h1 h2
        have hi : i + 1 < ((r ++ [q]) ++ [((p : Int), s.time, d)]).length := (List.getElem?_eq_some_iff.mp h2).1
        rw [List.length_append, List.length_singleton] at hi
        rw [List.getElem?_append_left (by omega)] at h1
        rcases Nat.lt_or_ge (i + 1) (r ++ [q]).length with z | z
        · rw [List.getElem?_append_left z] at h2
          exact ha i x y h1 h2
        · have e1 : i + 1 = (r ++ [q]).length := by omega
          rw [e1, List.getElem?_concat_length] at h2
          have e2 := Option.some.inj h2
          rw [← e2]
          show x.1 ≠ (p : Int)
          have e3 : i = r.length := by rw [List.length_append, List.length_singleton] at e1; omega
          rw [e3, List.getElem?_concat_length] at h1
          rw [← Option.some.inj h1]; exact c
  · show (addPiece s.pieces p s.time d).length + _ < _ ∨ _
    have hal := addPiece_len s.pieces p s.time d
    left
    rcases I.few with h | ⟨h1, h2, h3, h4⟩
    · omega
    · have := h3 p hp
      omega
theorem RInv.step {js : List T3} {s : RS} (S : Sound js) (I : RInv js s) (nd : ¬ done s) : RInv js (step js s) ∧ mu js (step js s) < mu js s := by
  cases e : firstDue js s.left s.time with
  | none => exact I.idle S nd e
  | some p => exact I.work S e
theorem run_ends {js : List T3} (S : Sound js) : ∀ (k : Nat) (s : RS), RInv js s → mu js s ≤ k → RInv js (runFrom js k s) ∧ done (runFrom js k s)
  | 0, s, I, h => ⟨I, fun x hx => Classical.byContradiction fun c => by
      have nd : ¬ done s := fun z => c (z x hx)
      have := (I.step S nd).2
      omega⟩
  | k + 1, s, I, h => by
    show RInv js (if done s then s else runFrom js k (DL.step js s)) ∧ done (if done s then s else runFrom js k (DL.step js s))
    by_cases nd : done s
    · rw [if_pos nd]; exact ⟨I, nd⟩
    · rw [if_neg nd]
      have q := I.step S nd
      exact run_ends S k _ q.1 (by omega)
/-- what is known of the run -/
structure RunOk (js ps : List T3) : Prop where
  way : WayOk js ps
  all : ∀ i, (leftAfter js ps).getD i 0 = 0
  apart : ∀ i q r, ps[i]? = some q → ps[i + 1]? = some r → q.1 ≠ r.1
  few : ps.length < 2 * js.length ∨ (ps = [] ∧ js = [])
theorem run_ok {js : List T3} (S : Sound js) : RunOk js (runM js) := by
  obtain ⟨I, d⟩ := run_ends S (2 * js.length) (rs0 js) (RInv.start S) (mu_le js _)
  have hd : ∀ i, (runFrom js (2 * js.length) (rs0 js)).left.getD i 0 = 0 := fun i => by
    rcases Nat.lt_or_ge i (runFrom js (2 * js.length) (rs0 js)).left.length with h | h
    · rw [getD_lt h]; exact d _ (List.getElem_mem h)
    · exact getD_ge h
  refine ⟨I.way, fun i => ?_, I.apart, ?_⟩
  · show (leftAfter js (runFrom js (2 * js.length) (rs0 js)).pieces).getD i 0 = 0
    rw [← I.leq]; exact hd i
  · rcases I.few with h | ⟨h1, h2, h3, h4⟩
    · left
      show (runFrom js (2 * js.length) (rs0 js)).pieces.length < _
      omega
    · right
      refine ⟨h1, ?_⟩
      cases js with
      | nil => rfl
      | cons j r =>
        have z := hd 0
        rw [h4, left0 _ (by simp)] at z
        have := S.at (i := 0) (by simp)
        omega
/-! ### sums -/
theorem sum_setI : ∀ {l : List Int} {j : Nat} {y : Int}, j < l.length → (l.set j y).sum = l.sum - l.getD j 0 + y
  | [], j, y, h => absurd h (Nat.not_lt_zero _)
  | a :: r, 0, y, h => by
    show (y :: r).sum = (a :: r).sum - a + y
    rw [List.sum_cons, List.sum_cons]; omega
  | a :: r, j + 1, y, h => by
    have ih := sum_setI (l := r) (j := j) (y := y) (Nat.lt_of_succ_lt_succ h)
    show (a :: r.set j y).sum = (a :: r).sum - r.getD j 0 + y
    rw [List.sum_cons, List.sum_cons, ih]; omega
theorem sum_left {js ps : List T3} (W : WayOk js ps) : ∀ k, k ≤ ps.length → (leftAfter js (ps.take k)).sum + ((ps.take k).map fun q => q.2.2 - q.2.1).sum = (js.map (·.2.1)).sum
  | 0, _ => by
    show (js.map (·.2.1)).sum + 0 = _
    omega
  | k + 1, h => by
    have ih := sum_left W k (by omega)
    have hk : ps[k]? = some ps[k] := List.getElem?_eq_getElem (by omega)
    have O := W k _ hk
    rw [List.take_add_one, hk]
    show (leftAfter js (ps.take k ++ [ps[k]])).sum + ((ps.take k ++ [ps[k]]).map fun q => q.2.2 - q.2.1).sum = _
    rw [leftAfter_snoc, List.map_append, List.sum_append]
    unfold takeOff
    rw [sum_setI (by rw [leftAfter_len]; exact O.pn)]
    show _ + (_ + ([(ps[k]).2.2 - (ps[k]).2.1] : List Int).sum) = _
    rw [List.sum_singleton]
    omega
theorem run_sum {js ps : List T3} (R : RunOk js ps) : (ps.map fun q => q.2.2 - q.2.1).sum = (js.map (·.2.1)).sum := by
  have h := sum_left R.way ps.length (Nat.le_refl _)
  rw [List.take_length] at h
  have z : (leftAfter js ps).sum = 0 := by
    have : ∀ l : List Int, (∀ i, l.getD i 0 = 0) → l.sum = 0 := fun l => by
      induction l with
      | nil => intro _; rfl
      | cons a r ih =>
        intro h
        have h0 := h 0
        have h1 := ih fun i => h (i + 1)
        rw [List.sum_cons, h1]
        show a + 0 = 0
        have : a = 0 := h0
        omega
    exact this _ R.all
  omega
theorem RunOk.len {js ps : List T3} (R : RunOk js ps) (h : js.length ≤ 60) : ps.length ≤ 200 := by
  rcases R.few with z | z
  · omega
  · rw [z.1]; exact Nat.zero_le _
end DL
/-! whether a way meets the jobs -/
namespace DL
def fitB (js : List T3) (t : Int) (q : T3) : Bool :=
  decide (0 ≤ q.1) && (decide (q.1 < js.length) && (decide (t ≤ q.2.1) && (decide (cm js q.1.toNat ≤ q.2.1) && (decide (q.2.1 < q.2.2) && decide (q.2.2 ≤ du js q.1.toNat)))))
def fitsAll (js : List T3) : Int → List T3 → Bool
  | _, [] => true
  | t, q :: r => fitB js t q && fitsAll js q.2.2 r
def putOn (l : List Int) (q : T3) : List Int := l.set q.1.toNat (l.getD q.1.toNat 0 + (q.2.2 - q.2.1))
def workedFrom (l : List Int) (ws : List T3) : List Int := ws.foldl putOn l
def sumAt (ws : List T3) (k : Nat) : Int := ((ws.filter fun q => decide (q.1 = (k : Int))).map fun q => q.2.2 - q.2.1).sum
def meetsB (js ws : List T3) : Bool := fitsAll js 0 ws && decide (workedFrom (List.replicate js.length 0) ws = js.map (·.2.1))
def start0 (ws : List T3) : Int := match ws with
  | [] => 0
  | q :: _ => q.2.1
def dueB (js ws : List T3) : Bool := fitsAll js (start0 ws) ws && (List.range js.length).all fun k => decide (sumAt ws k = ln js k)
theorem fitB_iff {js : List T3} {t : Int} {q : T3} : fitB js t q = true ↔ 0 ≤ q.1 ∧ q.1 < js.length ∧ t ≤ q.2.1 ∧ cm js q.1.toNat ≤ q.2.1 ∧ q.2.1 < q.2.2 ∧ q.2.2 ≤ du js q.1.toNat := by
  unfold fitB
  simp only [Bool.and_eq_true, decide_eq_true_eq]
theorem workedFrom_len : ∀ (ws : List T3) (l : List Int), (workedFrom l ws).length = l.length
  | [], _ => rfl
  | q :: r, l => by
    show (workedFrom (putOn l q) r).length = _
    rw [workedFrom_len r]
    exact List.length_set
theorem sumAt_cons (q : T3) (r : List T3) (k : Nat) : sumAt (q :: r) k = (if q.1 = (k : Int) then q.2.2 - q.2.1 else 0) + sumAt r k := by
  unfold sumAt
  rw [List.filter_cons]
  by_cases h : q.1 = (k : Int)
  · rw [if_pos (decide_eq_true h), if_pos h, List.map_cons, List.sum_cons]
  · rw [if_neg (by simpa using h), if_neg h]
    omega
theorem worked_at : ∀ (ws : List T3) (l : List Int) (k : Nat), (∀ q ∈ ws, 0 ≤ q.1 ∧ q.1 < l.length) → k < l.length → (workedFrom l ws).getD k 0 = l.getD k 0 + sumAt ws k
  | [], l, k, _, _ => by
    show l.getD k 0 = l.getD k 0 + 0
    omega
  | q :: r, l, k, h, hk => by
    obtain ⟨h0, h1⟩ := h q List.mem_cons_self
    have hl : (putOn l q).length = l.length := List.length_set
    have ih := worked_at r (putOn l q) k (fun x hx => by rw [hl]; exact h x (List.mem_cons_of_mem _ hx)) (by rw [hl]; exact hk)
    show (workedFrom (putOn l q) r).getD k 0 = _
    rw [ih, sumAt_cons]
    unfold putOn
    by_cases e : q.1 = (k : Int)
    · have e2 : q.1.toNat = k := by omega
      rw [e2, getD_set_same hk, if_pos e]
      omega
    · have e2 : q.1.toNat ≠ k := by omega
      rw [getD_set_ne e2, if_neg e]
      omega
theorem fits_range {js : List T3} : ∀ {t : Int} {ws : List T3}, fitsAll js t ws = true → ∀ q ∈ ws, 0 ≤ q.1 ∧ q.1 < js.length
  | _, [], _, q, h => by simp at h
  | t, x :: r, h, q, hq => by
    obtain ⟨h1, h2⟩ := Bool.and_eq_true_iff.mp h
    rcases List.mem_cons.mp hq with e | e
    · rw [e]
      have := fitB_iff.mp h1
      exact ⟨this.1, this.2.1⟩
    · exact fits_range h2 q e
theorem list_ext0 {a b : List Int} (hl : a.length = b.length) (h : ∀ k, k < a.length → a.getD k 0 = b.getD k 0) : a = b := by
  refine List.ext_getElem hl fun k h1 h2 => ?_
  have := h k h1
  rw [getD_lt h1, getD_lt h2] at this
  exact this
theorem worked_eq {js ws : List T3} (h : ∀ q ∈ ws, 0 ≤ q.1 ∧ q.1 < js.length) : decide (workedFrom (List.replicate js.length 0) ws = js.map (·.2.1)) = (List.range js.length).all fun k => decide (sumAt ws k = ln js k) := by
  rw [Bool.eq_iff_iff, decide_eq_true_iff, List.all_eq_true]
  have hw : ∀ k, k < js.length → (workedFrom (List.replicate js.length 0) ws).getD k 0 = sumAt ws k := fun k hk => by
    have := worked_at ws (List.replicate js.length 0) k (fun q hq => by rw [List.length_replicate]; exact h q hq) (by rw [List.length_replicate]; exact hk)
    rw [this, getD_lt (by rw [List.length_replicate]; exact hk), List.getElem_replicate]
    omega
  constructor
  · intro e k hk
    have hk := List.mem_range.mp hk
    refine decide_eq_true ?_
    rw [← hw k hk, e]
    exact left0 js hk
  · intro e
    refine list_ext0 (by rw [workedFrom_len, List.length_replicate, List.length_map]) fun k hk => ?_
    rw [workedFrom_len, List.length_replicate] at hk
    rw [hw k hk, left0 js hk]
    exact of_decide_eq_true (e k (List.mem_range.mpr hk))
theorem fit_start {js : List T3} (S : Sound js) (q : T3) : fitB js 0 q = fitB js q.2.1 q := by
  rw [Bool.eq_iff_iff, fitB_iff, fitB_iff]
  constructor
  · rintro ⟨h1, h2, h3, h4⟩
    exact ⟨h1, h2, Int.le_refl _, h4⟩
  · rintro ⟨h1, h2, h3, h4, h5⟩
    have := S.at (i := q.1.toNat) (by omega)
    exact ⟨h1, h2, by omega, h4, h5⟩
theorem meets_due {js ws : List T3} (S : Sound js) : meetsB js ws = dueB js ws := by
  unfold meetsB dueB
  have e : fitsAll js 0 ws = fitsAll js (start0 ws) ws := by
    cases ws with
    | nil => rfl
    | cons q r =>
      show (fitB js 0 q && _) = (fitB js q.2.1 q && _)
      rw [fit_start S]
  rw [← e]
  cases h : fitsAll js 0 ws with
  | false => rfl
  | true => rw [worked_eq (fits_range h)]
/-- the time ahead of the i-th piece -/
def timeAt (t : Int) (ws : List T3) (i : Nat) : Int := match i with
  | 0 => t
  | k + 1 => (ws.getD k (0, 0, 0)).2.2
theorem fits_step {js : List T3} {t : Int} {ws : List T3} {i : Nat} {q : T3} (h : ws[i]? = some q) : fitsAll js (timeAt t ws i) (ws.drop i) = (fitB js (timeAt t ws i) q && fitsAll js (timeAt t ws (i + 1)) (ws.drop (i + 1))) := by
  have hi := (List.getElem?_eq_some_iff.mp h).1
  have e : ws.drop i = q :: ws.drop (i + 1) := by
    rw [List.drop_eq_getElem_cons hi]
    congr 1
    exact (List.getElem?_eq_some_iff.mp h).2
  rw [e]
  show (_ && fitsAll js q.2.2 _) = (_ && fitsAll js (ws.getD i (0, 0, 0)).2.2 _)
  rw [getD_of h]
theorem workedFrom_snoc (l : List Int) {ws : List T3} {i : Nat} {q : T3} (h : ws[i]? = some q) : workedFrom l (ws.take (i + 1)) = putOn (workedFrom l (ws.take i)) q := by
  unfold workedFrom
  rw [List.take_add_one, h, List.foldl_append]
  rfl
theorem cm_at {js : List T3} {i : Nat} {j : T3} (h : js[i]? = some j) : cm js i = j.1 ∧ ln js i = j.2.1 ∧ du js i = j.2.2 := by
  unfold cm ln du
  rw [getD_of h]
  exact ⟨rfl, rfl, rfl⟩
end DL
/-! late jobs, stretches that ask for more than they have -/
namespace DL
def inB (b e : Int) (j : T3) : Bool := decide (b ≤ j.1) && decide (j.2.2 ≤ e)
def loadJ (js : List T3) (b e : Int) : Int := ((js.filter (inB b e)).map (·.2.1)).sum
/-! ### sums over some places -/
def sumOn : (Nat → Bool) → List Int → Int
  | _, [] => 0
  | S, x :: r => (if S 0 then x else 0) + sumOn (fun i => S (i + 1)) r
theorem sumOn_set : ∀ {l : List Int} {S : Nat → Bool} {j : Nat} {y : Int}, j < l.length → sumOn S (l.set j y) = sumOn S l + if S j then y - l.getD j 0 else 0
  | [], _, j, y, h => absurd h (Nat.not_lt_zero _)
  | a :: r, S, 0, y, h => by
    show (if S 0 then y else 0) + sumOn _ r = (if S 0 then a else 0) + sumOn _ r + if S 0 then y - a else 0
    split <;> omega
  | a :: r, S, j + 1, y, h => by
    have ih := sumOn_set (l := r) (S := fun i => S (i + 1)) (j := j) (y := y) (Nat.lt_of_succ_lt_succ h)
    show (if S 0 then a else 0) + sumOn _ (r.set j y) = (if S 0 then a else 0) + sumOn _ r + if S (j + 1) then y - r.getD j 0 else 0
    rw [ih]
    omega
theorem sumOn_nn : ∀ {l : List Int} {S : Nat → Bool}, (∀ i, 0 ≤ l.getD i 0) → 0 ≤ sumOn S l
  | [], _, _ => Int.le_refl _
  | a :: r, S, h => by
    have ih := sumOn_nn (l := r) (S := fun i => S (i + 1)) fun i => h (i + 1)
    have h0 : 0 ≤ a := h 0
    show 0 ≤ (if S 0 then a else 0) + sumOn _ r
    split <;> omega
theorem sumOn_one : ∀ {l : List Int} {S : Nat → Bool} {j : Nat}, (∀ i, 0 ≤ l.getD i 0) → S j = true → l.getD j 0 ≤ sumOn S l
  | [], _, _, _, _ => Int.le_refl _
  | a :: r, S, 0, h, hj => by
    have ih := sumOn_nn (l := r) (S := fun i => S (i + 1)) fun i => h (i + 1)
    show a ≤ (if S 0 then a else 0) + sumOn _ r
    rw [if_pos hj]
    omega
  | a :: r, S, j + 1, h, hj => by
    have ih := sumOn_one (l := r) (S := fun i => S (i + 1)) (j := j) (fun i => h (i + 1)) hj
    have h0 : 0 ≤ a := h 0
    show r.getD j 0 ≤ (if S 0 then a else 0) + sumOn _ r
    split <;> omega
theorem sumOn_congr : ∀ {l l' : List Int} {S : Nat → Bool}, l.length = l'.length → (∀ i, i < l.length → S i = true → l.getD i 0 = l'.getD i 0) → sumOn S l = sumOn S l'
  | [], [], _, _, _ => rfl
  | [], _ :: _, _, h, _ => by cases h
  | _ :: _, [], _, h, _ => by cases h
  | a :: r, b :: s, S, h, k => by
    have ih := sumOn_congr (l := r) (l' := s) (S := fun i => S (i + 1)) (Nat.succ.inj h) fun i hi hs => k (i + 1) (Nat.succ_lt_succ hi) hs
    show (if S 0 then a else 0) + sumOn _ r = (if S 0 then b else 0) + sumOn _ s
    rw [ih]
    by_cases c : S 0 = true
    · have : a = b := k 0 (Nat.zero_lt_succ _) c
      rw [this]
    · rw [if_neg c, if_neg c]
theorem sumOn_zero : ∀ {l : List Int} {S : Nat → Bool}, (∀ i, l.getD i 0 = 0) → sumOn S l = 0
  | [], _, _ => rfl
  | a :: r, S, h => by
    have ih := sumOn_zero (l := r) (S := fun i => S (i + 1)) fun i => h (i + 1)
    have h0 : a = 0 := h 0
    show (if S 0 then a else 0) + sumOn _ r = 0
    rw [ih, h0]
    split <;> rfl
def inS (js : List T3) (b e : Int) (i : Nat) : Bool := inB b e (js.getD i (0, 0, 0))
theorem inS_iff {js : List T3} {b e : Int} {i : Nat} : inS js b e i = true ↔ b ≤ cm js i ∧ du js i ≤ e := by
  unfold inS inB cm du
  rw [Bool.and_eq_true, decide_eq_true_iff, decide_eq_true_iff]
theorem sumOn_load : ∀ {js : List T3} {b e : Int}, sumOn (inS js b e) (js.map (·.2.1)) = loadJ js b e
  | [], _, _ => rfl
  | j :: r, b, e => by
    have ih := sumOn_load (js := r) (b := b) (e := e)
    show (if inB b e j then j.2.1 else 0) + sumOn (inS r b e) (r.map (·.2.1)) = _
    rw [ih]
    unfold loadJ
    rw [List.filter_cons]
    by_cases c : inB b e j = true
    · rw [if_pos c, if_pos c, List.map_cons, List.sum_cons]
    · rw [if_neg c, if_neg c]
      omega
theorem load_append (js ks : List T3) (b e : Int) : loadJ (js ++ ks) b e = loadJ js b e + loadJ ks b e := by
  unfold loadJ
  rw [List.filter_append, List.map_append, List.sum_append]
theorem load_one (j : T3) (b e : Int) : loadJ [j] b e = if b ≤ j.1 ∧ j.2.2 ≤ e then j.2.1 else 0 := by
  unfold loadJ inB
  rw [List.filter_cons]
  by_cases c : b ≤ j.1 ∧ j.2.2 ≤ e
  · rw [if_pos c, if_pos (by rw [Bool.and_eq_true]; exact ⟨decide_eq_true c.1, decide_eq_true c.2⟩)]
    show ([j.2.1] : List Int).sum = _
    rw [List.sum_singleton]
  · rw [if_neg c, if_neg (by rw [Bool.and_eq_true, decide_eq_true_iff, decide_eq_true_iff]; exact c)]
    rfl
theorem load_nn {js : List T3} (S : Sound js) (b e : Int) : 0 ≤ loadJ js b e := by
  rw [← sumOn_load]
  refine sumOn_nn fun i => ?_
  rcases Nat.lt_or_ge i js.length with h | h
  · rw [left0 js h]; have := S.at h; omega
  · rw [getD_ge (by rw [List.length_map]; exact h)]; exact Int.le_refl _
/-! ### what is left of a job ahead of the k-th piece -/
def lf (js ps : List T3) (k i : Nat) : Int := (leftAfter js (ps.take k)).getD i 0
theorem lf_zero {js ps : List T3} {i : Nat} (h : i < js.length) : lf js ps 0 i = ln js i := left0 js h
theorem la_step {js ps : List T3} {k : Nat} {q : T3} (h : ps[k]? = some q) : leftAfter js (ps.take (k + 1)) = takeOff (leftAfter js (ps.take k)) q := by
  rw [List.take_add_one, h]
  exact leftAfter_snoc js (ps.take k) q
theorem ta_step {ps : List T3} {k : Nat} {q : T3} (h : ps[k]? = some q) : timeAfter (ps.take (k + 1)) = q.2.2 := by
  rw [List.take_add_one, h]
  exact timeAfter_snoc (ps.take k) q
theorem take_past {ps : List T3} {k : Nat} (h : ps[k]? = none) : ps.take (k + 1) = ps.take k := by
  rw [List.take_add_one, h]
  exact List.append_nil _
theorem lf_other {js ps : List T3} {k i : Nat} {q : T3} (h : ps[k]? = some q) (ne : q.1.toNat ≠ i) : lf js ps (k + 1) i = lf js ps k i := by
  unfold lf
  rw [la_step h]
  exact getD_set_ne ne
theorem lf_same {js ps : List T3} {k : Nat} {q : T3} (W : WayOk js ps) (h : ps[k]? = some q) : lf js ps (k + 1) q.1.toNat = lf js ps k q.1.toNat - (q.2.2 - q.2.1) := by
  unfold lf
  rw [la_step h]
  exact getD_set_same (by rw [leftAfter_len]; exact (W k q h).pn)
theorem lf_le {js ps : List T3} (W : WayOk js ps) (k i : Nat) : lf js ps (k + 1) i ≤ lf js ps k i := by
  cases h : ps[k]? with
  | none =>
    unfold lf
    rw [take_past h]
    exact Int.le_refl _
  | some q =>
    by_cases c : q.1.toNat = i
    · subst c
      have := lf_same W h
      have := (W k q h).be
      omega
    · rw [lf_other h c]
      exact Int.le_refl _
theorem lf_mono {js ps : List T3} (W : WayOk js ps) (i : Nat) {k : Nat} : ∀ {m : Nat}, k ≤ m → lf js ps m i ≤ lf js ps k i
  | 0, h => by
    have : k = 0 := by omega
    subst this
    exact Int.le_refl _
  | m + 1, h => by
    rcases Nat.lt_or_ge k (m + 1) with c | c
    · have := lf_mono W i (show k ≤ m by omega)
      have := lf_le W m i
      omega
    · have : k = m + 1 := by omega
      subst this
      exact Int.le_refl _
theorem lf_nn {js ps : List T3} (S : Sound js) (W : WayOk js ps) : ∀ k i, 0 ≤ lf js ps k i
  | 0, i => by
    rcases Nat.lt_or_ge i js.length with h | h
    · rw [lf_zero h]; have := S.at h; omega
    · show 0 ≤ (js.map (·.2.1)).getD i 0
      rw [getD_ge (by rw [List.length_map]; exact h)]; exact Int.le_refl _
  | k + 1, i => by
    have ih := lf_nn S W k i
    cases h : ps[k]? with
    | none =>
      unfold lf at *
      rw [take_past h]
      exact ih
    | some q =>
      by_cases c : q.1.toNat = i
      · subst c
        have := lf_same W h
        have := (W k q h).rest
        unfold lf at *
        omega
      · rw [lf_other h c]
        exact ih
theorem lf_full {js ps : List T3} {i : Nat} (hi : i < js.length) : ∀ {k : Nat}, (∀ m q, m < k → ps[m]? = some q → q.1.toNat ≠ i) → lf js ps k i = ln js i
  | 0, _ => lf_zero hi
  | k + 1, h => by
    have ih := lf_full hi (k := k) fun m q hm hq => h m q (by omega) hq
    cases e : ps[k]? with
    | none =>
      unfold lf at *
      rw [take_past e]
      exact ih
    | some q => rw [lf_other e (h k q (by omega) e)]; exact ih
theorem lf_pos {js ps : List T3} {k : Nat} {q : T3} (W : WayOk js ps) (h : ps[k]? = some q) : 0 < lf js ps k q.1.toNat := by
  have O := W k q h
  have := O.rest
  have := O.be
  unfold lf
  omega
theorem ta_le {js ps : List T3} (W : WayOk js ps) : ∀ {k m : Nat}, k ≤ m → timeAfter (ps.take k) ≤ timeAfter (ps.take m)
  | k, 0, h => by
    have : k = 0 := by omega
    subst this
    exact Int.le_refl _
  | k, m + 1, h => by
    rcases Nat.lt_or_ge k (m + 1) with c | c
    · have ih := ta_le W (show k ≤ m by omega)
      cases e : ps[m]? with
      | none => rw [take_past e]; exact ih
      | some q =>
        rw [ta_step e]
        have := (W m q e).tb
        have := (W m q e).be
        omega
    · have : k = m + 1 := by omega
      subst this
      exact Int.le_refl _
theorem ord {js ps : List T3} (W : WayOk js ps) {i j : Nat} {q r : T3} (h : i < j) (hq : ps[i]? = some q) (hr : ps[j]? = some r) : q.2.2 ≤ r.2.1 := by
  have h1 := ta_le W (show i + 1 ≤ j by omega)
  rw [ta_step hq] at h1
  have := (W j r hr).tb
  omega
theorem ta_nn {js ps : List T3} (W : WayOk js ps) (k : Nat) : 0 ≤ timeAfter (ps.take k) := ta_le W (Nat.zero_le k)
/-! ### a late job -/
structure LateAt (js ps : List T3) (p M : Nat) (z : T3) : Prop where
  pn : p < js.length
  at_ : ps[M]? = some z
  pl : z.1.toNat = p
  past : du js p < z.2.2
theorem least_ex {P : Nat → Prop} : ∀ n, P n → ∃ m, m ≤ n ∧ P m ∧ ∀ i, i < m → ¬ P i
  | n, h => by
    induction n using Nat.strongRecOn with
    | _ n ih =>
      by_cases c : ∃ i, i < n ∧ P i
      · obtain ⟨i, hi, hp⟩ := c
        obtain ⟨m, h1, h2, h3⟩ := ih i hi hp
        exact ⟨m, by omega, h2, h3⟩
      · exact ⟨n, Nat.le_refl _, h, fun i hi hp => c ⟨i, hi, hp⟩⟩
theorem cover {js ps : List T3} (S : Sound js) (W : WayOk js ps) {p M : Nat} {z : T3} (L : LateAt js ps p M z) :
    ∃ m q, m ≤ M ∧ ps[m]? = some q ∧ q.2.1 < du js p ∧ du js p ≤ q.2.2 ∧ du js q.1.toNat ≤ du js p := by
  have sp := S.at L.pn
  obtain ⟨m, hm, ⟨q, hq, hd⟩, hl⟩ := least_ex (P := fun m => ∃ q, ps[m]? = some q ∧ du js p ≤ q.2.2) M ⟨z, L.at_, by have := L.past; omega⟩
  have O := W m q hq
  have hp : 0 < lf js ps m p := by
    have h1 := lf_pos W L.at_
    rw [L.pl] at h1
    have := lf_mono W p hm
    omega
  have hb : q.2.1 < du js p := by
    refine Classical.byContradiction fun c => ?_
    have hlt : timeAfter (ps.take m) < q.2.1 := by
      cases m with
      | zero =>
        show 0 < q.2.1
        omega
      | succ k =>
        have hk : k < ps.length := by have := (List.getElem?_eq_some_iff.mp hq).1; omega
        have e := List.getElem?_eq_getElem hk
        rw [ta_step e]
        have := hl k (by omega)
        have : ¬ du js p ≤ (ps[k]).2.2 := fun y => this ⟨_, e, y⟩
        omega
    have := O.gap hlt p L.pn hp
    omega
  refine ⟨m, q, hm, hq, hb, hd, ?_⟩
  have := O.edf p L.pn hp (by omega)
  unfold first at this
  omega
/-- from the k-th piece to the m-th one the run never waits and works at no job that is due later than d -/
structure Bk (js ps : List T3) (d : Int) (k m : Nat) : Prop where
  km : k ≤ m
  due : ∀ i q, k ≤ i → i ≤ m → ps[i]? = some q → du js q.1.toNat ≤ d
  tight : ∀ i q r, k ≤ i → i < m → ps[i]? = some q → ps[i + 1]? = some r → q.2.2 = r.2.1
  stop : k = 0 ∨ ∃ q r, ps[k - 1]? = some q ∧ ps[k]? = some r ∧ (q.2.2 < r.2.1 ∨ d < du js q.1.toNat)
theorem bk_ex {js ps : List T3} (W : WayOk js ps) {d : Int} : ∀ {m : Nat} {q : T3}, ps[m]? = some q → du js q.1.toNat ≤ d → ∃ k, Bk js ps d k m
  | 0, q, hq, hd => ⟨0, Nat.le_refl _, fun i r h1 h2 hr => by
      have : i = 0 := by omega
      subst this
      rw [hq] at hr
      cases hr
      exact hd, fun i r s h1 h2 => absurd h2 (Nat.not_lt_zero _), .inl rfl⟩
  | m + 1, q, hq, hd => by
    have hm : m < ps.length := by have := (List.getElem?_eq_some_iff.mp hq).1; omega
    have e := List.getElem?_eq_getElem hm
    by_cases c : (ps[m]).2.2 < q.2.1 ∨ d < du js (ps[m]).1.toNat
    · exact ⟨m + 1, Nat.le_refl _, fun i r h1 h2 hr => by
        have : i = m + 1 := by omega
        subst this
        rw [hq] at hr
        cases hr
        exact hd, fun i r s h1 h2 => by omega, .inr ⟨_, _, e, hq, c⟩⟩
    · obtain ⟨k, B⟩ := bk_ex W (d := d) e (by omega)
      refine ⟨k, by have := B.km; omega, fun i r h1 h2 hr => ?_, fun i r s h1 h2 hr hs => ?_, B.stop⟩
      · rcases Nat.lt_or_ge i (m + 1) with y | y
        · exact B.due i r h1 (by omega) hr
        · have : i = m + 1 := by omega
          subst this
          rw [hq] at hr
          cases hr
          exact hd
      · rcases Nat.lt_or_ge i m with y | y
        · exact B.tight i r s h1 y hr hs
        · have : i = m := by omega
          subst this
          rw [e] at hr
          rw [hq] at hs
          cases hr
          cases hs
          have := ord W (Nat.lt_succ_self _) e hq
          omega
/-- whoever came ahead of the stretch and is due within it is done at its begin -/
theorem bk_done {js ps : List T3} (S : Sound js) (W : WayOk js ps) {d : Int} {k m : Nat} {r : T3} (B : Bk js ps d k m) (hr : ps[k]? = some r) {o : Nat} (ho : o < js.length) (hc : cm js o < r.2.1) (hd : du js o ≤ d) : lf js ps k o ≤ 0 := by
  refine Classical.byContradiction fun c => ?_
  have hp : 0 < lf js ps k o := by omega
  have O := W k r hr
  have tb := O.tb
  by_cases g : timeAfter (ps.take k) < r.2.1
  · have := O.gap g o ho hp
    omega
  · rcases B.stop with e | ⟨q, r', hq, hr', e⟩
    · subst e
      have := S.at ho
      have : ¬ (0 : Int) < r.2.1 := g
      omega
    · rw [hr] at hr'
      cases hr'
      cases k with
      | zero =>
        have : ¬ (0 : Int) < r.2.1 := g
        have := S.at ho
        omega
      | succ j =>
        have hq : ps[j]? = some q := hq
        rw [ta_step hq] at g tb
        have hj := lf_le W j o
        have := (W j q hq).edf o ho (by show lf js ps j o > 0; omega) (by omega)
        unfold first at this
        omega
theorem crowded {js ps : List T3} (S : Sound js) (W : WayOk js ps) {p M k m : Nat} {z q r : T3} (L : LateAt js ps p M z) (hq : ps[m]? = some q) (hqb : q.2.1 < du js p) (hqe : du js p ≤ q.2.2) (B : Bk js ps (du js p) k m) (hr : ps[k]? = some r) :
    0 ≤ r.2.1 ∧ r.2.1 ≤ cm js p ∧ r.2.1 < du js p ∧ du js p - r.2.1 < loadJ js r.2.1 (du js p) := by
  have sp := S.at L.pn
  have Or := W k r hr
  have hmM : m ≤ M := by
    rcases Nat.lt_or_ge M m with c | c
    · have := ord W c L.at_ hq
      have := L.past
      omega
    · exact c
  have hM : 0 < lf js ps M p := by
    have := lf_pos W L.at_
    rw [L.pl] at this
    exact this
  have hb0 : 0 ≤ r.2.1 := by
    have := Or.tb
    have := ta_nn W k
    omega
  have hbp : r.2.1 ≤ cm js p := by
    refine Classical.byContradiction fun c => ?_
    have h1 := bk_done S W B hr L.pn (by omega) (Int.le_refl _)
    have h2 := lf_mono W p (show k ≤ M by have := B.km; omega)
    omega
  refine ⟨hb0, hbp, by omega, ?_⟩
  have hin : ∀ i x, k ≤ i → i ≤ m → ps[i]? = some x → inS js r.2.1 (du js p) x.1.toNat = true := fun i x h1 h2 hx => by
    refine inS_iff.mpr ⟨?_, B.due i x h1 h2 hx⟩
    refine Classical.byContradiction fun c => ?_
    have h3 := bk_done S W B hr (W i x hx).pn (by omega) (B.due i x h1 h2 hx)
    have h4 := lf_mono W x.1.toNat h1
    have h5 := lf_pos W hx
    omega
  have hstart : sumOn (inS js r.2.1 (du js p)) (leftAfter js (ps.take k)) = loadJ js r.2.1 (du js p) := by
    rw [← sumOn_load]
    refine sumOn_congr (by rw [leftAfter_len, List.length_map]) fun i hi hs => ?_
    rw [leftAfter_len] at hi
    rw [left0 js hi]
    refine lf_full hi fun j x hj hx e => ?_
    have h1 := ord W hj hx hr
    have h2 := (W j x hx).come
    have h3 := (W j x hx).be
    rw [e] at h2
    have := (inS_iff.mp hs).1
    omega
  have hone : ∀ i x, k ≤ i → i ≤ m → ps[i]? = some x → sumOn (inS js r.2.1 (du js p)) (leftAfter js (ps.take (i + 1))) = sumOn (inS js r.2.1 (du js p)) (leftAfter js (ps.take i)) - (x.2.2 - x.2.1) := fun i x h1 h2 hx => by
    rw [la_step hx]
    unfold takeOff
    rw [sumOn_set (by rw [leftAfter_len]; exact (W i x hx).pn), if_pos (hin i x h1 h2 hx)]
    omega
  have htel : ∀ j x, k + j ≤ m → ps[k + j]? = some x → sumOn (inS js r.2.1 (du js p)) (leftAfter js (ps.take (k + j + 1))) = loadJ js r.2.1 (du js p) - (x.2.2 - r.2.1) := by
    intro j
    induction j with
    | zero =>
      intro x hx1 hx
      rw [Nat.add_zero] at *
      rw [hr] at hx
      cases hx
      rw [hone k r (Nat.le_refl _) hx1 hr, hstart]
    | succ j ih =>
      intro x hx1 hx
      have hy : k + j < ps.length := by have := (List.getElem?_eq_some_iff.mp hx).1; omega
      have e := List.getElem?_eq_getElem hy
      have h1 := ih _ (by omega) e
      rw [hone (k + (j + 1)) x (by omega) hx1 hx]
      have h2 := B.tight (k + j) _ x (by omega) (by omega) e hx
      show sumOn _ (leftAfter js (ps.take (k + j + 1))) - _ = _
      rw [h1]
      omega
  have hkm := B.km
  have hend := htel (m - k) q (by omega) (by rw [show k + (m - k) = m by omega]; exact hq)
  rw [show k + (m - k) + 1 = m + 1 by omega] at hend
  have hnn : ∀ i, 0 ≤ (leftAfter js (ps.take (m + 1))).getD i 0 := fun i => lf_nn S W (m + 1) i
  rcases Nat.lt_or_ge m M with c | c
  · have h1 := sumOn_one (S := inS js r.2.1 (du js p)) (j := p) hnn (inS_iff.mpr ⟨hbp, Int.le_refl _⟩)
    have h2 : lf js ps M p ≤ (leftAfter js (ps.take (m + 1))).getD p 0 := lf_mono W p c
    omega
  · have : m = M := by omega
    subst this
    have h1 := L.at_
    rw [hq] at h1
    cases h1
    have := L.past
    have := sumOn_nn (S := inS js r.2.1 (du js p)) hnn
    omega
/-! ### no stretch is crowded where none is late -/
def NoLate (js ps : List T3) : Prop := ∀ (i : Nat) (q : T3), ps[i]? = some q → q.2.2 ≤ du js q.1.toNat
theorem load_le {js ps : List T3} (R : RunOk js ps) (N : NoLate js ps) {b e : Int} (h : b ≤ e) : loadJ js b e ≤ e - b := by
  have W := R.way
  have key : ∀ k, k ≤ ps.length → loadJ js b e ≤ sumOn (inS js b e) (leftAfter js (ps.take k)) + (min e (max b (timeAfter (ps.take k))) - b) := by
    intro k
    induction k with
    | zero =>
      intro _
      have : sumOn (inS js b e) (leftAfter js (ps.take 0)) = loadJ js b e := sumOn_load
      rw [this]
      omega
    | succ k ih =>
      intro hk
      have ih := ih (by omega)
      have hq := List.getElem?_eq_getElem (show k < ps.length by omega)
      have O := W k _ hq
      have tb := O.tb
      have be := O.be
      rw [la_step hq, ta_step hq]
      unfold takeOff
      rw [sumOn_set (by rw [leftAfter_len]; exact O.pn)]
      by_cases c : inS js b e (ps[k]).1.toNat = true
      · rw [if_pos c]
        obtain ⟨c1, c2⟩ := inS_iff.mp c
        have := O.come
        have := N k _ hq
        omega
      · rw [if_neg c]
        omega
  have h1 := key ps.length (Nat.le_refl _)
  rw [List.take_length, sumOn_zero R.all] at h1
  omega
theorem late_at {js ps : List T3} (W : WayOk js ps) (h : ¬ NoLate js ps) : ∃ p M z, LateAt js ps p M z := by
  refine Classical.byContradiction fun c => h fun i q hq => ?_
  refine Classical.byContradiction fun d => c ⟨q.1.toNat, i, q, (W i q hq).pn, hq, rfl, by omega⟩
/-- a job is late just where some stretch asks for more than it has -/
theorem noLate_iff {js ps : List T3} (S : Sound js) (R : RunOk js ps) : NoLate js ps ↔ ∀ b e : Int, b ≤ e → loadJ js b e ≤ e - b := by
  refine ⟨fun N b e h => load_le R N h, fun h => Classical.byContradiction fun c => ?_⟩
  obtain ⟨p, M, z, L⟩ := late_at R.way c
  obtain ⟨m, q, hm, hq, h1, h2, h3⟩ := cover S R.way L
  obtain ⟨k, B⟩ := bk_ex R.way hq h3
  have hk : k < ps.length := by have := (List.getElem?_eq_some_iff.mp hq).1; have := B.km; omega
  have := crowded S R.way L hq h1 h2 B (List.getElem?_eq_getElem hk)
  have := h (ps[k]).2.1 (du js p) (by omega)
  omega
end DL
/-! ends, dues made later, one job more -/
namespace DL
def endsAfter (n : Nat) (ps : List T3) : List Int := ps.foldl (fun l q => l.set q.1.toNat q.2.2) (List.replicate n 0)
def endsM (js : List T3) : List Int := endsAfter js.length (runM js)
theorem endsAfter_step {n : Nat} {ps : List T3} {i : Nat} {q : T3} (h : ps[i]? = some q) : endsAfter n (ps.take (i + 1)) = (endsAfter n (ps.take i)).set q.1.toNat q.2.2 := by
  unfold endsAfter
  rw [List.take_add_one, h, List.foldl_append]
  rfl
theorem foldl_set_len : ∀ (ps : List T3) (l : List Int), (ps.foldl (fun l q => l.set q.1.toNat q.2.2) l).length = l.length
  | [], _ => rfl
  | q :: r, l => by rw [List.foldl_cons, foldl_set_len r, List.length_set]
theorem endsAfter_len (n : Nat) (ps : List T3) : (endsAfter n ps).length = n := by
  unfold endsAfter
  rw [foldl_set_len, List.length_replicate]
theorem ends_upto {n : Nat} {ps : List T3} {i : Nat} (hi : i < n) : ∀ k, (∀ (m : Nat) (q : T3), m < k → ps[m]? = some q → q.1.toNat ≠ i) ∨
    ∃ (M : Nat) (z : T3), M < k ∧ ps[M]? = some z ∧ z.1.toNat = i ∧ z.2.2 = (endsAfter n (ps.take k)).getD i 0 ∧ ∀ m q, m < k → ps[m]? = some q → q.1.toNat = i → m ≤ M
  | 0 => .inl fun m q h => absurd h (Nat.not_lt_zero _)
  | k + 1 => by
    have ih := ends_upto (ps := ps) hi k
    cases e : ps[k]? with
    | none =>
      rw [take_past e]
      rcases ih with h | ⟨M, z, h1, h2, h3, h4, h5⟩
      · refine .inl fun m q hm hq => ?_
        rcases Nat.lt_or_ge m k with c | c
        · exact h m q c hq
        · have : m = k := by omega
          subst this
          rw [e] at hq
          cases hq
      · refine .inr ⟨M, z, by omega, h2, h3, h4, fun m q hm hq => ?_⟩
        rcases Nat.lt_or_ge m k with c | c
        · exact h5 m q c hq
        · have : m = k := by omega
          subst this
          rw [e] at hq
          cases hq
    | some r =>
      rw [endsAfter_step e]
      by_cases c : r.1.toNat = i
      · refine .inr ⟨k, r, by omega, e, c, ?_, fun m q hm hq _ => by omega⟩
        rw [c, getD_set_same (by rw [endsAfter_len]; exact hi)]
      · rw [getD_set_ne c]
        rcases ih with h | ⟨M, z, h1, h2, h3, h4, h5⟩
        · refine .inl fun m q hm hq => ?_
          rcases Nat.lt_or_ge m k with y | y
          · exact h m q y hq
          · have : m = k := by omega
            subst this
            rw [e] at hq
            cases hq
            exact c
        · refine .inr ⟨M, z, by omega, h2, h3, h4, fun m q hm hq hp => ?_⟩
          rcases Nat.lt_or_ge m k with y | y
          · exact h5 m q y hq hp
          · have : m = k := by omega
            subst this
            rw [e] at hq
            cases hq
            exact absurd hp c
theorem ends_at {js ps : List T3} (S : Sound js) (R : RunOk js ps) {i : Nat} (hi : i < js.length) :
    ∃ (M : Nat) (z : T3), ps[M]? = some z ∧ z.1.toNat = i ∧ z.2.2 = (endsAfter js.length ps).getD i 0 ∧ ∀ (m : Nat) (q : T3), ps[m]? = some q → q.1.toNat = i → m ≤ M ∧ q.2.2 ≤ z.2.2 := by
  have h := ends_upto (ps := ps) hi ps.length
  rw [List.take_length] at h
  rcases h with h | ⟨M, z, h1, h2, h3, h4, h5⟩
  · have h1 := lf_full hi (k := ps.length) fun m q hm hq => h m q hm hq
    unfold lf at h1
    rw [List.take_length, R.all i] at h1
    have := S.at hi
    omega
  · refine ⟨M, z, h2, h3, h4, fun m q hq hp => ?_⟩
    have := h5 m q (List.getElem?_eq_some_iff.mp hq).1 hq hp
    refine ⟨this, ?_⟩
    rcases Nat.lt_or_ge m M with c | c
    · have := ord R.way c hq h2
      have := (R.way M z h2).be
      omega
    · have : m = M := by omega
      subst this
      rw [h2] at hq
      cases hq
      exact Int.le_refl _
theorem late_of_end {js ps : List T3} (S : Sound js) (R : RunOk js ps) {i : Nat} (hi : i < js.length) (h : du js i < (endsAfter js.length ps).getD i 0) : ∃ M z, LateAt js ps i M z := by
  obtain ⟨M, z, h1, h2, h3, _⟩ := ends_at S R hi
  exact ⟨M, z, hi, h1, h2, by rw [h3]; exact h⟩
theorem LateAt.end_ {js ps : List T3} {p M : Nat} {z : T3} (S : Sound js) (R : RunOk js ps) (L : LateAt js ps p M z) : du js p < (endsAfter js.length ps).getD p 0 := by
  obtain ⟨M', z', h1, h2, h3, h4⟩ := ends_at S R L.pn
  have := (h4 M z L.at_ L.pl).2
  have := L.past
  omega
theorem noLate_ends {js ps : List T3} (S : Sound js) (R : RunOk js ps) : NoLate js ps ↔ ∀ i, i < js.length → (endsAfter js.length ps).getD i 0 ≤ du js i := by
  constructor
  · intro N i hi
    obtain ⟨M, z, h1, h2, h3, _⟩ := ends_at S R hi
    have := N M z h1
    rw [h2] at this
    omega
  · intro h
    refine Classical.byContradiction fun c => ?_
    obtain ⟨p, M, z, L⟩ := late_at R.way c
    have := L.end_ S R
    have := h p L.pn
    omega
/-! ### the run meets the jobs where none is late -/
theorem run_left {js ps : List T3} (R : RunOk js ps) : leftAfter js ps = List.replicate js.length 0 := by
  refine List.eq_replicate_iff.mpr ⟨leftAfter_len js ps, fun x hx => ?_⟩
  obtain ⟨i, hi, e⟩ := List.getElem_of_mem hx
  have := R.all i
  rw [getD_lt hi, e] at this
  exact this
/-! ### dues made later -/
def shiftJs (js : List T3) (x : Int) : List T3 := js.map fun j => (j.1, j.2.1, j.2.2 + x)
theorem shift_len (js : List T3) (x : Int) : (shiftJs js x).length = js.length := List.length_map _
theorem cm_shift (js : List T3) (x : Int) (i : Nat) : cm (shiftJs js x) i = cm js i := by
  unfold cm shiftJs
  rcases Nat.lt_or_ge i js.length with h | h
  · rw [getD_lt h, getD_lt (by rw [List.length_map]; exact h), List.getElem_map]
  · rw [getD_ge h, getD_ge (by rw [List.length_map]; exact h)]
theorem du_shift {js : List T3} {x : Int} {i : Nat} (h : i < js.length) : du (shiftJs js x) i = du js i + x := by
  unfold du shiftJs
  rw [getD_lt h, getD_lt (by rw [List.length_map]; exact h), List.getElem_map]
theorem shift_sound {js : List T3} {x : Int} (S : Sound js) (h : 0 ≤ x) : Sound (shiftJs js x) := fun j hj => by
  obtain ⟨i, hi, rfl⟩ := List.mem_map.mp hj
  have := S i hi
  unfold SoundJ at *
  dsimp only
  omega
theorem there_shift (js : List T3) (x : Int) (left : List Int) (t : Int) (i : Nat) : there (shiftJs js x) left t i ↔ there js left t i := by
  unfold there
  rw [cm_shift]
theorem fd_shift (js : List T3) (x : Int) (left : List Int) (t : Int) : ∀ k, k ≤ js.length → fdUpto (shiftJs js x) left t k = fdUpto js left t k
  | 0, _ => rfl
  | k + 1, h => by
    show fdStep (shiftJs js x) left t (fdUpto (shiftJs js x) left t k) k = fdStep js left t (fdUpto js left t k) k
    rw [fd_shift js x left t k (by omega)]
    unfold fdStep
    by_cases c : there js left t k
    · rw [if_pos c, if_pos ((there_shift js x left t k).mpr c)]
      rcases fdUpto_spec js left t k with ⟨e, _⟩ | ⟨p, e, hp, _⟩
      · rw [e]
      · rw [e]
        show (if du (shiftJs js x) k < du (shiftJs js x) p then some k else some p) = if du js k < du js p then some k else some p
        rw [du_shift (by omega), du_shift (by omega)]
        by_cases d : du js k < du js p
        · rw [if_pos d, if_pos (by omega)]
        · rw [if_neg d, if_neg (by omega)]
    · rw [if_neg c, if_neg fun z => c ((there_shift js x left t k).mp z)]
theorem firstDue_shift (js : List T3) (x : Int) (left : List Int) (t : Int) : firstDue (shiftJs js x) left t = firstDue js left t := by
  unfold firstDue
  rw [shift_len]
  exact fd_shift js x left t _ (Nat.le_refl _)
theorem comesAfter_shift (js : List T3) (x t : Int) : comesAfter (shiftJs js x) t = comesAfter js t := by
  unfold comesAfter shiftJs
  rw [List.filter_map, List.map_map]
  rfl
theorem comesWithin_shift (js : List T3) (x t d : Int) : comesWithin (shiftJs js x) t d = comesWithin js t d := by
  unfold comesWithin shiftJs
  rw [List.filter_map, List.map_map]
  rfl
theorem step_shift (js : List T3) (x : Int) (s : RS) : step (shiftJs js x) s = step js s := by
  unfold step
  rw [firstDue_shift]
  unfold nextCome endOf
  simp only [comesAfter_shift, comesWithin_shift]
theorem runFrom_shift (js : List T3) (x : Int) : ∀ k s, runFrom (shiftJs js x) k s = runFrom js k s
  | 0, _ => rfl
  | k + 1, s => by
    show (if done s then s else runFrom (shiftJs js x) k (step (shiftJs js x) s)) = if done s then s else runFrom js k (step js s)
    rw [step_shift, runFrom_shift js x k]
theorem runM_shift (js : List T3) (x : Int) : runM (shiftJs js x) = runM js := by
  unfold runM
  rw [runFrom_shift, shift_len]
  congr 1
  congr 1
  unfold rs0 shiftJs
  rw [List.map_map]
  rfl
theorem endsM_shift (js : List T3) (x : Int) : endsM (shiftJs js x) = endsM js := by
  unfold endsM
  rw [runM_shift, shift_len]
theorem noLate_shift {js : List T3} (S : Sound js) (x : Int) : NoLate (shiftJs js x) (runM js) ↔ ∀ i, i < js.length → (endsM js).getD i 0 ≤ du js i + x := by
  have R := run_ok S
  constructor
  · intro N i hi
    obtain ⟨M, z, h1, h2, h3, _⟩ := ends_at S R hi
    have := N M z h1
    rw [h2, du_shift hi] at this
    unfold endsM
    omega
  · intro h m q hq
    have hp := (R.way m q hq).pn
    obtain ⟨M, z, h1, h2, h3, h4⟩ := ends_at S R hp
    have := (h4 m q hq rfl).2
    have := h _ hp
    unfold endsM at this
    rw [du_shift hp]
    omega
/-! ### one job more -/
def putJ (js : List T3) (at_ : Nat) (j : T3) : List T3 := js.take at_ ++ [j] ++ js.drop at_
theorem putIn_sound {js : List T3} {at_ : Nat} {j : T3} (S : Sound js) (h : SoundJ j) : Sound (putJ js at_ j) := fun x hx => by
  rcases List.mem_append.mp hx with y | y
  · rcases List.mem_append.mp y with y | y
    · exact S x (List.mem_of_mem_take y)
    · rw [List.mem_singleton.mp y]; exact h
  · exact S x (List.mem_of_mem_drop y)
theorem load_putIn (js : List T3) (at_ : Nat) (j : T3) (b e : Int) : loadJ (putJ js at_ j) b e = loadJ js b e + if b ≤ j.1 ∧ j.2.2 ≤ e then j.2.1 else 0 := by
  unfold putJ
  rw [load_append, load_append, load_one]
  have : loadJ js b e = loadJ (js.take at_) b e + loadJ (js.drop at_) b e := by rw [← load_append, List.take_append_drop]
  omega
theorem load_congr {js : List T3} {b b' e e' : Int} (h : ∀ j ∈ js, inB b e j = inB b' e' j) : loadJ js b e = loadJ js b' e' := by
  unfold loadJ
  rw [List.filter_congr h]
/-- a stretch's begin may be a come, its end a due -/
theorem snap_begin (js : List T3) {b c : Int} (e : Int) (hb : b ≤ c) : ∃ b', (b' = c ∨ ∃ j ∈ js, j.1 = b') ∧ b ≤ b' ∧ b' ≤ c ∧ loadJ js b e = loadJ js b' e := by
  have key : (c :: (js.filter fun j => decide (b ≤ j.1)).map (·.1)) ≠ [] := List.cons_ne_nil _ _
  have hm := lmin_mem key
  have hl : ∀ x, x ∈ (c :: (js.filter fun j => decide (b ≤ j.1)).map (·.1)) → lmin (c :: (js.filter fun j => decide (b ≤ j.1)).map (·.1)) ≤ x := fun x hx => lmin_le hx
  generalize lmin (c :: (js.filter fun j => decide (b ≤ j.1)).map (·.1)) = v at *
  have hbv : b ≤ v := by
    rcases List.mem_cons.mp hm with z | z
    · omega
    · obtain ⟨j, hj, rfl⟩ := List.mem_map.mp z
      exact of_decide_eq_true (List.mem_filter.mp hj).2
  refine ⟨v, ?_, hbv, hl c List.mem_cons_self, load_congr fun j hj => ?_⟩
  · rcases List.mem_cons.mp hm with z | z
    · exact .inl z
    · obtain ⟨j, hj, e⟩ := List.mem_map.mp z
      exact .inr ⟨j, (List.mem_filter.mp hj).1, e⟩
  · unfold inB
    congr 1
    refine decide_eq_decide.mpr ⟨fun h => hl _ (List.mem_cons_of_mem _ (List.mem_map.mpr ⟨j, List.mem_filter.mpr ⟨hj, decide_eq_true h⟩, rfl⟩)), fun h => by omega⟩
def lmax (d : Int) (l : List Int) : Int := l.foldl max d
theorem lmax_ge : ∀ (l : List Int) (d : Int), d ≤ lmax d l ∧ ∀ x ∈ l, x ≤ lmax d l
  | [], d => ⟨Int.le_refl _, fun x h => by simp at h⟩
  | a :: r, d => by
    obtain ⟨h1, h2⟩ := lmax_ge r (max d a)
    show d ≤ lmax (max d a) r ∧ ∀ x ∈ a :: r, x ≤ lmax (max d a) r
    refine ⟨by omega, fun x hx => ?_⟩
    rcases List.mem_cons.mp hx with e | e
    · rw [e]; omega
    · exact h2 x e
theorem lmax_mem : ∀ (l : List Int) (d : Int), lmax d l = d ∨ lmax d l ∈ l
  | [], d => .inl rfl
  | a :: r, d => by
    show lmax (max d a) r = d ∨ lmax (max d a) r ∈ a :: r
    rcases lmax_mem r (max d a) with h | h
    · rcases Int.le_total d a with c | c
      · rw [Int.max_eq_right c] at h ⊢
        exact .inr (by rw [h]; exact List.mem_cons_self)
      · rw [Int.max_eq_left c] at h ⊢
        exact .inl h
    · exact .inr (List.mem_cons_of_mem _ h)
theorem snap_end (js : List T3) {e d : Int} (b : Int) (hd : d ≤ e) : ∃ e', (e' = d ∨ ∃ j ∈ js, j.2.2 = e') ∧ d ≤ e' ∧ e' ≤ e ∧ loadJ js b e = loadJ js b e' := by
  obtain ⟨h1, h2⟩ := lmax_ge ((js.filter fun j => decide (j.2.2 ≤ e)).map (·.2.2)) d
  have h3 := lmax_mem ((js.filter fun j => decide (j.2.2 ≤ e)).map (·.2.2)) d
  generalize lmax d ((js.filter fun j => decide (j.2.2 ≤ e)).map (·.2.2)) = v at *
  refine ⟨v, ?_, h1, ?_, load_congr fun j hj => ?_⟩
  · rcases h3 with z | z
    · exact .inl z
    · obtain ⟨j, hj, e⟩ := List.mem_map.mp z
      exact .inr ⟨j, (List.mem_filter.mp hj).1, e⟩
  · rcases h3 with z | z
    · omega
    · obtain ⟨j, hj, e⟩ := List.mem_map.mp z
      have := of_decide_eq_true (List.mem_filter.mp hj).2
      omega
  · unfold inB
    congr 1
    refine decide_eq_decide.mpr ⟨fun h => h2 _ (List.mem_map.mpr ⟨j, List.mem_filter.mpr ⟨hj, decide_eq_true h⟩, rfl⟩), fun h => ?_⟩
    rcases h3 with z | z
    · omega
    · obtain ⟨j', hj', e'⟩ := List.mem_map.mp z
      have := of_decide_eq_true (List.mem_filter.mp hj').2
      omega
/-- no job is late with one of this length more, just where all stretches that hold its come and due leave as much -/
theorem noLate_putIn {js : List T3} (S : Sound js) (hf : NoLate js (runM js)) (at_ : Nat) {j : T3} (hj : SoundJ j) :
    NoLate (putJ js at_ j) (runM (putJ js at_ j)) ↔ ∀ b e : Int, b ≤ j.1 → j.2.2 ≤ e → loadJ js b e + j.2.1 ≤ e - b := by
  have S2 := putIn_sound (at_ := at_) S hj
  rw [noLate_iff S2 (run_ok S2)]
  constructor
  · intro h b e h1 h2
    have := h b e (by have := hj.2.2; omega)
    rw [load_putIn, if_pos ⟨h1, h2⟩] at this
    exact this
  · intro h b e hbe
    rw [load_putIn]
    by_cases c : b ≤ j.1 ∧ j.2.2 ≤ e
    · rw [if_pos c]
      exact h b e c.1 c.2
    · rw [if_neg c]
      have := load_le (run_ok S) hf hbe
      omega
/-- all these stretches are seen by those that begin at a come and end at a due -/
theorem room_seen {js : List T3} {c d x : Int} (h : ∀ b e : Int, (b = c ∨ ∃ j ∈ js, j.1 = b) → b ≤ c → (e = d ∨ ∃ j ∈ js, j.2.2 = e) → d ≤ e → loadJ js b e + x ≤ e - b) : ∀ b e : Int, b ≤ c → d ≤ e → loadJ js b e + x ≤ e - b := by
  intro b e hb he
  obtain ⟨b', h1, h2, h3, h4⟩ := snap_begin js e hb
  obtain ⟨e', g1, g2, g3, g4⟩ := snap_end js b' he
  have := h b' e' h1 h3 g1 g2
  rw [h4, g4]
  omega
end DL
/-! the begin of a stretch, looked for from the first piece on -/
namespace DL
def BInv (js ps : List T3) (d : Int) (i : Nat) (b : Int) : Prop :=
  (b = timeAfter (ps.take i) ∧ (i = 0 ∨ ∃ q, ps[i - 1]? = some q ∧ d < du js q.1.toNat)) ∨
  ∃ (k : Nat) (r : T3), k < i ∧ ps[k]? = some r ∧ r.2.1 = b ∧ Bk js ps d k (i - 1)
theorem BInv.start (js ps : List T3) (d : Int) : BInv js ps d 0 0 := .inl ⟨rfl, .inl rfl⟩
def nextBegin (js ps : List T3) (d : Int) (i : Nat) (b : Int) (q : T3) : Int :=
  if d < du js q.1.toNat then q.2.2 else if timeAfter (ps.take i) < q.2.1 then q.2.1 else b
theorem bk_self {js ps : List T3} {d : Int} {i : Nat} {q : T3} (h : ps[i]? = some q) (hd : du js q.1.toNat ≤ d)
    (st : i = 0 ∨ ∃ q r, ps[i - 1]? = some q ∧ ps[i]? = some r ∧ (q.2.2 < r.2.1 ∨ d < du js q.1.toNat)) : Bk js ps d i i :=
  ⟨Nat.le_refl _, fun j x h1 h2 hx => by
    have : j = i := by omega
    subst this
    rw [h] at hx
    cases hx
    exact hd, fun j x y h1 h2 => by omega, st⟩
theorem bk_more {js ps : List T3} {d : Int} {k i : Nat} {p q : T3} (B : Bk js ps d k i) (hp : ps[i]? = some p) (h : ps[i + 1]? = some q) (hd : du js q.1.toNat ≤ d) (ht : p.2.2 = q.2.1) : Bk js ps d k (i + 1) := by
  refine ⟨by have := B.km; omega, fun j x h1 h2 hx => ?_, fun j x y h1 h2 hx hy => ?_, B.stop⟩
  · rcases Nat.lt_or_ge j (i + 1) with c | c
    · exact B.due j x h1 (by omega) hx
    · have : j = i + 1 := by omega
      subst this
      rw [h] at hx
      cases hx
      exact hd
  · rcases Nat.lt_or_ge j i with c | c
    · exact B.tight j x y h1 c hx hy
    · have : j = i := by omega
      subst this
      rw [hp] at hx
      rw [h] at hy
      cases hx
      cases hy
      exact ht
theorem BInv.step {js ps : List T3} (W : WayOk js ps) {d : Int} {i : Nat} {b : Int} {q : T3} (I : BInv js ps d i b) (h : ps[i]? = some q) : BInv js ps d (i + 1) (nextBegin js ps d i b q) := by
  have tb := (W i q h).tb
  unfold nextBegin
  by_cases c : d < du js q.1.toNat
  · rw [if_pos c]
    exact .inl ⟨(ta_step h).symm, .inr ⟨q, h, c⟩⟩
  · rw [if_neg c]
    have hi : i < ps.length := (List.getElem?_eq_some_iff.mp h).1
    by_cases g : timeAfter (ps.take i) < q.2.1
    · rw [if_pos g]
      refine .inr ⟨i, q, by omega, h, rfl, bk_self h (by omega) ?_⟩
      cases i with
      | zero => exact .inl rfl
      | succ j =>
        have e := List.getElem?_eq_getElem (show j < ps.length by omega)
        rw [ta_step e] at g
        exact .inr ⟨_, q, e, h, .inl g⟩
    · rw [if_neg g]
      rcases I with ⟨e, st⟩ | ⟨k, r, hk, hr, hb, B⟩
      · refine .inr ⟨i, q, by omega, h, by omega, bk_self h (by omega) ?_⟩
        rcases st with z | ⟨x, hx, hd⟩
        · exact .inl z
        · exact .inr ⟨x, q, hx, h, .inr hd⟩
      · refine .inr ⟨k, r, by omega, hr, hb, ?_⟩
        obtain ⟨j, rfl⟩ : ∃ j, i = j + 1 := ⟨i - 1, by omega⟩
        have e := List.getElem?_eq_getElem (show j < ps.length by omega)
        rw [ta_step e] at g tb
        exact bk_more B e h (by omega) (by omega)
/-- behind the piece at which the due falls it is the begin -/
theorem BInv.end_ {js ps : List T3} {d : Int} {m : Nat} {b : Int} {q : T3} (I : BInv js ps d (m + 1) b) (h : ps[m]? = some q) (hd : du js q.1.toNat ≤ d) : ∃ (k : Nat) (r : T3), ps[k]? = some r ∧ r.2.1 = b ∧ Bk js ps d k m := by
  rcases I with ⟨e, st⟩ | ⟨k, r, hk, hr, hb, B⟩
  · rcases st with z | ⟨x, hx, hd2⟩
    · omega
    · have hx : ps[m]? = some x := hx
      rw [h] at hx
      cases hx
      omega
  · exact ⟨k, r, hr, hb, B⟩
end DL
/-! room for one job more -/
namespace DL
def comesB (js : List T3) (c : Int) : List Int := c :: (js.filter fun j => decide (j.1 < c)).map (·.1)
def duesE (js : List T3) (d : Int) : List Int := d :: (js.filter fun j => decide (d < j.2.2)).map (·.2.2)
def minE (js : List T3) (b : Int) (es : List Int) (a : Int) : Int := es.foldl (fun a e => min a (e - b - loadJ js b e)) a
def minB (js : List T3) (es bs : List Int) (a : Int) : Int := bs.foldl (fun a b => minE js b es a) a
def leastM (js : List T3) (c d : Int) : Int := minB js (duesE js d) (comesB js c) (d - c)
theorem minE_snoc {js : List T3} {b a : Int} {es : List Int} {i : Nat} {e : Int} (h : es[i]? = some e) : minE js b (es.take (i + 1)) a = min (minE js b (es.take i) a) (e - b - loadJ js b e) := by
  unfold minE
  rw [List.take_add_one, h, List.foldl_append]
  rfl
theorem minB_snoc {js : List T3} {a : Int} {es bs : List Int} {i : Nat} {b : Int} (h : bs[i]? = some b) : minB js es (bs.take (i + 1)) a = minE js b es (minB js es (bs.take i) a) := by
  unfold minB
  rw [List.take_add_one, h, List.foldl_append]
  rfl
theorem minE_le (js : List T3) (b : Int) : ∀ (es : List Int) (a : Int), minE js b es a ≤ a ∧ ∀ e ∈ es, minE js b es a ≤ e - b - loadJ js b e
  | [], a => ⟨Int.le_refl _, fun e h => by simp at h⟩
  | x :: r, a => by
    obtain ⟨h1, h2⟩ := minE_le js b r (min a (x - b - loadJ js b x))
    show minE js b r (min a (x - b - loadJ js b x)) ≤ a ∧ ∀ e ∈ x :: r, minE js b r (min a (x - b - loadJ js b x)) ≤ e - b - loadJ js b e
    refine ⟨by omega, fun e he => ?_⟩
    rcases List.mem_cons.mp he with z | z
    · rw [z]; omega
    · exact h2 e z
theorem minE_mem (js : List T3) (b : Int) : ∀ (es : List Int) (a : Int), minE js b es a = a ∨ ∃ e ∈ es, minE js b es a = e - b - loadJ js b e
  | [], a => .inl rfl
  | x :: r, a => by
    show minE js b r (min a (x - b - loadJ js b x)) = a ∨ ∃ e ∈ x :: r, minE js b r (min a (x - b - loadJ js b x)) = e - b - loadJ js b e
    rcases minE_mem js b r (min a (x - b - loadJ js b x)) with h | ⟨e, he, h⟩
    · rcases Int.le_total a (x - b - loadJ js b x) with c | c
      · rw [Int.min_eq_left c] at h ⊢
        exact .inl h
      · rw [Int.min_eq_right c] at h ⊢
        exact .inr ⟨x, List.mem_cons_self, h⟩
    · exact .inr ⟨e, List.mem_cons_of_mem _ he, h⟩
theorem minB_le (js : List T3) (es : List Int) : ∀ (bs : List Int) (a : Int), minB js es bs a ≤ a ∧ ∀ b ∈ bs, ∀ e ∈ es, minB js es bs a ≤ e - b - loadJ js b e
  | [], a => ⟨Int.le_refl _, fun e h => by simp at h⟩
  | x :: r, a => by
    obtain ⟨h1, h2⟩ := minB_le js es r (minE js x es a)
    obtain ⟨g1, g2⟩ := minE_le js x es a
    show minB js es r (minE js x es a) ≤ a ∧ ∀ b ∈ x :: r, ∀ e ∈ es, minB js es r (minE js x es a) ≤ e - b - loadJ js b e
    refine ⟨by omega, fun b hb e he => ?_⟩
    rcases List.mem_cons.mp hb with z | z
    · subst z
      have := g2 e he
      omega
    · exact h2 b z e he
theorem minB_mem (js : List T3) (es : List Int) : ∀ (bs : List Int) (a : Int), minB js es bs a = a ∨ ∃ b ∈ bs, ∃ e ∈ es, minB js es bs a = e - b - loadJ js b e
  | [], a => .inl rfl
  | x :: r, a => by
    show minB js es r (minE js x es a) = a ∨ ∃ b ∈ x :: r, ∃ e ∈ es, minB js es r (minE js x es a) = e - b - loadJ js b e
    rcases minB_mem js es r (minE js x es a) with h | ⟨b, hb, e, he, h⟩
    · rcases minE_mem js x es a with g | ⟨e, he, g⟩
      · rw [g] at h ⊢
        exact .inl h
      · exact .inr ⟨x, List.mem_cons_self, e, he, by rw [h, g]⟩
    · exact .inr ⟨b, List.mem_cons_of_mem _ hb, e, he, h⟩
theorem mem_comesB {js : List T3} {c b : Int} : b ∈ comesB js c ↔ (b = c ∨ ∃ j ∈ js, j.1 = b) ∧ b ≤ c := by
  unfold comesB
  rw [List.mem_cons, List.mem_map]
  constructor
  · rintro (h | ⟨j, hj, e⟩)
    · exact ⟨.inl h, by omega⟩
    · obtain ⟨h1, h2⟩ := List.mem_filter.mp hj
      have := of_decide_eq_true h2
      exact ⟨.inr ⟨j, h1, e⟩, by omega⟩
  · rintro ⟨h | ⟨j, hj, e⟩, hb⟩
    · exact .inl h
    · by_cases g : b = c
      · exact .inl g
      · exact .inr ⟨j, List.mem_filter.mpr ⟨hj, decide_eq_true (by omega)⟩, e⟩
theorem mem_duesE {js : List T3} {d e : Int} : e ∈ duesE js d ↔ (e = d ∨ ∃ j ∈ js, j.2.2 = e) ∧ d ≤ e := by
  unfold duesE
  rw [List.mem_cons, List.mem_map]
  constructor
  · rintro (h | ⟨j, hj, z⟩)
    · exact ⟨.inl h, by omega⟩
    · obtain ⟨h1, h2⟩ := List.mem_filter.mp hj
      have := of_decide_eq_true h2
      exact ⟨.inr ⟨j, h1, z⟩, by omega⟩
  · rintro ⟨h | ⟨j, hj, z⟩, hb⟩
    · exact .inl h
    · by_cases g : e = d
      · exact .inl g
      · exact .inr ⟨j, List.mem_filter.mpr ⟨hj, decide_eq_true (by omega)⟩, z⟩
theorem least_le (js : List T3) (c d : Int) : leastM js c d ≤ d - c := (minB_le js _ _ _).1
theorem least_all (js : List T3) (c d : Int) : ∀ b e : Int, b ≤ c → d ≤ e → loadJ js b e + leastM js c d ≤ e - b := by
  refine room_seen fun b e hb hbc he hde => ?_
  have := (minB_le js (duesE js d) (comesB js c) (d - c)).2 b (mem_comesB.mpr ⟨hb, hbc⟩) e (mem_duesE.mpr ⟨he, hde⟩)
  unfold leastM
  omega
theorem least_nn {js : List T3} (S : Sound js) (N : NoLate js (runM js)) {c d : Int} (h : c < d) : 0 ≤ leastM js c d := by
  unfold leastM
  rcases minB_mem js (duesE js d) (comesB js c) (d - c) with g | ⟨b, hb, e, he, g⟩
  · omega
  · have h1 := (mem_comesB.mp hb).2
    have h2 := (mem_duesE.mp he).2
    have := load_le (run_ok S) N (show b ≤ e by omega)
    omega
theorem least_fits {js : List T3} (S : Sound js) (N : NoLate js (runM js)) {c d : Int} (h0 : 0 ≤ c) (h : c < d) (at_ : Nat) (hp : 0 < leastM js c d) :
    NoLate (putJ js at_ (c, leastM js c d, d)) (runM (putJ js at_ (c, leastM js c d, d))) := by
  rw [noLate_putIn S N at_ (j := (c, leastM js c d, d)) ⟨h0, by show 1 ≤ leastM js c d; omega, h⟩]
  exact fun b e h1 h2 => least_all js c d b e h1 h2
theorem least_most {js : List T3} (S : Sound js) (N : NoLate js (runM js)) {c d : Int} (h0 : 0 ≤ c) (h : c < d) (at_ : Nat) :
    ¬ NoLate (putJ js at_ (c, leastM js c d + 1, d)) (runM (putJ js at_ (c, leastM js c d + 1, d))) := by
  have nn := least_nn S N h
  rw [noLate_putIn S N at_ (j := (c, leastM js c d + 1, d)) ⟨h0, by show 1 ≤ leastM js c d + 1; omega, h⟩]
  intro z
  rcases minB_mem js (duesE js d) (comesB js c) (d - c) with g | ⟨b, hb, e, he, g⟩
  · have := z c d (Int.le_refl _) (Int.le_refl _)
    have := load_nn S c d
    unfold leastM at *
    dsimp only at *
    omega
  · have := z b e (mem_comesB.mp hb).2 (mem_duesE.mp he).2
    unfold leastM at *
    dsimp only at *
    omega
end DL
/-! lists of triples in the heap -/
namespace DL
open PySem PySem.Spec PyProof.Rows L2 Evl
abbrev St := L2.St
def tv (j : T3) : List V := [.int j.1, .int j.2.1, .int j.2.2]
abbrev AtT (H : Hp) (t : Addr) (j : T3) : Prop := H t = some (.tup (tv j))
abbrev Tps (H : Hp) : List Addr → List T3 → Prop := Paired (AtT H)
def TL (H : Hp) (p : Addr) (js : List T3) : Prop := ∃ ts : List Addr, H p = some (.lst (ts.map V.ref)) ∧ Tps H ts js
def IL (H : Hp) (p : Addr) (ns : List Int) : Prop := H p = some (.lst (ns.map V.int))
theorem Tps.mono {H H' : Hp} (e : Ex H H') : ∀ {ts : List Addr} {js : List T3}, Tps H ts js → Tps H' ts js
  | _, _, .nil => .nil
  | _, _, .cons r s => .cons (e _ _ r) (Tps.mono e s)
theorem TL.mono {H H' : Hp} {p : Addr} {js : List T3} (e : Ex H H') (h : TL H p js) : TL H' p js := by
  obtain ⟨ts, h1, h2⟩ := h
  exact ⟨ts, e _ _ h1, Tps.mono e h2⟩
theorem IL.mono {H H' : Hp} {p : Addr} {ns : List Int} (e : Ex H H') (h : IL H p ns) : IL H' p ns := e _ _ h
theorem Tps.append {H : Hp} : ∀ {ts us : List Addr} {js ks : List T3}, Tps H ts js → Tps H us ks → Tps H (ts ++ us) (js ++ ks)
  | _, _, _, _, .nil, s => s
  | _, _, _, _, .cons r t, s => .cons r (Tps.append t s)
theorem Tps.take {H : Hp} : ∀ {ts : List Addr} {js : List T3} (n : Nat), Tps H ts js → Tps H (ts.take n) (js.take n)
  | _, _, 0, _ => .nil
  | _, _, _ + 1, .nil => .nil
  | _, _, n + 1, .cons r t => .cons r (Tps.take n t)
theorem Tps.drop {H : Hp} : ∀ {ts : List Addr} {js : List T3} (n : Nat), Tps H ts js → Tps H (ts.drop n) (js.drop n)
  | _, _, 0, r => r
  | _, _, _ + 1, .nil => .nil
  | _, _, n + 1, .cons _ t => Tps.drop n t
theorem Tps.len {H : Hp} {ts : List Addr} {js : List T3} (h : Tps H ts js) : ts.length = js.length := Paired.length h
theorem Tps.get {H : Hp} : ∀ {ts : List Addr} {js : List T3} {i : Nat} {j : T3}, Tps H ts js → js[i]? = some j → ∃ t, ts[i]? = some t ∧ AtT H t j
  | _, _, _, _, .nil, e => by simp at e
  | _, _, 0, _, .cons r _, e => by
    have e' := Option.some.inj e
    subst e'
    exact ⟨_, rfl, r⟩
  | _, _, i + 1, j, .cons _ t, e => Tps.get (i := i) (j := j) t e
theorem Tps.getA {H : Hp} {ts : List Addr} {js : List T3} {i : Nat} {t : Addr} (h : Tps H ts js) (e : ts[i]? = some t) : ∃ j, js[i]? = some j ∧ AtT H t j := by
  have hi : i < js.length := by
    rw [← h.len]; exact (List.getElem?_eq_some_iff.mp e).1
  obtain ⟨u, e2, a⟩ := h.get (List.getElem?_eq_getElem hi)
  rw [e] at e2
  cases e2
  exact ⟨_, List.getElem?_eq_getElem hi, a⟩
theorem Tps.inj {H : Hp} : ∀ {ts : List Addr} {js ks : List T3}, Tps H ts js → Tps H ts ks → js = ks
  | _, _, _, .nil, .nil => rfl
  | _, _, _, .cons (a := t) r s, .cons r' s' => by
    have e : tv _ = tv _ := HO.tup.inj (Option.some.inj (r.symm.trans r'))
    rw [Tps.inj s s']
    congr 1
    unfold tv at e
    simp only [List.cons.injEq, V.int.injEq, and_true] at e
    obtain ⟨e1, e2, e3⟩ := e
    exact Prod.ext e1 (Prod.ext e2 e3)
theorem TL.nil {H : Hp} {p : Addr} (h : H p = some (.lst [])) : TL H p [] := ⟨[], h, .nil⟩
theorem TL.atI {H : Hp} {p : Addr} {js : List T3} {i : Nat} {j : T3} (h : TL H p js) (e : js[i]? = some j) : ∃ (t : Addr) (ts : List Addr), H p = some (HO.lst (ts.map V.ref)) ∧ (ts.map V.ref)[i]? = some (V.ref t) ∧ AtT H t j := by
  obtain ⟨ts, h1, h2⟩ := h
  obtain ⟨t, e1, a⟩ := h2.get e
  exact ⟨t, ts, h1, by rw [List.getElem?_map, e1]; rfl, a⟩
theorem Tps.keep {H H' : Hp} : ∀ {ts : List Addr} {js : List T3}, (∀ t xs, H t = some (.tup xs) → H' t = some (.tup xs)) → Tps H ts js → Tps H' ts js
  | _, _, _, .nil => .nil
  | _, _, k, .cons r s => .cons (k _ _ r) (Tps.keep k s)
theorem tup_upd {H : Hp} {l : Addr} {xs ys : List V} (hl : H l = some (.lst xs)) : ∀ t zs, H t = some (.tup zs) → (upd H l (.lst ys)) t = some (.tup zs) := fun t zs e => by
  rw [upd_ne (ne_of e hl (by intro q; cases q))]
  exact e
theorem TL.updL {H : Hp} {p l : Addr} {js : List T3} {xs ys : List V} (h : TL H p js) (hl : H l = some (.lst xs)) (ne : p ≠ l) : TL (L2.upd H l (HO.lst ys)) p js := by
  obtain ⟨ts, h1, h2⟩ := h
  exact ⟨ts, by rw [upd_ne ne]; exact h1, h2.keep (tup_upd hl)⟩
theorem TL.put {H : Hp} {l : Addr} {js : List T3} {ts : List Addr} {xs : List V} (hl : H l = some (.lst xs)) (h : Tps H ts js) : TL (L2.upd H l (HO.lst (ts.map V.ref))) l js :=
  ⟨ts, upd_same, h.keep (tup_upd hl)⟩
theorem TL.sq {K : PySem.W.Frag} {H : Hp} {p : Addr} {js : List T3} (h : TL H p js) : ∃ xs, SqL K H p xs ∧ xs.length = js.length := by
  obtain ⟨ts, h1, h2⟩ := h
  exact ⟨_, SqL.of h1, by rw [List.length_map, h2.len]⟩
/-- equality of lists of triples, as == tells it -/
def tD (j : T3) : PyData := .tuple [.int j.1, .int j.2.1, .int j.2.2]
theorem depth_ints0 : ∀ ns : List Int, PyData.depthAll (ns.map PyData.int) ≤ 0
  | [] => by decide
  | n :: ns => by
    have h := depth_ints0 ns
    show max (PyData.int n).depth (PyData.depthAll (ns.map PyData.int)) ≤ 0
    have h1 : (PyData.int n).depth ≤ 0 := Nat.le_refl 0
    omega
theorem dp_tup {K : PySem.W.Frag} {H : Hp} {t : Addr} {j : T3} (h : AtT H t j) : Dp K H (.ref t) (tD j) := .tup (SqT.of h) (.cons (.int _) (.cons (.int _) (.cons (.int _) .nil)))
theorem dp_all {K : PySem.W.Frag} {H : Hp} : ∀ {ts : List Addr} {js : List T3}, Tps H ts js → DpAll K H (ts.map V.ref) (js.map tD)
  | _, _, .nil => .nil
  | _, _, .cons r s => .cons (dp_tup r) (dp_all s)
theorem TL.dp {K : PySem.W.Frag} {H : Hp} {p : Addr} {js : List T3} (h : TL H p js) : Dp K H (.ref p) (.list (js.map tD)) := by
  obtain ⟨ts, h1, h2⟩ := h
  exact .lst (SqL.of h1) (dp_all h2)
theorem dp_ints {K : PySem.W.Frag} {H : Hp} : ∀ ns : List Int, DpAll K H (ns.map V.int) (ns.map PyData.int)
  | [] => .nil
  | n :: ns => .cons (.int n) (dp_ints ns)
theorem IL.dp {K : PySem.W.Frag} {H : Hp} {p : Addr} {ns : List Int} (h : IL H p ns) : Dp K H (.ref p) (.list (ns.map PyData.int)) := .lst (SqL.of h) (dp_ints ns)
theorem lay_trip : ∀ js : List T3, PyData.canLayAll0 (js.map tD) = true
  | [] => rfl
  | j :: js => by
    show (PyData.canLay0 (tD j) && PyData.canLayAll0 (js.map tD)) = true
    rw [lay_trip js]
    rfl
theorem lay_ints : ∀ ns : List Int, PyData.canLayAll0 (ns.map PyData.int) = true
  | [] => rfl
  | n :: ns => by
    show (PyData.canLay0 (.int n) && PyData.canLayAll0 (ns.map PyData.int)) = true
    rw [lay_ints ns]
    rfl
theorem dep_trip : ∀ js : List T3, PyData.depthAll (js.map tD) ≤ 2
  | [] => by decide
  | j :: js => by
    have h := dep_trip js
    show max (tD j).depth (PyData.depthAll (js.map tD)) ≤ 2
    have h1 : (tD j).depth ≤ 2 := by
      show PyData.depthAll [PyData.int j.1, PyData.int j.2.1, PyData.int j.2.2] + 1 ≤ 2
      have := depth_ints0 [j.1, j.2.1, j.2.2]
      exact Nat.succ_le_succ (Nat.le_trans this (by decide))
    omega
theorem sh_trip (js : List T3) : SeqAt.shaped (.list (js.map tD)) = true := by
  unfold SeqAt.shaped
  rw [Bool.and_eq_true]
  refine ⟨lay_trip js, decide_eq_true ?_⟩
  have := dep_trip js
  show PyData.depthAll _ + 1 ≤ 64
  omega
theorem sh_ints (ns : List Int) : SeqAt.shaped (.list (ns.map PyData.int)) = true := by
  unfold SeqAt.shaped
  rw [Bool.and_eq_true]
  refine ⟨lay_ints ns, decide_eq_true ?_⟩
  have := depth_ints ns
  show PyData.depthAll _ + 1 ≤ 64
  omega
theorem eqv_trip (js : List T3) : PyData.eqv (.list (js.map tD)) (.list (js.map tD)) = true := SeqAt.eqv_refl _ (lay_trip js)
theorem eqv_tD (j k : T3) : PyData.eqv (tD j) (tD k) = decide (j = k) := by
  obtain ⟨a, b, c⟩ := j
  obtain ⟨d, e, f⟩ := k
  show ((a == d) && ((b == e) && ((c == f) && true))) = _
  rw [Bool.eq_iff_iff]
  simp
theorem eqvAll_trip : ∀ js ks : List T3, PyData.eqvAll (js.map tD) (ks.map tD) = decide (js = ks)
  | [], [] => rfl
  | [], _ :: _ => rfl
  | _ :: _, [] => rfl
  | j :: js, k :: ks => by
    show (PyData.eqv (tD j) (tD k) && PyData.eqvAll (js.map tD) (ks.map tD)) = _
    rw [eqv_tD, eqvAll_trip js ks, Bool.eq_iff_iff]
    simp
theorem eqvAll_ints : ∀ js ks : List Int, PyData.eqvAll (js.map PyData.int) (ks.map PyData.int) = decide (js = ks)
  | [], [] => rfl
  | [], _ :: _ => rfl
  | _ :: _, [] => rfl
  | j :: js, k :: ks => by
    show ((j == k) && PyData.eqvAll (js.map PyData.int) (ks.map PyData.int)) = _
    rw [eqvAll_ints js ks, Bool.eq_iff_iff]
    simp
theorem eqv_ints (js ks : List Int) : PyData.eqv (.list (js.map PyData.int)) (.list (ks.map PyData.int)) = decide (js = ks) := eqvAll_ints js ks

/-! ### values: == and != of lists -/
section
variable {K : PySem.W.Frag} {σ : St} {H H' : Hp} {ta tb te : TE} {t' : TT} {D : Ends} {tu tz : TS} {g : TG} {p q : Addr}
theorem rv_eqT {js ks : List T3} (h : TL H p js) (h' : TL H q ks) : RV (rEqD K) (.ref p) (.ref q) H (.bl (decide (js = ks))) := fun H1 e Q k =>
  ⟨_, _, (h.mono e).dp, (h'.mono e).dp, sh_trip js, sh_trip ks, by
    show Q (.bl (PyData.eqvAll (js.map tD) (ks.map tD))) H1
    rw [eqvAll_trip]; exact k H1 (Ex.refl H1)⟩
theorem rv_neT {js ks : List T3} (h : TL H p js) (h' : TL H q ks) : RV (rNeD K) (.ref p) (.ref q) H (.bl (!decide (js = ks))) := fun H1 e Q k =>
  ⟨_, _, (h.mono e).dp, (h'.mono e).dp, sh_trip js, sh_trip ks, by
    show Q (.bl (!PyData.eqvAll (js.map tD) (ks.map tD))) H1
    rw [eqvAll_trip]; exact k H1 (Ex.refl H1)⟩
theorem rv_eqN {js ks : List Int} (h : IL H p js) (h' : IL H q ks) : RV (rEqD K) (.ref p) (.ref q) H (.bl (decide (js = ks))) := fun H1 e Q k =>
  ⟨_, _, (h.mono e).dp, (h'.mono e).dp, sh_ints js, sh_ints ks, by
    show Q (.bl (PyData.eqvAll (js.map PyData.int) (ks.map PyData.int))) H1
    rw [eqvAll_ints]; exact k H1 (Ex.refl H1)⟩
theorem rv_neN {js ks : List Int} (h : IL H p js) (h' : IL H q ks) : RV (rNeD K) (.ref p) (.ref q) H (.bl (!decide (js = ks))) := fun H1 e Q k =>
  ⟨_, _, (h.mono e).dp, (h'.mono e).dp, sh_ints js, sh_ints ks, by
    show Q (.bl (!PyData.eqvAll (js.map PyData.int) (ks.map PyData.int))) H1
    rw [eqvAll_ints]; exact k H1 (Ex.refl H1)⟩

/-! ### what is walked -/
theorem for_TL {js : List T3} (Pv : Nat → St → Hp → Prop) (h0 : Pv 0 σ H) (hl : ∀ i σ H, i ≤ js.length → Pv i σ H → TL H p js)
    (hs : ∀ i q t σ H, js[i]? = some q → AtT H t q → Pv i σ H → g (.ref t) σ H fun σ2 H2 => tu { D with nx := Pv (i + 1), ct := Pv (i + 1), bk := D.nx } σ2 H2) (hd : ∀ σ H, Pv js.length σ H → D.nx σ H) :
    ∃ W : Nat → Nat → St → Hp → Prop, (∃ m, W 0 m σ H) ∧ ∀ i m σ H, W i m σ H →
      ((Itl K p).stop i H ∧ D.nx σ H) ∨ ((Itl K p).go i H ∧ ∃ N : St → Hp → Prop, (∀ σ' H', N σ' H' → ∃ m', m' < m ∧ W (i + 1) m' σ' H') ∧ ∀ x H', (Itl K p).yld i H x H' → g x σ H' fun σ2 H2 => tu { D with nx := N, ct := N, bk := D.nx } σ2 H2) := by
  refine ⟨fun i m σ H => m = js.length - i ∧ i ≤ js.length ∧ Pv i σ H, ⟨js.length, by simp, Nat.zero_le _, h0⟩, ?_⟩
  rintro i m σ H ⟨rfl, hi, pv⟩
  have q := hl i σ H hi pv
  by_cases hlt : i < js.length
  · obtain ⟨t, ts, h1, h2, a⟩ := q.atI (List.getElem?_eq_getElem hlt)
    refine .inr ⟨⟨_, _, SqL.of h1, h2⟩, Pv (i + 1), fun σ' H' p' => ⟨js.length - (i + 1), by omega, rfl, hlt, p'⟩, fun x H' y => ?_⟩
    obtain ⟨e, y⟩ := y
    subst e
    have z := (y _ (SqL.of h1)).symm.trans h2
    cases z
    exact hs i _ t σ _ (List.getElem?_eq_getElem hlt) a pv
  · have e : i = js.length := by omega
    subst e
    obtain ⟨xs, h1, h2⟩ := q.sq (K := K)
    exact .inl ⟨⟨xs, h1, by omega⟩, hd σ H pv⟩
theorem s_forTL {js : List T3} {tl : TE} (h : Ev tl σ H (.ref p)) (hx : TL H p js) (Pv : Nat → St → Hp → Prop) (h0 : ∀ H1, Ex H H1 → Pv 0 σ H1) (hl : ∀ i σ H, i ≤ js.length → Pv i σ H → TL H p js)
    (hs : ∀ i q t σ H, js[i]? = some q → AtT H t q → Pv i σ H → g (.ref t) σ H fun σ2 H2 => tu { D with nx := Pv (i + 1), ct := Pv (i + 1), bk := D.nx } σ2 H2) (hd : ∀ σ H, Pv js.length σ H → D.nx σ H) : tFor (iList K tl) g tu D σ H :=
  h H (Ex.refl H) _ fun H1 e => ⟨p, rfl, (by obtain ⟨xs, h1, _⟩ := (hx.mono e).sq (K := K); exact ⟨xs, h1⟩), for_TL Pv (h0 H1 e) hl hs hd⟩
theorem q_forTL {js : List T3} {tl : TE} (h : Ev tl σ H (.ref p)) (hx : TL H p js) (Pv : Nat → St → Hp → Prop) (h0 : ∀ H1, Ex H H1 → Pv 0 σ H1) (hl : ∀ i σ H, i ≤ js.length → Pv i σ H → TL H p js)
    (hs : ∀ i q t σ H, js[i]? = some q → AtT H t q → Pv i σ H → g (.ref t) σ H fun σ2 H2 => tu { D with nx := Pv (i + 1), ct := Pv (i + 1), bk := tz D } σ2 H2) (hd : ∀ σ H, Pv js.length σ H → tz D σ H) : tSeq (tFor (iList K tl) g tu) tz D σ H :=
  s_forTL (D := { D with nx := tz D }) h hx Pv h0 hl hs hd
/-- a target of three names -/
theorem g_three {a b c : Nat} {t : Addr} {j : T3} {Q : St → Hp → Prop} (ht : AtT H t j) (h : Q (((σ.set a (some (.int j.1))).set b (some (.int j.2.1))).set c (some (.int j.2.2))) H) :
    gTup K 3 (gCons (gName a) (gCons (gName b) (gCons (gName c) gNil))) (.ref t) σ H Q :=
  ⟨t, tv j, rfl, SqT.of ht, rfl, _, _, rfl, _, _, rfl, _, _, rfl, rfl, h⟩

/-! ### comprehensions over a list of triples -/
theorem filter_snoc {js : List T3} {i : Nat} {q : T3} (f : T3 → Bool) (h : js[i]? = some q) : (js.take (i + 1)).filter f = (js.take i).filter f ++ if f q = true then [q] else [] := by
  rw [List.take_add_one, h, List.filter_append]
  congr 1
  show [q].filter f = _
  rw [List.filter_cons]
  rfl
theorem filter_take_le (js : List T3) (f : T3 → Bool) (i : Nat) : ((js.take i).filter f).length ≤ js.length :=
  Nat.le_trans (List.length_filter_le _ _) (by rw [List.length_take]; exact Nat.min_le_right _ _)
theorem el_lcTL {js : List T3} {tl : TE} {vs : List Nat} (f : T3 → Bool) (v : T3 → V) (s2 : T3 → Addr → St) (h : Ev tl σ H (.ref p)) (hx : TL H p js) (hz : js.length ≤ 40000)
    (hg : ∀ q t H1 (Q : St → Hp → Prop), AtT H1 t q → Q (s2 q t) H1 → g (.ref t) (wipe σ vs) H1 Q) (hw : ∀ q t, wipe (s2 q t) vs = wipe σ vs)
    (ht : ∀ q t H1, q ∈ js → Ex H H1 → AtT H1 t q → EvT t' (s2 q t) H1 (f q)) (he : ∀ q t H1, q ∈ js → Ex H H1 → AtT H1 t q → f q = true → Ev te (s2 q t) H1 (v q)) :
    EvL (tLc (iList K tl) g t' te vs) σ H ((js.filter f).map v) := fun H0 e Q k => h H0 e _ fun H1 e1 => by
  obtain ⟨ts, h1, h2⟩ := hx.mono (e.trans e1)
  refine ⟨p, rfl, ⟨_, SqL.of h1⟩, fun Dl hD => ?_⟩
  have hlen : (ts.map V.ref).length = js.length := by rw [List.length_map, h2.len]
  refine lc_list (K := K) (xs := ts.map V.ref) (fun i H' => Ex H1 H' ∧ H' Dl = some (.lst (((js.take i).filter f).map v))) ⟨Ex.new hD, upd_same⟩ (fun i H' _ p => SqL.of (p.1 _ _ h1)) (fun i x H' hi pv => ?_) fun H' pv => ?_
  · have hlt : i < js.length := by rw [← hlen]; exact (List.getElem?_eq_some_iff.mp hi).1
    obtain ⟨t, e2, a⟩ := h2.get (List.getElem?_eq_getElem hlt)
    rw [List.getElem?_map, e2] at hi
    cases hi
    obtain ⟨p1, p2⟩ := pv
    have hm : js[i] ∈ js := List.getElem_mem hlt
    have eb := (e.trans e1).trans p1
    refine hg js[i] t H' _ (p1 _ _ a) ⟨hw _ _, ?_⟩
    refine ht js[i] t H' hm eb (p1 _ _ a) H' (Ex.refl _) _ fun H3 e3 => ?_
    have hs := filter_snoc f (List.getElem?_eq_getElem hlt)
    cases hf : f js[i] with
    | true =>
      show te _ H3 _
      refine he js[i] t H3 hm (eb.trans e3) (e3 _ _ (p1 _ _ a)) hf H3 (Ex.refl _) _ fun H4 e4 => ?_
      refine ⟨_, e4 _ _ (e3 _ _ p2), sz_lt ?_, Ex.mut ((p1.trans e3).trans e4) hD, ?_⟩
      · rw [List.length_map]
        have := filter_take_le js f i
        omega
      · rw [hs, hf, if_pos rfl, List.map_append]
        exact upd_same
    | false =>
      show Ex H1 H3 ∧ _
      refine ⟨p1.trans e3, ?_⟩
      rw [hs, hf]
      show H3 Dl = some (.lst ((((js.take i).filter f) ++ []).map v))
      rw [List.append_nil]
      exact e3 _ _ p2
  · obtain ⟨p1, p2⟩ := pv
    rw [hlen, List.take_length] at p2
    exact k Dl H' (fresh_back e1 hD) (e1.trans p1) p2
/-- a new list of triples -/
def EvTL (te : TE) (σ : St) (H : Hp) (js : List T3) : Prop := ∀ H1, Ex H H1 → ∀ Q : VK, (∀ p H2, H1 p = none → Ex H1 H2 → TL H2 p js → Q (.ref p) H2) → te σ H1 Q
theorem EvTL.mono {js : List T3} (e : Ex H H') (h : EvTL te σ H js) : EvTL te σ H' js := fun H1 a Q q => h H1 (e.trans a) Q q
theorem etl_lc {js : List T3} {tl : TE} {vs : List Nat} (f : T3 → Bool) (v : T3 → T3) (s2 : T3 → Addr → St) (h : Ev tl σ H (.ref p)) (hx : TL H p js) (hz : js.length ≤ 40000)
    (hg : ∀ q t H1 (Q : St → Hp → Prop), AtT H1 t q → Q (s2 q t) H1 → g (.ref t) (wipe σ vs) H1 Q) (hw : ∀ q t, wipe (s2 q t) vs = wipe σ vs)
    (ht : ∀ q t H1, q ∈ js → Ex H H1 → AtT H1 t q → EvT t' (s2 q t) H1 (f q)) (he : ∀ q t H1, q ∈ js → Ex H H1 → AtT H1 t q → f q = true → EvU te (s2 q t) H1 (tv (v q)) ∨ (v q = q ∧ Ev te (s2 q t) H1 (.ref t))) :
    EvTL (tLc (iList K tl) g t' te vs) σ H ((js.filter f).map v) := fun H0 e Q k => h H0 e _ fun H1 e1 => by
  obtain ⟨ts, h1, h2⟩ := hx.mono (e.trans e1)
  refine ⟨p, rfl, ⟨_, SqL.of h1⟩, fun Dl hD => ?_⟩
  have hlen : (ts.map V.ref).length = js.length := by rw [List.length_map, h2.len]
  refine lc_list (K := K) (xs := ts.map V.ref) (fun i H' => Ex H1 H' ∧ ∃ us : List Addr, H' Dl = some (.lst (us.map V.ref)) ∧ Tps H' us (((js.take i).filter f).map v)) ⟨Ex.new hD, [], upd_same, .nil⟩ (fun i H' _ p => SqL.of (p.1 _ _ h1)) (fun i x H' hi pv => ?_) fun H' pv => ?_
  · have hlt : i < js.length := by rw [← hlen]; exact (List.getElem?_eq_some_iff.mp hi).1
    obtain ⟨t, e2, a⟩ := h2.get (List.getElem?_eq_getElem hlt)
    rw [List.getElem?_map, e2] at hi
    cases hi
    obtain ⟨p1, us, p2, p3⟩ := pv
    have hm : js[i] ∈ js := List.getElem_mem hlt
    have eb := (e.trans e1).trans p1
    refine hg js[i] t H' _ (p1 _ _ a) ⟨hw _ _, ?_⟩
    refine ht js[i] t H' hm eb (p1 _ _ a) H' (Ex.refl _) _ fun H3 e3 => ?_
    have hs := filter_snoc f (List.getElem?_eq_getElem hlt)
    have hul : us.length < 100000 := by
      rw [p3.len, List.length_map]
      have := filter_take_le js f i
      omega
    cases hf : f js[i] with
    | true =>
      show te _ H3 _
      have fin : ∀ (u : Addr) (H4 : Hp), Ex H3 H4 → AtT H4 u (v js[i]) → ∃ acc, H4 Dl = some (.lst acc) ∧ acc.length < sizeLine ∧ (Ex H1 (upd H4 Dl (.lst (acc ++ [V.ref u]))) ∧ ∃ us' : List Addr, (upd H4 Dl (.lst (acc ++ [V.ref u]))) Dl = some (.lst (us'.map V.ref)) ∧ Tps (upd H4 Dl (.lst (acc ++ [V.ref u]))) us' (((js.take (i + 1)).filter f).map v)) := fun u H4 e4 hu => by
        have hDl := e4 _ _ (e3 _ _ p2)
        refine ⟨_, hDl, sz_lt (by rw [List.length_map]; exact hul), Ex.mut ((p1.trans e3).trans e4) hD, us ++ [u], ?_, ?_⟩
        · rw [List.map_append]; exact upd_same
        · rw [hs, hf, if_pos rfl, List.map_append]
          exact Tps.append ((p3.mono (e3.trans e4)).keep (tup_upd hDl)) (.cons (tup_upd hDl _ _ hu) .nil)
      rcases he js[i] t H3 hm (eb.trans e3) (e3 _ _ (p1 _ _ a)) hf with z | ⟨z1, z2⟩
      · exact z H3 (Ex.refl _) _ fun u H4 _ e4 hu => fin u H4 e4 hu
      · exact z2 H3 (Ex.refl _) _ fun H4 e4 => fin t H4 e4 (by rw [z1]; exact e4 _ _ (e3 _ _ (p1 _ _ a)))
    | false =>
      show Ex H1 H3 ∧ _
      refine ⟨p1.trans e3, us, e3 _ _ p2, ?_⟩
      rw [hs, hf]
      show Tps H3 us ((((js.take i).filter f) ++ []).map v)
      rw [List.append_nil]
      exact p3.mono e3
  · obtain ⟨p1, us, p2, p3⟩ := pv
    rw [hlen, List.take_length] at p3
    exact k Dl H' (fresh_back e1 hD) (e1.trans p1) ⟨us, p2, p3⟩
theorem s_asgTL {i : Nat} {js : List T3} (h : EvTL te σ H js) (k : ∀ p H1, H p = none → Ex H H1 → TL H1 p js → D.nx (σ.set i (some (.ref p))) H1) : tAsg te (gName i) D σ H := h H (Ex.refl H) _ fun p H1 hp e h1 => k p H1 hp e h1
theorem q_asgTL {i : Nat} {js : List T3} (h : EvTL te σ H js) (k : ∀ p H1, H p = none → Ex H H1 → TL H1 p js → tz D (σ.set i (some (.ref p))) H1) : tSeq (tAsg te (gName i)) tz D σ H := s_asgTL (D := { D with nx := tz D }) h k
theorem s_retTL {js : List T3} (h : EvTL te σ H js) (k : ∀ p H1, H p = none → Ex H H1 → TL H1 p js → D.rt (.ref p) H1) : tRet te D σ H := h H (Ex.refl H) _ k
theorem etl_list {js : List T3} (ha : Ev ta σ H (.ref p)) (h : TL H p js) : EvTL (tCB (rListS K) (tCons ta tNil)) σ H js := fun H1 e Q q =>
  ha H1 e _ fun H2 e2 => by
    obtain ⟨ts, h1, h2⟩ := h.mono (e.trans e2)
    exact ⟨p, _, rfl, Or.inl (SqL.of h1), fun l hl => q l _ (fresh_back e2 hl) (e2.trans (Ex.new hl)) ⟨ts, upd_same, h2.mono (Ex.new hl)⟩⟩
end
end DL
namespace DL
open PySem PySem.Spec PyProof.Rows L2 Evl
theorem cut_take (xs : List V) (n : Nat) : cutV xs none (some (n : Int)) = xs.take n := by
  unfold cutV
  rw [HT.sIx_none, HT.sIx_nat]
  show (xs.drop 0).take (min n xs.length - 0) = _
  rw [List.drop_zero, Nat.sub_zero]
  rcases Nat.le_total n xs.length with h | h
  · rw [Nat.min_eq_left h]
  · rw [Nat.min_eq_right h, List.take_of_length_le (Nat.le_refl _), List.take_of_length_le h]
theorem cut_drop (xs : List V) (n : Nat) : cutV xs (some (n : Int)) none = xs.drop n := by
  unfold cutV
  rw [HT.sIx_none, HT.sIx_nat]
  rcases Nat.le_total n xs.length with h | h
  · rw [Nat.min_eq_left h]
    exact List.take_of_length_le (by rw [List.length_drop]; exact Nat.le_refl _)
  · rw [Nat.min_eq_right h, List.drop_of_length_le h, List.drop_of_length_le (Nat.le_refl _), List.take_nil]
theorem cut_init (xs : List V) : cutV xs none (some (-1)) = xs.dropLast := by
  unfold cutV
  rw [HT.sIx_none]
  have e : HT.sIx xs.length xs.length (some (-1)) = xs.length - 1 := by
    unfold HT.sIx
    simp
    omega
  rw [e, List.dropLast_eq_take]
  rfl
theorem t3_0 (j : T3) : atI (tv j) 0 = some (.int j.1) := atI_nat (j := 0) rfl
theorem t3_1 (j : T3) : atI (tv j) 1 = some (.int j.2.1) := atI_nat (j := 1) rfl
theorem t3_2 (j : T3) : atI (tv j) 2 = some (.int j.2.2) := atI_nat (j := 2) rfl
/-- all but the list at l is kept, tuples in any case -/
structure Mod (l : Addr) (H H1 : Hp) : Prop where
  but : ∀ a o, a ≠ l → H a = some o → H1 a = some o
  tup : ∀ t zs, H t = some (.tup zs) → H1 t = some (.tup zs)
theorem Mod.upd {l : Addr} {H : Hp} {xs ys : List V} (h : H l = some (.lst xs)) : Mod l H (L2.upd H l (.lst ys)) := ⟨fun a o ne e => by rw [upd_ne ne]; exact e, tup_upd h⟩
theorem Mod.ex {l : Addr} {H H1 : Hp} (e : Ex H H1) : Mod l H H1 := ⟨fun a o _ h => e a o h, fun t zs h => e _ _ h⟩
theorem Mod.trans {l : Addr} {H H1 H2 : Hp} (a : Mod l H H1) (b : Mod l H1 H2) : Mod l H H2 := ⟨fun c o ne h => b.but c o ne (a.but c o ne h), fun t zs h => b.tup t zs (a.tup t zs h)⟩
theorem Mod.base {l : Addr} {H0 H H1 : Hp} (m : Mod l H H1) (e : Ex H0 H) (n : H0 l = none) : Ex H0 H1 := fun a o h => m.but a o (ne_of_none h n) (e a o h)
theorem Mod.tps {l : Addr} {H H1 : Hp} (m : Mod l H H1) {ts : List Addr} {js : List T3} (h : Tps H ts js) : Tps H1 ts js := h.keep m.tup
theorem Mod.tl {l p : Addr} {H H1 : Hp} (m : Mod l H H1) {js : List T3} (h : TL H p js) (ne : p ≠ l) : TL H1 p js := by
  obtain ⟨ts, h1, h2⟩ := h
  exact ⟨ts, m.but _ _ ne h1, m.tps h2⟩
theorem Mod.il {l p : Addr} {H H1 : Hp} (m : Mod l H H1) {ns : List Int} (h : IL H p ns) (ne : p ≠ l) : IL H1 p ns := m.but _ _ ne h
section
variable {K : PySem.W.Frag} {σ : St} {H H' : Hp} {ta tb te ti : TE} {D : Ends} {tu tz : TS} {g : TG} {p q l : Addr} {js ks : List T3} {j : T3} {ns : List Int}
theorem etl_take {n : Nat} (h : Ev te σ H (.ref p)) (hi : Ev ti σ H (.int (n : Int))) (hp : TL H p js) : EvTL (tSl (rSlL K) te tNoPart (tPart ti)) σ H (js.take n) := fun H1 e Q k => by
  obtain ⟨ts, h1, h2⟩ := hp.mono e
  refine el_sl (K := K) (h.mono e) eo_none (eo_some (hi.mono e)) (SqL.of h1) H1 (Ex.refl _) Q fun d H2 hd e2 hl => k d H2 hd e2 ⟨ts.take n, ?_, (h2.mono e2).take n⟩
  rw [hl, cut_take, List.map_take]
theorem etl_drop {n : Nat} (h : Ev te σ H (.ref p)) (hi : Ev ti σ H (.int (n : Int))) (hp : TL H p js) : EvTL (tSl (rSlL K) te (tPart ti) tNoPart) σ H (js.drop n) := fun H1 e Q k => by
  obtain ⟨ts, h1, h2⟩ := hp.mono e
  refine el_sl (K := K) (h.mono e) (eo_some (hi.mono e)) eo_none (SqL.of h1) H1 (Ex.refl _) Q fun d H2 hd e2 hl => k d H2 hd e2 ⟨ts.drop n, ?_, (h2.mono e2).drop n⟩
  rw [hl, cut_drop, List.map_drop]
theorem etl_cat (ha : EvTL ta σ H js) (hb : EvTL tb σ H ks) (hz : js.length + ks.length ≤ 100000) : EvTL (tOp rCat ta tb) σ H (js ++ ks) := fun H1 e Q k =>
  ha H1 e _ fun a H2 na e2 pa => hb H2 (e.trans e2) _ fun b H3 nb e3 pb => by
    obtain ⟨ts, h1, h2⟩ := pa.mono e3
    obtain ⟨us, g1, g2⟩ := pb
    refine ⟨a, b, _, _, rfl, rfl, h1, g1, sz_of (by rw [List.length_map, List.length_map, h2.len, g2.len]; exact hz), fun d nd => k d _ (fresh_back (e2.trans e3) nd) ((e2.trans e3).trans (Ex.new nd)) ⟨ts ++ us, ?_, (h2.append g2).mono (Ex.new nd)⟩⟩
    rw [upd_same, List.map_append]
theorem etl_one (h : EvU te σ H (tv j)) : EvTL (tLst (tCons te tNil)) σ H [j] := fun H1 e Q k =>
  h H1 e _ fun t H2 nt e2 ht => ⟨sz_of (show 1 ≤ 100000 by decide), fun d nd => k d _ (fresh_back e2 nd) (e2.trans (Ex.new nd)) ⟨[t], upd_same, .cons (Ex.new nd _ _ ht) .nil⟩⟩
theorem etl_oneR {t : Addr} (h : Ev te σ H (.ref t)) (a : AtT H t j) : EvTL (tLst (tCons te tNil)) σ H [j] := fun H1 e Q k =>
  h H1 e _ fun H2 e2 => ⟨sz_of (show 1 ≤ 100000 by decide), fun d nd => k d _ (fresh_back e2 nd) (e2.trans (Ex.new nd)) ⟨[t], upd_same, .cons (Ex.new nd _ _ (e2 _ _ (e _ _ a))) .nil⟩⟩
theorem etl_nil : EvTL (tLst tNil) σ H [] := fun H1 e Q k => ⟨sz_of (by decide), fun d nd => k d _ nd (Ex.new nd) ⟨[], upd_same, .nil⟩⟩
theorem etl_is (h : EvTL te σ H js) (e : js = ks) : EvTL te σ H ks := e ▸ h
theorem eu_three {a b c : Int} (ha : Ev ta σ H (.int a)) (hb : Ev tb σ H (.int b)) (hc : Ev te σ H (.int c)) : EvU (tTup (tCons ta (tCons tb (tCons te tNil)))) σ H (tv (a, b, c)) :=
  eu_tup (ea_cons ha (ea_cons hb (ea_cons hc ea_nil))) (show 3 ≤ 100000 by decide)
theorem eu_is {xs ys : List V} (h : EvU te σ H xs) (e : xs = ys) : EvU te σ H ys := e ▸ h
theorem s_appT (hl : TL H l js) (ha : Ev ta σ H (.ref l)) (h : EvU te σ H (tv j)) (hz : js.length < 100000) (k : ∀ H1, Mod l H H1 → TL H1 l (js ++ [j]) → D.nx σ H1) :
    tDrop (tBM K "list" rAppend ta (tCons te tNil)) D σ H := by
  obtain ⟨ts, h1, h2⟩ := hl
  refine s_appU h1 ha h (by rw [List.length_map, h2.len]; exact hz) fun t H1 nt e ht => ?_
  have m : Mod l H (upd H1 l (.lst (ts.map V.ref ++ [.ref t]))) := (Mod.ex e).trans (Mod.upd (e _ _ h1))
  refine k _ m ⟨ts ++ [t], ?_, (m.tps h2).append (.cons (tup_upd (e _ _ h1) _ _ ht) .nil)⟩
  rw [upd_same, List.map_append]
  rfl
theorem q_appT (hl : TL H l js) (ha : Ev ta σ H (.ref l)) (h : EvU te σ H (tv j)) (hz : js.length < 100000) (k : ∀ H1, Mod l H H1 → TL H1 l (js ++ [j]) → tz D σ H1) :
    tSeq (tDrop (tBM K "list" rAppend ta (tCons te tNil))) tz D σ H := s_appT (D := { D with nx := tz D }) hl ha h hz k
/-- sums, leasts, greatests of new lists -/
theorem ev_sumN (h : EvL te σ H (ns.map V.int)) : Ev (tCB (rSum K) (tCons te tNil)) σ H (.int ns.sum) := fun H1 e Q k =>
  h H1 e _ fun a H2 _ e2 hl => ⟨a, ns, rfl, SqL.of hl, k H2 e2⟩
theorem ev_minN (h : EvL te σ H (ns.map V.int)) (h0 : ns ≠ []) : Ev (tCB (rMin K) (tCons te tNil)) σ H (.int (lmin ns)) := fun H1 e Q k =>
  h H1 e _ fun a H2 _ e2 hl => ⟨a, ns, rfl, SqL.of hl, List.length_pos_iff.mpr h0, fun m hm hle => by
    rw [lmin_uniq hm hle]; exact k H2 e2⟩
theorem ev_minD {d : Int} (h : EvL te σ H (ns.map V.int)) (hd : ∀ H1, Ex H H1 → Ev ti σ H1 (.int d)) : Ev (tCKw (rMinD K) (tCons te tNil) (tCons ti tNil)) σ H (.int (if ns = [] then d else lmin ns)) := fun H1 e Q k =>
  h H1 e _ fun a H2 _ e2 hl => hd H2 (e.trans e2) H2 (Ex.refl _) _ fun H3 e3 => ⟨a, ns, d, rfl, rfl, SqL.of (e3 _ _ hl), fun z => by
      have := k H3 (e2.trans e3); rw [if_pos z] at this; exact this, fun z m hm hle => by
      have := k H3 (e2.trans e3); rw [if_neg z] at this
      rw [lmin_uniq hm hle]; exact this⟩
theorem ev_allN {bs : List Bool} (h : EvL te σ H (bs.map V.bl)) : Ev (tCB (rAll K) (tCons te tNil)) σ H (.bl (bs.all id)) := fun H1 e Q k =>
  h H1 e _ fun a H2 _ e2 hl => ⟨a, bs, rfl, SqL.of hl, k H2 e2⟩
theorem ev_anyI (h : Ev te σ H (.ref p)) (hl : IL H p ns) : Ev (tCB (rAnyI K) (tCons te tNil)) σ H (.bl (ns.any fun n => n != 0)) := fun H1 e Q k =>
  h H1 e _ fun H2 e2 => ⟨p, ns, rfl, SqL.of (hl.mono (e.trans e2)), k H2 e2⟩
theorem ev_min2 {a b : Int} (ha : Ev ta σ H (.int a)) (hb : Ev tb σ H (.int b)) {r : List V → Hp → VK → Prop} (hr : ∀ H1 (Q : VK), Q (.int (if b < a then b else a)) H1 → r [.int a, .int b] H1 Q) : Ev (tCB r (tCons ta (tCons tb tNil))) σ H (.int (min a b)) := fun H1 e Q k =>
  ha H1 e _ fun H2 e2 => hb H2 (e.trans e2) _ fun H3 e3 => hr H3 Q (by
    have := k H3 (e2.trans e3)
    rw [Int.min_def] at this
    by_cases c : b < a
    · rw [if_pos c]; rw [if_neg (by omega)] at this; exact this
    · rw [if_neg c]; rw [if_pos (by omega)] at this; exact this)
theorem ev_mx2 {a b : Int} (ha : Ev ta σ H (.int a)) (hb : Ev tb σ H (.int b)) {r : List V → Hp → VK → Prop} (hr : ∀ H1 (Q : VK), Q (.int (if b > a then b else a)) H1 → r [.int a, .int b] H1 Q) : Ev (tCB r (tCons ta (tCons tb tNil))) σ H (.int (max a b)) := fun H1 e Q k =>
  ha H1 e _ fun H2 e2 => hb H2 (e.trans e2) _ fun H3 e3 => hr H3 Q (by
    have := k H3 (e2.trans e3)
    rw [Int.max_def] at this
    by_cases c : b > a
    · rw [if_pos c]; rw [if_pos (by omega)] at this; exact this
    · rw [if_neg c]
      by_cases d : a ≤ b
      · rw [if_pos d] at this; rw [show a = b by omega]; exact this
      · rw [if_neg d] at this; exact this)
/-- len of a tracked list -/
theorem ev_lenT (h : Ev te σ H (.ref p)) (hp : TL H p js) : Ev (tCB (rLenS K) (tCons te tNil)) σ H (.int (js.length : Int)) := by
  obtain ⟨ts, h1, h2⟩ := hp
  have := ev_len (K := K) h (SqL.of h1)
  rw [List.length_map, h2.len] at this
  exact this
theorem ev_lenI (h : Ev te σ H (.ref p)) (hp : IL H p ns) : Ev (tCB (rLenS K) (tCons te tNil)) σ H (.int (ns.length : Int)) := by
  have := ev_len (K := K) h (SqL.of hp)
  rw [List.length_map] at this
  exact this
theorem ev_lenU {xs : List V} (h : Ev te σ H (.ref p)) (hp : H p = some (.tup xs)) : Ev (tCB (rLenS K) (tCons te tNil)) σ H (.int (xs.length : Int)) := fun H1 e Q q =>
  h H1 e _ fun H2 e2 => ⟨p, xs, rfl, Or.inr (st_of (e2 _ _ (e _ _ hp))), q H2 e2⟩
/-- an item of a list of whole numbers -/
theorem il_at {i : Nat} (h : i < ns.length) : (ns.map V.int)[i]? = some (.int (ns.getD i 0)) := by
  rw [List.getElem?_map, List.getElem?_eq_getElem h, getD_lt h]
  rfl
theorem ev_ixI {i : Nat} (ha : Ev ta σ H (.ref p)) (hi : Ev ti σ H (.int (i : Int))) (hp : IL H p ns) (h : i < ns.length) : Ev (tOp (rIxL K) ta ti) σ H (.int (ns.getD i 0)) :=
  ev_op ha hi (rv_ixL (SqL.of hp) (atI_nat (il_at h)))
/-- a job's field by its place: jobs[i][0], .. -/
theorem ev_field {i : Nat} {z : Int} {v : V} (hj : js[i]? = some j) (ha : Ev ta σ H (.ref p)) (hi : Ev ti σ H (.int (i : Int))) (hp : TL H p js) (hz : Ev te σ H (.int z)) (hv : atI (tv j) z = some v) : Ev (tOp (rIxT K) (tOp (rIxL K) ta ti) te) σ H v := by
  obtain ⟨t, ts, h1, h2, a⟩ := hp.atI hj
  exact ev_op (ev_op ha hi (rv_ixL (SqL.of h1) (atI_nat h2))) hz (rv_ixT (SqT.of a) hv)
theorem ev_fld1 {t : Addr} {z : Int} {v : V} (ha : Ev ta σ H (.ref t)) (h : AtT H t j) (hz : Ev te σ H (.int z)) (hv : atI (tv j) z = some v) : Ev (tOp (rIxT K) ta te) σ H v := ev_op ha hz (rv_ixT (SqT.of h) hv)
/-- calls by their promise -/
theorem s_retC {sp : Sp} {dvs vs : List V} {E : XK} {ta : TA} (h : EvA ta σ H vs) (k : ∀ H1, Ex H H1 → sp (vs ++ dvs) H1 D.rt E) : tRet (tCall sp dvs E ta) D σ H := h H (Ex.refl H) _ k
theorem s_asgC {i : Nat} {sp : Sp} {dvs vs : List V} {E : XK} {ta : TA} (h : EvA ta σ H vs) (k : ∀ H1, Ex H H1 → sp (vs ++ dvs) H1 (fun x H2 => D.nx (σ.set i (some x)) H2) E) : tAsg (tCall sp dvs E ta) (gName i) D σ H := h H (Ex.refl H) _ k
theorem q_asgC {i : Nat} {sp : Sp} {dvs vs : List V} {E : XK} {ta : TA} (h : EvA ta σ H vs) (k : ∀ H1, Ex H H1 → sp (vs ++ dvs) H1 (fun x H2 => tz D (σ.set i (some x)) H2) E) : tSeq (tAsg (tCall sp dvs E ta) (gName i)) tz D σ H := h H (Ex.refl H) _ k
theorem s_dropC {sp : Sp} {dvs vs : List V} {E : XK} {ta : TA} (h : EvA ta σ H vs) (k : ∀ H1, Ex H H1 → sp (vs ++ dvs) H1 (fun _ H2 => D.nx σ H2) E) : tDrop (tCall sp dvs E ta) D σ H := h H (Ex.refl H) _ k
theorem q_dropC {sp : Sp} {dvs vs : List V} {E : XK} {ta : TA} (h : EvA ta σ H vs) (k : ∀ H1, Ex H H1 → sp (vs ++ dvs) H1 (fun _ H2 => tz D σ H2) E) : tSeq (tDrop (tCall sp dvs E ta)) tz D σ H := h H (Ex.refl H) _ k
end
end DL
namespace DL
open PySem PySem.Spec PyProof.Rows L2 Evl
section
variable {K : PySem.W.Frag} {σ : St} {H H' : Hp} {ta tb te ti : TE} {t' : TT} {D : Ends} {tu tz : TS} {g : TG} {p q l : Addr} {js ks : List T3} {j : T3} {ns : List Int}
theorem ev_type {x : V} {T : String} (h : Ev te σ H x) (ty : ∀ H1, Ex H H1 → TyB K H1 x T) : Ev (tCB (rTyp K) (tCons te tNil)) σ H (.ty T) := fun H1 e Q k =>
  h H1 e _ fun H2 e2 => ⟨x, T, rfl, ty H2 (e.trans e2), k H2 e2⟩
theorem rv_eqTy {a b : String} (ha : SmallTy a) (hb : SmallTy b) : RV rEqTy (.ty a) (.ty b) H (.bl (decide (a = b))) := fun H1 e Q k => ⟨a, b, rfl, rfl, ha, hb, k H1 (Ex.refl _)⟩
theorem rv_neTy {a b : String} (ha : SmallTy a) (hb : SmallTy b) : RV rNeTy (.ty a) (.ty b) H (.bl (!decide (a = b))) := fun H1 e Q k => ⟨a, b, rfl, rfl, ha, hb, k H1 (Ex.refl _)⟩
theorem st_int : SmallTy "int" := .inl rfl
theorem st_bool : SmallTy "bool" := .inr (.inl rfl)
theorem st_str : SmallTy "str" := .inr (.inr (.inl rfl))
theorem st_none : SmallTy "NoneType" := .inr (.inr (.inr (.inl rfl)))
theorem st_list : SmallTy "list" := .inr (.inr (.inr (.inr (.inl rfl))))
theorem st_tup : SmallTy "tuple" := .inr (.inr (.inr (.inr (.inr rfl))))
/-- isinstance(x, T), T built in -/
theorem ev_isi {x : V} {T T' : String} {b : Bool} (h : Ev te σ H x) (ty : ∀ H1, Ex H H1 → TyOf K H1 x (.type T)) (hk : PySem.W.kitOne K (.type T) (.type T') = some b) (hc : Ev tb σ H (.ty T')) : Ev (tCB (rIsi K) (tCons te (tCons tb tNil))) σ H (.bl b) := fun H1 e Q k =>
  h H1 e _ fun H2 e2 => hc H2 (e.trans e2) _ fun H3 e3 => ⟨x, .ty T', .type T, .type T', b, rfl, .ty T', .base (ty H3 ((e.trans e2).trans e3)), hk, k H3 (e2.trans e3)⟩
/-- a comprehension over a tuple, no test -/
theorem el_lcU {xs : List V} {tl : TE} {jj : Nat} {vs : List Nat} (v : V → V) (h : Ev tl σ H (.ref p)) (hx : SqT K H p xs) (hz : xs.length ≤ 40000) (hw : ∀ x, wipe ((wipe σ vs).set jj (some x)) vs = wipe σ vs)
    (he : ∀ x H1, x ∈ xs → Ex H H1 → Ev te ((wipe σ vs).set jj (some x)) H1 (v x)) : EvL (tLc (iTup K tl) (gName jj) tYes te vs) σ H (xs.map v) := fun H0 e Q k => h H0 e _ fun H1 e1 => by
  have hx1 := ex_t (e.trans e1) hx
  refine ⟨p, rfl, ⟨_, hx1⟩, fun Dl hD => ?_⟩
  refine lc_tup (K := K) (xs := xs) (fun i H' => Ex H1 H' ∧ H' Dl = some (.lst ((xs.take i).map v))) ⟨Ex.new hD, upd_same⟩ (fun i H' _ p => ex_t p.1 hx1) (fun i x H' hi pv => ?_) fun H' pv => ?_
  · obtain ⟨p1, p2⟩ := pv
    refine ⟨hw x, ?_⟩
    have hlt : i < xs.length := (List.getElem?_eq_some_iff.mp hi).1
    show te _ H' _
    refine he x H' (List.mem_of_getElem? hi) ((e.trans e1).trans p1) H' (Ex.refl _) _ fun H4 e4 => ?_
    refine ⟨_, e4 _ _ p2, sz_lt (by rw [List.length_map, List.length_take]; omega), Ex.mut (p1.trans e4) hD, ?_⟩
    rw [List.take_add_one, hi, List.map_append]
    exact upd_same
  · obtain ⟨p1, p2⟩ := pv
    rw [List.take_length] at p2
    exact k Dl H' (fresh_back e1 hD) (e1.trans p1) p2
/-- for i, x in enumerate(l) -/
theorem s_forEn {xs : List V} {tl : TE} (h : Ev tl σ H (.ref p)) (hx : SqL K H p xs) (Pv : Nat → St → Hp → Prop) (h0 : ∀ H1, Ex H H1 → Pv 0 σ H1) (hl : ∀ i σ H, i ≤ xs.length → Pv i σ H → SqL K H p xs)
    (hs : ∀ i x T σ H, xs[i]? = some x → H T = none → Pv i σ H → g (.ref T) σ (upd H T (.tup [.int (i : Int), x])) fun σ2 H2 => tu { D with nx := Pv (i + 1), ct := Pv (i + 1), bk := D.nx } σ2 H2) (hd : ∀ σ H, Pv xs.length σ H → D.nx σ H) :
    tFor (iEnum K (tCons tl tNil)) g tu D σ H := h H (Ex.refl H) _ fun H1 e => by
  refine ⟨p, xs, rfl, ex_l e hx, fun i m σ H => m = xs.length - i ∧ i ≤ xs.length ∧ Pv i σ H, ⟨xs.length, by simp, Nat.zero_le _, h0 H1 e⟩, ?_⟩
  rintro i m σ H ⟨rfl, hi, pv⟩
  have q := hl i σ H hi pv
  by_cases hlt : i < xs.length
  · refine .inr ⟨⟨xs, xs[i], q, List.getElem?_eq_getElem hlt⟩, Pv (i + 1), fun σ' H' p' => ⟨xs.length - (i + 1), by omega, rfl, hlt, p'⟩, fun v H' y => ?_⟩
    obtain ⟨T, x, rfl, nT, rfl, y⟩ := y
    exact hs i x T σ H (y _ q) nT pv
  · have e : i = xs.length := by omega
    subst e
    exact .inl ⟨⟨xs, q, Nat.le_refl _⟩, hd σ H pv⟩
theorem q_forEn {xs : List V} {tl : TE} (h : Ev tl σ H (.ref p)) (hx : SqL K H p xs) (Pv : Nat → St → Hp → Prop) (h0 : ∀ H1, Ex H H1 → Pv 0 σ H1) (hl : ∀ i σ H, i ≤ xs.length → Pv i σ H → SqL K H p xs)
    (hs : ∀ i x T σ H, xs[i]? = some x → H T = none → Pv i σ H → g (.ref T) σ (upd H T (.tup [.int (i : Int), x])) fun σ2 H2 => tu { D with nx := Pv (i + 1), ct := Pv (i + 1), bk := tz D } σ2 H2) (hd : ∀ σ H, Pv xs.length σ H → tz D σ H) :
    tSeq (tFor (iEnum K (tCons tl tNil)) g tu) tz D σ H := s_forEn (D := { D with nx := tz D }) h hx Pv h0 hl hs hd
/-- a target of two: the places of an enumerate -/
theorem g_two {a b : Nat} {T : Addr} {x y : V} {Q : St → Hp → Prop} (hT : H T = some (.tup [x, y])) (h : Q ((σ.set a (some x)).set b (some y)) H) : gTup K 2 (gCons (gName a) (gCons (gName b) gNil)) (.ref T) σ H Q :=
  ⟨T, [x, y], rfl, SqT.of hT, rfl, _, _, rfl, _, _, rfl, rfl, h⟩
/-- the place, then a job's three -/
theorem g_two3 {a b c d : Nat} {T t : Addr} {x : V} {j : T3} {Q : St → Hp → Prop} (hT : H T = some (.tup [x, .ref t])) (ht : AtT H t j) (h : Q ((((σ.set a (some x)).set b (some (.int j.1))).set c (some (.int j.2.1))).set d (some (.int j.2.2))) H) :
    gTup K 2 (gCons (gName a) (gCons (gTup K 3 (gCons (gName b) (gCons (gName c) (gCons (gName d) gNil)))) gNil)) (.ref T) σ H Q :=
  ⟨T, [x, .ref t], rfl, SqT.of hT, rfl, _, _, rfl, _, _, rfl, t, tv j, rfl, SqT.of ht, rfl, _, _, rfl, _, _, rfl, _, _, rfl, rfl, rfl, h⟩
/-- xs[i] op= e -/
theorem s_augI {f : Int → Int → Int} {i : Nat} {z : Int} (ha : Ev ta σ H (.ref l)) (hi : Ev ti σ H (.int (i : Int))) (hl : IL H l ns) (hn : i < ns.length) (he : Ev te σ H (.int z)) (k : ∀ H1, Mod l H H1 → IL H1 l (ns.set i (f (ns.getD i 0) z)) → D.nx σ H1) :
    tAugS ta ti te (rIxL K) (ipI f) rSetL D σ H := ha H (Ex.refl H) _ fun H1 e1 => hi H1 e1 _ fun H2 e2 => ⟨l, ns.map V.int, (i : Int), .int (ns.getD i 0), rfl, rfl, SqL.of ((hl.mono e1).mono e2), atI_nat (il_at hn), he H2 (e1.trans e2) _ fun H3 e3 =>
    ⟨ns.getD i 0, z, rfl, rfl, l, ns.map V.int, (i : Int), i, rfl, rfl, ((hl.mono e1).mono e2).mono e3, ixN_nat (by rw [List.length_map]; exact hn), by
      refine k _ ((Mod.ex ((e1.trans e2).trans e3)).trans (Mod.upd (((hl.mono e1).mono e2).mono e3))) ?_
      show upd H3 l _ l = _
      rw [upd_same, List.map_set]⟩⟩
theorem q_augI {f : Int → Int → Int} {i : Nat} {z : Int} (ha : Ev ta σ H (.ref l)) (hi : Ev ti σ H (.int (i : Int))) (hl : IL H l ns) (hn : i < ns.length) (he : Ev te σ H (.int z)) (k : ∀ H1, Mod l H H1 → IL H1 l (ns.set i (f (ns.getD i 0) z)) → tz D σ H1) :
    tSeq (tAugS ta ti te (rIxL K) (ipI f) rSetL) tz D σ H := s_augI (D := { D with nx := tz D }) ha hi hl hn he k
/-- xs[i] = e -/
theorem s_setI {i : Nat} {z : Int} (h : Ev te σ H (.int z)) (ha : Ev ta σ H (.ref l)) (hi : Ev ti σ H (.int (i : Int))) (hl : IL H l ns) (hn : i < ns.length) (k : ∀ H1, Mod l H H1 → IL H1 l (ns.set i z) → D.nx σ H1) :
    tAsg te (gSub ta ti rSetL) D σ H := s_setL hl h ha hi (by rw [List.length_map]; exact hn) fun H1 e1 => by
  refine k _ ((Mod.ex e1).trans (Mod.upd (hl.mono e1))) ?_
  show upd H1 l _ l = _
  rw [upd_same, List.map_set]
theorem q_setI {i : Nat} {z : Int} (h : Ev te σ H (.int z)) (ha : Ev ta σ H (.ref l)) (hi : Ev ti σ H (.int (i : Int))) (hl : IL H l ns) (hn : i < ns.length) (k : ∀ H1, Mod l H H1 → IL H1 l (ns.set i z) → tz D σ H1) :
    tSeq (tAsg te (gSub ta ti rSetL)) tz D σ H := s_setI (D := { D with nx := tz D }) h ha hi hl hn k
/-- the lengths of the jobs, and the like: a list of whole numbers, one a job -/
theorem el_ints {js : List T3} {tl : TE} {vs : List Nat} (f : T3 → Bool) (v : T3 → Int) (s2 : T3 → Addr → St) (h : Ev tl σ H (.ref p)) (hx : TL H p js) (hz : js.length ≤ 40000)
    (hg : ∀ q t H1 (Q : St → Hp → Prop), AtT H1 t q → Q (s2 q t) H1 → g (.ref t) (wipe σ vs) H1 Q) (hw : ∀ q t, wipe (s2 q t) vs = wipe σ vs)
    (ht : ∀ q t H1, q ∈ js → Ex H H1 → AtT H1 t q → EvT t' (s2 q t) H1 (f q)) (he : ∀ q t H1, q ∈ js → Ex H H1 → AtT H1 t q → f q = true → Ev te (s2 q t) H1 (.int (v q))) :
    EvL (tLc (iList K tl) g t' te vs) σ H (((js.filter f).map v).map V.int) := by
  have := el_lcTL (K := K) (te := te) f (fun q => .int (v q)) s2 h hx hz hg hw ht he
  rw [List.map_map]
  exact this
theorem evt_yes : EvT tYes σ H true := fun H1 _ _ q => q H1 (Ex.refl H1)
theorem filter_yes (js : List T3) : js.filter (fun _ => true) = js := List.filter_eq_self.mpr fun _ _ => rfl
/-- [0] * n -/
theorem rep_one (n : Nat) (x : V) : (List.replicate n [x]).flatten = List.replicate n x := by
  induction n with
  | zero => rfl
  | succ n ih => rw [List.replicate_succ, List.flatten_cons, ih]; rfl
theorem el_rep {n : Nat} {x : V} (hx : Ev te σ H x) (hn : Ev ti σ H (.int (n : Int))) (hz : n ≤ 100000) : EvL (tOp rRep (tLst (tCons te tNil)) ti) σ H (List.replicate n x) := fun H1 e Q k =>
  hx H1 e _ fun H2 e2 => ⟨sz_of (show 1 ≤ 100000 by decide), fun a na => hn _ ((e.trans e2).trans (Ex.new na)) _ fun H3 e3 => by
    refine ⟨a, (n : Int), [x], rfl, rfl, e3 _ _ upd_same, by omega, by omega, ?_, fun d nd => k d _ (fresh_back ((e2.trans (Ex.new na)).trans e3) nd) (((e2.trans (Ex.new na)).trans e3).trans (Ex.new nd)) ?_⟩
    · show 1 * (n : Int).toNat ≤ sizeLine
      rw [Int.toNat_natCast, Nat.one_mul]
      exact sz_of hz
    · rw [upd_same, Int.toNat_natCast, rep_one]⟩
theorem s_asgG {v : V} (h : Ev te σ H v) (k : ∀ H1, Ex H H1 → g v σ H1 D.nx) : tAsg te g D σ H := h H (Ex.refl H) _ k
theorem q_asgG {v : V} (h : Ev te σ H v) (k : ∀ H1, Ex H H1 → g v σ H1 (tz D)) : tSeq (tAsg te g) tz D σ H := h H (Ex.refl H) _ k
theorem rv_isN {x : V} : RV (fun x y H Q => y = .non ∧ Q (.bl (decide (x = .non))) H) x .non H (.bl (decide (x = .non))) := fun H1 _ Q k => ⟨rfl, k H1 (Ex.refl _)⟩
theorem rv_notN {x : V} : RV (fun x y H Q => y = .non ∧ Q (.bl (!decide (x = .non))) H) x .non H (.bl (!decide (x = .non))) := fun H1 _ Q k => ⟨rfl, k H1 (Ex.refl _)⟩
theorem ev_chain {r r' : R2} {tc : TE} {x y z : V} {a b : Bool} (ha : Ev ta σ H x) (hb : Ev tb σ H y) (hr : RV r x y H (.bl a)) (hc : a = true → Ev tc σ H z) (hr' : a = true → RV r' y z H (.bl b)) : Ev (tChain r r' ta tb tc) σ H (.bl (a && b)) := fun H1 e Q k =>
  ha H1 e _ fun H2 e2 => hb H2 (e.trans e2) _ fun H3 e3 => hr H3 ((e.trans e2).trans e3) _ fun H4 e4 => ⟨a, rfl, by
    have e14 := (e2.trans e3).trans e4
    cases a with
    | true =>
      show tc σ H4 _
      exact hc rfl H4 (e.trans e14) _ fun H5 e5 => hr' rfl H5 ((e.trans e14).trans e5) Q fun H6 e6 => k H6 ((e14.trans e5).trans e6)
    | false =>
      show Q (.bl false) H4
      exact k H4 e14⟩
theorem ev_chain3 {r r' r'' : R2} {tc td : TE} {x y z u : V} {a b c : Bool} (ha : Ev ta σ H x) (hb : Ev tb σ H y) (hr : RV r x y H (.bl a)) (hc : Ev tc σ H z) (hr' : RV r' y z H (.bl b)) (hd : Ev td σ H u) (hr'' : RV r'' z u H (.bl c)) : Ev (tChain3 r r' r'' ta tb tc td) σ H (.bl (a && (b && c))) := fun H1 e Q k =>
  ha H1 e _ fun H2 e2 => hb H2 (e.trans e2) _ fun H3 e3 => hr H3 ((e.trans e2).trans e3) _ fun H4 e4 => ⟨a, rfl, by
    have e14 := (e2.trans e3).trans e4
    cases a with
    | true =>
      show tc σ H4 _
      refine hc H4 (e.trans e14) _ fun H5 e5 => hr' H5 ((e.trans e14).trans e5) _ fun H6 e6 => ⟨b, rfl, ?_⟩
      have e16 := (e14.trans e5).trans e6
      cases b with
      | true =>
        show td σ H6 _
        exact hd H6 (e.trans e16) _ fun H7 e7 => hr'' H7 ((e.trans e16).trans e7) Q fun H8 e8 => k H8 ((e16.trans e7).trans e8)
      | false =>
        show Q (.bl false) H6
        exact k H6 e16
    | false =>
      show Q (.bl false) H4
      exact k H4 e14⟩
theorem et_truL {js : List T3} (h : Ev te σ H (.ref p)) (hp : TL H p js) : EvT (fun σ H Q => te σ H fun x H' => ∃ k, TruV K x H' k ∧ Q k H') σ H (!js.isEmpty) := fun H1 e Q k =>
  h H1 e _ fun H2 e2 => by
    obtain ⟨ts, h1, h2⟩ := hp.mono (e.trans e2)
    refine ⟨!js.isEmpty, .inl ⟨_, SqL.of h1, ?_⟩, k H2 e2⟩
    cases h2 with
    | nil => rfl
    | cons _ _ => rfl
end
end DL
namespace DL
open PySem PySem.Spec PyProof.Rows L2 Evl
section
variable {K : PySem.W.Frag} {σ : St} {H H' : Hp} {ta tb te ti : TE} {t' : TT} {D : Ends} {tu tz : TS} {g : TG} {p q l : Addr} {js ks : List T3} {j : T3} {ns : List Int}
/-! ### lists of whole numbers -/
theorem s_appI {z : Int} (hl : IL H l ns) (ha : Ev ta σ H (.ref l)) (h : Ev te σ H (.int z)) (hz : ns.length < 100000) (k : ∀ H1, Mod l H H1 → IL H1 l (ns ++ [z]) → D.nx σ H1) :
    tDrop (tBM K "list" rAppend ta (tCons te tNil)) D σ H := s_app hl ha h (by rw [List.length_map]; exact hz) fun H1 e => by
  refine k _ ((Mod.ex e).trans (Mod.upd (hl.mono e))) ?_
  show upd H1 l _ l = _
  rw [upd_same, List.map_append]
  rfl
theorem q_appI {z : Int} (hl : IL H l ns) (ha : Ev ta σ H (.ref l)) (h : Ev te σ H (.int z)) (hz : ns.length < 100000) (k : ∀ H1, Mod l H H1 → IL H1 l (ns ++ [z]) → tz D σ H1) :
    tSeq (tDrop (tBM K "list" rAppend ta (tCons te tNil))) tz D σ H := s_appI (D := { D with nx := tz D }) hl ha h hz k
theorem el_listI (ha : Ev ta σ H (.ref p)) (h : IL H p ns) : EvL (tCB (rListS K) (tCons ta tNil)) σ H (ns.map V.int) := el_list ha (SqL.of h)
theorem et_truI (h : Ev te σ H (.ref p)) (hp : IL H p ns) : EvT (fun σ H Q => te σ H fun x H' => ∃ k, TruV K x H' k ∧ Q k H') σ H (!ns.isEmpty) := fun H1 e Q k =>
  h H1 e _ fun H2 e2 => ⟨!ns.isEmpty, .inl ⟨_, SqL.of (hp.mono (e.trans e2)), by cases ns <;> rfl⟩, k H2 e2⟩
theorem inV_int (x : Int) : ∀ ns : List Int, inV (.int x) (ns.map V.int) = decide (x ∈ ns)
  | [] => rfl
  | n :: ns => by
    show ((n == x) || inV (.int x) (ns.map V.int)) = _
    rw [inV_int x ns, Bool.eq_iff_iff, Bool.or_eq_true, beq_iff_eq, decide_eq_true_iff, decide_eq_true_iff, List.mem_cons]
    exact or_congr_left ⟨fun e => e.symm, fun e => e.symm⟩
theorem flat_ints : ∀ ns : List Int, (ns.map V.int).all flatV = true
  | [] => rfl
  | n :: ns => flat_ints ns
theorem rv_niI {x : Int} (hp : IL H p ns) : RV (rIn K true) (.int x) (.ref p) H (.bl (!decide (x ∈ ns))) := by
  have := rv_niL (K := K) (x := .int x) (SqL.of hp) rfl (flat_ints ns)
  rw [inV_int] at this
  exact this
theorem rv_isI {x : Int} (hp : IL H p ns) : RV (rIn K false) (.int x) (.ref p) H (.bl (decide (x ∈ ns))) := by
  have := rv_isL (K := K) (x := .int x) (SqL.of hp) rfl (flat_ints ns)
  rw [inV_int] at this
  exact this
theorem s_forIL {tl : TE} {jj : Nat} (h : Ev tl σ H (.ref p)) (hx : IL H p ns) (Pv : Nat → St → Hp → Prop) (h0 : ∀ H1, Ex H H1 → Pv 0 σ H1) (hl : ∀ i σ' H', i ≤ ns.length → Pv i σ' H' → IL H' p ns)
    (hs : ∀ i x σ' H', ns[i]? = some x → Pv i σ' H' → tu { D with nx := Pv (i + 1), ct := Pv (i + 1), bk := D.nx } (σ'.set jj (some (.int x))) H') (hd : ∀ σ' H', Pv ns.length σ' H' → D.nx σ' H') : tFor (iList K tl) (gName jj) tu D σ H :=
  s_forLn h (SqL.of hx) Pv h0 (fun i σ' H' hi pv => SqL.of (hl i σ' H' (by rw [List.length_map] at hi; exact hi) pv)) (fun i x σ' H' hi pv => by
    rw [List.getElem?_map] at hi
    obtain ⟨y, hy, rfl⟩ := Option.map_eq_some_iff.mp hi
    exact hs i y σ' H' hy pv) fun σ' H' pv => hd σ' H' (by rw [List.length_map] at pv; exact pv)
theorem q_forIL {tl : TE} {jj : Nat} (h : Ev tl σ H (.ref p)) (hx : IL H p ns) (Pv : Nat → St → Hp → Prop) (h0 : ∀ H1, Ex H H1 → Pv 0 σ H1) (hl : ∀ i σ' H', i ≤ ns.length → Pv i σ' H' → IL H' p ns)
    (hs : ∀ i x σ' H', ns[i]? = some x → Pv i σ' H' → tu { D with nx := Pv (i + 1), ct := Pv (i + 1), bk := tz D } (σ'.set jj (some (.int x))) H') (hd : ∀ σ' H', Pv ns.length σ' H' → tz D σ' H') : tSeq (tFor (iList K tl) (gName jj) tu) tz D σ H :=
  s_forIL (D := { D with nx := tz D }) h hx Pv h0 hl hs hd
/-- [k for k in range(n) if ..] -/
theorem el_range {ta : TA} {jj : Nat} {vs : List Nat} {n : Nat} (f : Nat → Bool) (h : EvA ta σ H [.int (n : Int)]) (hn : n ≤ 40000) (hw : ∀ x, wipe ((wipe σ vs).set jj (some x)) vs = wipe σ vs)
    (ht : ∀ (i : Nat) H1, Ex H H1 → i < n → EvT t' ((wipe σ vs).set jj (some (.int (i : Int)))) H1 (f i)) (hj : ((wipe σ vs).set jj (some (.int 0)))[jj]? = some (some (.int 0))) :
    EvL (tLc (iRng1 ta) (gName jj) t' (tVar jj) vs) σ H ((((List.range n).filter f).map fun (i : Nat) => (i : Int)).map V.int) := by
  have hlen : jj < (wipe σ vs).length := by
    have := (List.getElem?_eq_some_iff.mp hj).1
    rw [List.length_set] at this
    exact this
  have := el_lcR1 (n := (n : Int)) f (fun i => V.int (i : Int)) h (by omega) hw (fun i H1 e hi => ht i H1 e (by omega)) (fun i H1 e hi _ => ev_var (by rw [List.getElem?_set_self hlen]))
  rw [Int.toNat_natCast] at this
  unfold given at this
  rw [List.map_map]
  exact this
/-- over a new list of triples -/
theorem s_forNTL {tl : TE} (h : EvTL tl σ H js) (Pv : Addr → Nat → St → Hp → Prop) (h0 : ∀ p H1, H p = none → Ex H H1 → TL H1 p js → Pv p 0 σ H1) (hl : ∀ p i σ H, i ≤ js.length → Pv p i σ H → TL H p js)
    (hs : ∀ p i q t σ H, js[i]? = some q → AtT H t q → Pv p i σ H → g (.ref t) σ H fun σ2 H2 => tu { D with nx := Pv p (i + 1), ct := Pv p (i + 1), bk := D.nx } σ2 H2) (hd : ∀ p σ H, Pv p js.length σ H → D.nx σ H) : tFor (iList K tl) g tu D σ H :=
  h H (Ex.refl H) _ fun p H1 hp e h1 => ⟨p, rfl, (by obtain ⟨xs, h2, _⟩ := h1.sq (K := K); exact ⟨xs, h2⟩), for_TL (Pv p) (h0 p H1 hp e h1) (hl p) (hs p) (hd p)⟩
theorem q_forNTL {tl : TE} (h : EvTL tl σ H js) (Pv : Addr → Nat → St → Hp → Prop) (h0 : ∀ p H1, H p = none → Ex H H1 → TL H1 p js → Pv p 0 σ H1) (hl : ∀ p i σ H, i ≤ js.length → Pv p i σ H → TL H p js)
    (hs : ∀ p i q t σ H, js[i]? = some q → AtT H t q → Pv p i σ H → g (.ref t) σ H fun σ2 H2 => tu { D with nx := Pv p (i + 1), ct := Pv p (i + 1), bk := tz D } σ2 H2) (hd : ∀ p σ H, Pv p js.length σ H → tz D σ H) : tSeq (tFor (iList K tl) g tu) tz D σ H :=
  s_forNTL (D := { D with nx := tz D }) h Pv h0 hl hs hd
/-- the second operand a new list of triples -/
theorem ev_opT {r : R2} {x z : V} (ha : Ev ta σ H x) (hb : EvTL tb σ H js) (hr : ∀ p H1, TL H1 p js → Ex H H1 → RV r x (.ref p) H1 z) : Ev (tOp r ta tb) σ H z := fun H1 e Q k =>
  ha H1 e _ fun H2 e2 => hb H2 (e.trans e2) _ fun p H3 _ e3 hp => hr p H3 hp ((e.trans e2).trans e3) H3 (Ex.refl H3) Q fun H4 e4 => k H4 ((e2.trans e3).trans e4)
/-- for a, b in zip(xs[:-1], xs[1:]): each item and the next -/
theorem s_forNext {xs : List V} {tl : TE} (h : Ev tl σ H (.ref p)) (hx : SqL K H p xs) (Pv : Hp → Nat → St → Hp → Prop) (h0 : ∀ B, Ex H B → Pv B 0 σ B) (hq : ∀ B i σ H', Pv B i σ H' → Ex B H')
    (hs : ∀ B i x y T σ H', Ex H B → xs[i]? = some x → xs[i + 1]? = some y → Pv B i σ H' → H' T = none → g (.ref T) σ (upd H' T (.tup [x, y])) fun σ2 H2 => tu { D with nx := Pv B (i + 1), ct := Pv B (i + 1), bk := D.nx } σ2 H2)
    (hd : ∀ B σ H', Ex H B → Pv B (xs.length - 1) σ H' → D.nx σ H') :
    tFor (iZip K (tCons (tSl (rSlL K) tl tNoPart (tPart (tUn (rU fun i => .int (-i)) (tC (.int 1))))) (tCons (tSl (rSlL K) tl (tPart (tC (.int 1))) tNoPart) tNil))) g tu D σ H := by
  refine el_sl (K := K) h eo_none (eo_some (ev_un ev_c ru_neg)) hx H (Ex.refl _) _ fun c H1 _ e1 hc => ?_
  refine el_sl (K := K) h (eo_some ev_c) eo_none hx H1 e1 _ fun d H2 _ e2 hd2 => ?_
  have hc2 := e2 _ _ hc
  rw [cut_init] at hc2
  rw [show cutV xs (some 1) none = xs.drop 1 from cut_drop xs 1] at hd2
  refine ⟨c, d, _, _, rfl, SqL.of hc2, SqL.of hd2, RZ.for_zipL (K := K) (by rw [List.length_dropLast, List.length_drop]) (Pv H2) (h0 H2 (e1.trans e2)) (fun i σ H' pv => ⟨SqL.of (hq _ _ _ _ pv _ _ hc2), SqL.of (hq _ _ _ _ pv _ _ hd2)⟩) (fun i x y T σ H' hi hy pv nT => ?_) fun σ H' pv => ?_⟩
  · have hx1 : xs[i]? = some x := by
      have hlt := (List.getElem?_eq_some_iff.mp hi).1
      rw [List.dropLast_eq_take, List.getElem?_take] at hi
      rw [List.length_dropLast] at hlt
      rw [if_pos hlt] at hi
      exact hi
    have hy1 : xs[i + 1]? = some y := by
      rw [List.getElem?_drop, Nat.add_comm] at hy
      exact hy
    exact hs H2 i x y T σ H' (e1.trans e2) hx1 hy1 pv nT
  · rw [List.length_dropLast] at pv
    exact hd H2 σ H' (e1.trans e2) pv
theorem q_forNext {xs : List V} {tl : TE} (h : Ev tl σ H (.ref p)) (hx : SqL K H p xs) (Pv : Hp → Nat → St → Hp → Prop) (h0 : ∀ B, Ex H B → Pv B 0 σ B) (hq : ∀ B i σ H', Pv B i σ H' → Ex B H')
    (hs : ∀ B i x y T σ H', Ex H B → xs[i]? = some x → xs[i + 1]? = some y → Pv B i σ H' → H' T = none → g (.ref T) σ (upd H' T (.tup [x, y])) fun σ2 H2 => tu { D with nx := Pv B (i + 1), ct := Pv B (i + 1), bk := tz D } σ2 H2)
    (hd : ∀ B σ H', Ex H B → Pv B (xs.length - 1) σ H' → tz D σ H') :
    tSeq (tFor (iZip K (tCons (tSl (rSlL K) tl tNoPart (tPart (tUn (rU fun i => .int (-i)) (tC (.int 1))))) (tCons (tSl (rSlL K) tl (tPart (tC (.int 1))) tNoPart) tNil))) g tu) tz D σ H :=
  s_forNext (D := { D with nx := tz D }) h hx Pv h0 hq hs hd
/-- a number a triple, no test -/
theorem el_intsA {tl : TE} {vs : List Nat} (v : T3 → Int) (s2 : T3 → Addr → St) (h : Ev tl σ H (.ref p)) (hx : TL H p js) (hz : js.length ≤ 40000)
    (hg : ∀ q t H1 (Q : St → Hp → Prop), AtT H1 t q → Q (s2 q t) H1 → g (.ref t) (wipe σ vs) H1 Q) (hw : ∀ q t, wipe (s2 q t) vs = wipe σ vs)
    (he : ∀ q t H1, q ∈ js → Ex H H1 → AtT H1 t q → Ev te (s2 q t) H1 (.int (v q))) : EvL (tLc (iList K tl) g tYes te vs) σ H ((js.map v).map V.int) := by
  have := el_ints (K := K) (te := te) (fun _ => true) v s2 h hx hz hg hw (fun _ _ _ _ _ _ => evt_yes) fun q t H1 hq e ha _ => he q t H1 hq e ha
  rw [filter_yes] at this
  exact this
end
end DL
namespace DL
open PySem PySem.Spec PyProof.Rows L2 Evl
/-! ### lists of pairs, sorted -/
abbrev AtP (H : Hp) (t : Addr) (z : Int × Int) : Prop := H t = some (.tup [.int z.1, .int z.2])
abbrev Prs (H : Hp) : List Addr → List (Int × Int) → Prop := Paired (AtP H)
def PL (H : Hp) (p : Addr) (zs : List (Int × Int)) : Prop := ∃ ts : List Addr, H p = some (.lst (ts.map V.ref)) ∧ Prs H ts zs
theorem Prs.mono {H H' : Hp} (e : Ex H H') : ∀ {ts : List Addr} {zs : List (Int × Int)}, Prs H ts zs → Prs H' ts zs
  | _, _, .nil => .nil
  | _, _, .cons r s => .cons (e _ _ r) (Prs.mono e s)
theorem Prs.keep {H H' : Hp} : ∀ {ts : List Addr} {zs : List (Int × Int)}, (∀ t xs, H t = some (.tup xs) → H' t = some (.tup xs)) → Prs H ts zs → Prs H' ts zs
  | _, _, _, .nil => .nil
  | _, _, k, .cons r s => .cons (k _ _ r) (Prs.keep k s)
theorem Prs.append {H : Hp} : ∀ {ts us : List Addr} {zs ys : List (Int × Int)}, Prs H ts zs → Prs H us ys → Prs H (ts ++ us) (zs ++ ys)
  | _, _, _, _, .nil, s => s
  | _, _, _, _, .cons r t, s => .cons r (Prs.append t s)
theorem Prs.len {H : Hp} {ts : List Addr} {zs : List (Int × Int)} (h : Prs H ts zs) : ts.length = zs.length := Paired.length h
theorem PL.mono {H H' : Hp} {p : Addr} {zs : List (Int × Int)} (e : Ex H H') (h : PL H p zs) : PL H' p zs := by
  obtain ⟨ts, h1, h2⟩ := h
  exact ⟨ts, e _ _ h1, h2.mono e⟩
/-- the pair that stands at an address -/
def keyOf (H : Hp) : V → Int × Int
  | .ref t => match H t with
    | some (.tup [.int a, .int b]) => (a, b)
    | _ => (0, 0)
  | _ => (0, 0)
theorem keyOf_at {H : Hp} {t : Addr} {z : Int × Int} (h : AtP H t z) : keyOf H (.ref t) = z := by
  show (match H t with
    | some (.tup [.int a, .int b]) => (a, b)
    | _ => (0, 0)) = z
  rw [show H t = some (.tup [.int z.1, .int z.2]) from h]
theorem keys_of {H : Hp} : ∀ {ts : List Addr} {zs : List (Int × Int)}, Prs H ts zs → (ts.map V.ref).map (keyOf H) = zs
  | _, _, .nil => rfl
  | _, _, .cons r s => by
    rw [List.map_cons, List.map_cons, keyOf_at r, keys_of s]
theorem prs_keys {H : Hp} : ∀ {ts : List Addr}, (∀ t ∈ ts, ∃ z, AtP H t z) → Prs H ts ((ts.map V.ref).map (keyOf H))
  | [], _ => .nil
  | t :: ts, h => by
    obtain ⟨z, hz⟩ := h t List.mem_cons_self
    have ih := prs_keys (ts := ts) fun u hu => h u (List.mem_cons_of_mem _ hu)
    rw [List.map_cons, List.map_cons, keyOf_at hz]
    exact .cons hz ih
def lexLe (a b : Int × Int) : Prop := a.1 < b.1 ∨ (a.1 = b.1 ∧ a.2 ≤ b.2)
section
variable {K : PySem.W.Frag} {σ : St} {H H' : Hp} {ta tb te ti : TE} {t' : TT} {D : Ends} {tu tz : TS} {g : TG} {p q l : Addr} {js ks : List T3} {j : T3} {ns ms : List Int} {zs : List (Int × Int)}
theorem s_appP {z : Int × Int} (hl : PL H l zs) (ha : Ev ta σ H (.ref l)) (h : EvU te σ H [.int z.1, .int z.2]) (hz : zs.length < 100000) (k : ∀ H1, Mod l H H1 → PL H1 l (zs ++ [z]) → D.nx σ H1) :
    tDrop (tBM K "list" rAppend ta (tCons te tNil)) D σ H := by
  obtain ⟨ts, h1, h2⟩ := hl
  refine s_appU h1 ha h (by rw [List.length_map, h2.len]; exact hz) fun t H1 nt e ht => ?_
  have m : Mod l H (upd H1 l (.lst (ts.map V.ref ++ [.ref t]))) := (Mod.ex e).trans (Mod.upd (e _ _ h1))
  refine k _ m ⟨ts ++ [t], ?_, (Prs.keep m.tup h2).append (.cons (tup_upd (e _ _ h1) _ _ ht) .nil)⟩
  rw [upd_same, List.map_append]
  rfl
theorem eu_two {a b : Int} (ha : Ev ta σ H (.int a)) (hb : Ev tb σ H (.int b)) : EvU (tTup (tCons ta (tCons tb tNil))) σ H [.int a, .int b] :=
  eu_tup (ea_cons ha (ea_cons hb ea_nil)) (show 2 ≤ 100000 by decide)
/-- a new list of pairs -/
def EvPL (te : TE) (σ : St) (H : Hp) (P : List (Int × Int) → Prop) : Prop := ∀ H1, Ex H H1 → ∀ Q : VK, (∀ p H2 zs, H1 p = none → Ex H1 H2 → PL H2 p zs → P zs → Q (.ref p) H2) → te σ H1 Q
theorem epl_sorted (h : Ev te σ H (.ref p)) (hp : PL H p zs) : EvPL (tCB (rSortedPO K) (tCons te tNil)) σ H (fun ys => ys.Perm zs ∧ ys.Pairwise lexLe) := fun H1 e Q k =>
  h H1 e _ fun H2 e2 => by
    obtain ⟨ts, h1, h2⟩ := hp.mono (e.trans e2)
    have hk := keys_of h2
    refine ⟨p, ts.map V.ref, keyOf H2, rfl, SqL.of h1, fun x hx => ?_, fun ys d hs hb hd => ?_⟩
    · obtain ⟨t, ht, rfl⟩ := List.mem_map.mp hx
      obtain ⟨i, hi, e3⟩ := List.getElem_of_mem ht
      have : ∀ {ts : List Addr} {zs : List (Int × Int)}, Prs H2 ts zs → ∀ t ∈ ts, ∃ z, AtP H2 t z := fun {ts zs} hp => by
        induction hp with
        | nil => intro t ht; simp at ht
        | cons r s ih =>
          intro t ht
          rcases List.mem_cons.mp ht with z | z
          · subst z; exact ⟨_, r⟩
          · exact ih t z
      obtain ⟨z, hz⟩ := this h2 t ht
      exact ⟨t, rfl, by rw [keyOf_at hz]; exact hz⟩
    · have hper : ys.Perm (ts.map V.ref) := hb.perm
      have hsub : ∀ y ∈ ys, ∃ t ∈ ts, y = V.ref t := fun y hy => by
        obtain ⟨t, ht, e4⟩ := List.mem_map.mp (hper.mem_iff.mp hy)
        exact ⟨t, ht, e4.symm⟩
      obtain ⟨us, rfl⟩ : ∃ us : List Addr, ys = us.map V.ref := by
        clear hs hb hper hd
        induction ys with
        | nil => exact ⟨[], rfl⟩
        | cons y ys ih =>
          obtain ⟨t, _, rfl⟩ := hsub y List.mem_cons_self
          obtain ⟨us, hu⟩ := ih fun z hz => hsub z (List.mem_cons_of_mem _ hz)
          exact ⟨t :: us, by rw [hu]; rfl⟩
      have hall : ∀ t ∈ us, ∃ z, AtP H2 t z := fun t ht => by
        obtain ⟨u, hu, e5⟩ := hsub (.ref t) (List.mem_map.mpr ⟨t, ht, rfl⟩)
        cases e5
        have : ∀ {ts : List Addr} {zs : List (Int × Int)}, Prs H2 ts zs → ∀ t ∈ ts, ∃ z, AtP H2 t z := fun {ts zs} hp => by
          induction hp with
          | nil => intro t ht; simp at ht
          | cons r s ih =>
            intro t ht
            rcases List.mem_cons.mp ht with z | z
            · subst z; exact ⟨_, r⟩
            · exact ih t z
        exact this h2 t hu
      refine k d _ ((us.map V.ref).map (keyOf H2)) (fresh_back e2 hd) (e2.trans (Ex.new hd)) ⟨us, upd_same, (prs_keys hall).mono (Ex.new hd)⟩ ⟨?_, ?_⟩
      · rw [← hk]
        exact hper.map _
      · refine List.pairwise_map.mpr (List.Pairwise.imp ?_ hs)
        intro a b hab
        have := SrtO.lexB_no.mp hab
        unfold lexLe
        omega
/-- [row[1] for row in ..] over a new list of pairs -/
theorem epl_seconds {P : List (Int × Int) → Prop} {tl : TE} {jj : Nat} {vs : List Nat} (h : EvPL tl σ H P) (hz : ∀ ys, P ys → ys.length ≤ 40000) (hw : ∀ x, wipe ((wipe σ vs).set jj (some x)) vs = wipe σ vs)
    (hj : ∀ x, ((wipe σ vs).set jj (some x))[jj]? = some (some x)) :
    ∀ H1, Ex H H1 → ∀ Q : VK, (∀ p H2 zs, H1 p = none → Ex H1 H2 → IL H2 p (zs.map (·.2)) → P zs → Q (.ref p) H2) → (tLc (iList K tl) (gName jj) tYes (tOp (rIxT K) (tVar jj) (tC (.int 1))) vs) σ H1 Q := fun H1 e Q k => by
  refine h H1 e _ fun a H2 zs na e2 hp hP => ?_
  obtain ⟨ts, h1, h2⟩ := hp
  refine ⟨a, rfl, ⟨_, SqL.of h1⟩, fun Dl hD => ?_⟩
  have hlen : (ts.map V.ref).length = zs.length := by rw [List.length_map, h2.len]
  have hzl := hz _ hP
  refine lc_list (K := K) (xs := ts.map V.ref) (fun i H' => Ex H2 H' ∧ H' Dl = some (.lst ((zs.take i).map fun z => V.int z.2))) ⟨Ex.new hD, upd_same⟩ (fun i H' _ p => SqL.of (p.1 _ _ h1)) (fun i x H' hi pv => ?_) fun H' pv => ?_
  · obtain ⟨p1, p2⟩ := pv
    refine ⟨hw x, ?_⟩
    rw [List.getElem?_map] at hi
    obtain ⟨t, et, rfl⟩ := Option.map_eq_some_iff.mp hi
    have hat : ∀ {ts : List Addr} {zs : List (Int × Int)} {i : Nat} {t : Addr}, Prs H2 ts zs → ts[i]? = some t → ∃ z, zs[i]? = some z ∧ AtP H2 t z := fun {ts zs i t} hp => by
      induction hp generalizing i with
      | nil => intro h; simp at h
      | cons r s ih =>
        intro h
        cases i with
        | zero => cases h; exact ⟨_, rfl, r⟩
        | succ i => exact ih h
    obtain ⟨z, ez, az⟩ := hat h2 et
    have hlt := (List.getElem?_eq_some_iff.mp ez).1
    refine (ev_op (ev_var (hj _)) ev_c (rv_ixT (SqT.of (p1 _ _ az)) (atI_nat (j := 1) rfl)) : Ev (tOp (rIxT K) (tVar jj) (tC (.int 1))) _ H' (.int z.2)) H' (Ex.refl _) _ fun H4 e4 => ?_
    refine ⟨_, e4 _ _ p2, sz_lt (by rw [List.length_map, List.length_take]; omega), Ex.mut (p1.trans e4) hD, ?_⟩
    rw [List.take_add_one, ez, List.map_append]
    exact upd_same
  · obtain ⟨p1, p2⟩ := pv
    rw [hlen, List.take_length] at p2
    refine k Dl H' zs (fresh_back e2 hD) (e2.trans p1) ?_ hP
    show H' Dl = some (.lst ((zs.map (·.2)).map V.int))
    rw [List.map_map]
    exact p2
/-- for i, x in enumerate(a new list) -/
theorem s_forEnN {xs : List V} {tl : TE} (h : EvL tl σ H xs) (Pv : Addr → Nat → St → Hp → Prop) (h0 : ∀ p H1, H p = none → Ex H H1 → H1 p = some (.lst xs) → Pv p 0 σ H1) (hl : ∀ p i σ H, i ≤ xs.length → Pv p i σ H → SqL K H p xs)
    (hs : ∀ p i x T σ H, xs[i]? = some x → H T = none → Pv p i σ H → g (.ref T) σ (upd H T (.tup [.int (i : Int), x])) fun σ2 H2 => tu { D with nx := Pv p (i + 1), ct := Pv p (i + 1), bk := D.nx } σ2 H2) (hd : ∀ p σ H, Pv p xs.length σ H → D.nx σ H) :
    tFor (iEnum K (tCons tl tNil)) g tu D σ H := h H (Ex.refl H) _ fun p H1 np e hx => by
  refine ⟨p, xs, rfl, SqL.of hx, fun i m σ H => m = xs.length - i ∧ i ≤ xs.length ∧ Pv p i σ H, ⟨xs.length, by simp, Nat.zero_le _, h0 p H1 np e hx⟩, ?_⟩
  rintro i m σ H ⟨rfl, hi, pv⟩
  have q := hl p i σ H hi pv
  by_cases hlt : i < xs.length
  · refine .inr ⟨⟨xs, xs[i], q, List.getElem?_eq_getElem hlt⟩, Pv p (i + 1), fun σ' H' p' => ⟨xs.length - (i + 1), by omega, rfl, hlt, p'⟩, fun v H' y => ?_⟩
    obtain ⟨T, x, rfl, nT, rfl, y⟩ := y
    exact hs p i x T σ H (y _ q) nT pv
  · have e : i = xs.length := by omega
    subst e
    exact .inl ⟨⟨xs, q, Nat.le_refl _⟩, hd p σ H pv⟩
theorem q_forEnN {xs : List V} {tl : TE} (h : EvL tl σ H xs) (Pv : Addr → Nat → St → Hp → Prop) (h0 : ∀ p H1, H p = none → Ex H H1 → H1 p = some (.lst xs) → Pv p 0 σ H1) (hl : ∀ p i σ H, i ≤ xs.length → Pv p i σ H → SqL K H p xs)
    (hs : ∀ p i x T σ H, xs[i]? = some x → H T = none → Pv p i σ H → g (.ref T) σ (upd H T (.tup [.int (i : Int), x])) fun σ2 H2 => tu { D with nx := Pv p (i + 1), ct := Pv p (i + 1), bk := tz D } σ2 H2) (hd : ∀ p σ H, Pv p xs.length σ H → tz D σ H) :
    tSeq (tFor (iEnum K (tCons tl tNil)) g tu) tz D σ H := s_forEnN (D := { D with nx := tz D }) h Pv h0 hl hs hd
/-- xs + ys, sorted(xs) of whole numbers -/
theorem el_catI (ha : Ev ta σ H (.ref p)) (hb : Ev tb σ H (.ref q)) (hp : IL H p ns) (hq : IL H q ms) (hz : ns.length + ms.length ≤ 100000) : EvL (tOp rCat ta tb) σ H ((ns ++ ms).map V.int) := fun H1 e Q k =>
  ha H1 e _ fun H2 e2 => hb H2 (e.trans e2) _ fun H3 e3 => ⟨p, q, _, _, rfl, rfl, hp.mono ((e.trans e2).trans e3), hq.mono ((e.trans e2).trans e3), sz_of (by rw [List.length_map, List.length_map]; exact hz), fun d nd => k d _ (fresh_back (e2.trans e3) nd) ((e2.trans e3).trans (Ex.new nd)) (by rw [upd_same, List.map_append])⟩
theorem el_sortI (h : Ev te σ H (.ref p)) (hp : IL H p ns) (hm : ms.Perm ns) (hs : ms.Pairwise (· ≤ ·)) : EvL (tCB (rSortedI K) (tCons te tNil)) σ H (ms.map V.int) := fun H1 e Q k =>
  h H1 e _ fun H2 e2 => ⟨p, ns, rfl, SqL.of (hp.mono (e.trans e2)), fun ns' d h1 h2 nd => by
    have : ns' = ms := (h1.trans hm.symm).eq_of_pairwise (fun x y _ _ a b => Int.le_antisymm a b) h2 hs
    subst this
    exact k d _ (fresh_back e2 nd) (e2.trans (Ex.new nd)) upd_same⟩
end
end DL
namespace DL
open PySem PySem.Spec PyProof.Rows L2 Evl
section
variable {K : PySem.W.Frag} {σ : St} {H H' : Hp} {ta tb te ti : TE} {tA : TA} {t' : TT} {D : Ends} {tu tz : TS} {g : TG} {p q l : Addr} {js ks : List T3} {j : T3} {ns ms : List Int}
/-- the items of a display, triples -/
def EvTs (tA : TA) (σ : St) (H : Hp) (js : List T3) : Prop := ∀ H1, Ex H H1 → ∀ Q : List V → Hp → Prop, (∀ (ts : List Addr) H2, Ex H1 H2 → Tps H2 ts js → Q (ts.map V.ref) H2) → tA σ H1 Q
theorem ets_nil : EvTs tNil σ H [] := fun H1 _ Q k => k [] H1 (Ex.refl _) .nil
theorem ets_cons (h : EvU te σ H (tv j)) (hr : EvTs tA σ H js) : EvTs (tCons te tA) σ H (j :: js) := fun H1 e Q k =>
  h H1 e _ fun t H2 _ e2 ht => hr H2 (e.trans e2) _ fun ts H3 e3 hts => k (t :: ts) H3 (e2.trans e3) (.cons (e3 _ _ ht) hts)
theorem ets_consR {t : Addr} (h : Ev te σ H (.ref t)) (a : AtT H t j) (hr : EvTs tA σ H js) : EvTs (tCons te tA) σ H (j :: js) := fun H1 e Q k =>
  h H1 e _ fun H2 e2 => hr H2 (e.trans e2) _ fun ts H3 e3 hts => k (t :: ts) H3 (e2.trans e3) (.cons (e3 _ _ (e2 _ _ (e _ _ a))) hts)
theorem etl_lst (h : EvTs tA σ H js) (hz : js.length ≤ 100000) : EvTL (tLst tA) σ H js := fun H1 e Q k =>
  h H1 e _ fun ts H2 e2 hts => ⟨sz_of (by rw [List.length_map, hts.len]; exact hz), fun d nd => k d _ (fresh_back e2 nd) (e2.trans (Ex.new nd)) ⟨ts, upd_same, hts.mono (Ex.new nd)⟩⟩
/-- [a, b, ..][i] of whole numbers written out -/
theorem ev_pick {xs : List V} {i : Nat} {v : V} (ha : EvL ta σ H xs) (hi : ∀ H1, Ex H H1 → Ev ti σ H1 (.int (i : Int))) (hv : xs[i]? = some v) : Ev (tOp (rIxL K) ta ti) σ H v :=
  ev_opL1 ha hi fun p H1 hp _ => rv_ixL (SqL.of hp) (atI_nat hv)
theorem el_two {a b : Int} (ha : Ev ta σ H (.int a)) (hb : Ev tb σ H (.int b)) : EvL (tLst (tCons ta (tCons tb tNil))) σ H [.int a, .int b] := el_lst (ea_cons ha (ea_cons hb ea_nil)) (show 2 ≤ 100000 by decide)
/-- the last of a list of triples -/
theorem ev_lastFld {r : List T3} {v : V} {z : Int} (ha : Ev ta σ H (.ref p)) (hi : Ev ti σ H (.int (-1))) (hp : TL H p (r ++ [j])) (hz : Ev te σ H (.int z)) (hv : atI (tv j) z = some v) : Ev (tOp (rIxT K) (tOp (rIxL K) ta ti) te) σ H v := by
  obtain ⟨ts, h1, h2⟩ := hp
  have h3 := h2.drop r.length
  rw [List.drop_left] at h3
  obtain ⟨u, hu⟩ : ∃ u, ts.drop r.length = [u] := List.length_eq_one_iff.mp h3.len
  have a : AtT H u j := by
    rw [hu] at h3
    cases h3 with
    | cons a _ => exact a
  have e : ts.map V.ref = (ts.take r.length).map V.ref ++ [V.ref u] := by
    rw [show ([V.ref u] : List V) = [u].map V.ref from rfl, ← List.map_append, ← hu, List.take_append_drop]
  rw [e] at h1
  exact ev_op (ev_op ha hi (rv_ixL (SqL.of h1) (atI_last _ _))) hz (rv_ixT (SqT.of a) hv)
theorem etl_catV (ha : Ev ta σ H (.ref p)) (hp : TL H p js) (hb : EvTL tb σ H ks) (hz : js.length + ks.length ≤ 100000) : EvTL (tOp rCat ta tb) σ H (js ++ ks) := fun H1 e Q k =>
  ha H1 e _ fun H2 e2 => hb H2 (e.trans e2) _ fun b H3 nb e3 pb => by
    obtain ⟨ts, h1, h2⟩ := hp.mono ((e.trans e2).trans e3)
    obtain ⟨us, g1, g2⟩ := pb
    refine ⟨p, b, _, _, rfl, rfl, h1, g1, sz_of (by rw [List.length_map, List.length_map, h2.len, g2.len]; exact hz), fun d nd => k d _ (fresh_back (e2.trans e3) nd) ((e2.trans e3).trans (Ex.new nd)) ⟨ts ++ us, ?_, (h2.append g2).mono (Ex.new nd)⟩⟩
    rw [upd_same, List.map_append]
end
end DL
namespace DL
open PySem PySem.Spec PyProof.Rows L2 Evl
section
variable {K : PySem.W.Frag} {σ : St} {H H' : Hp} {ta tb te ti : TE} {tA : TA} {t' : TT} {D : Ends} {tu tz : TS} {g : TG} {p q l : Addr} {js ks : List T3} {j : T3} {ns ms : List Int}
/-- for .. in reversed(a list of triples) -/
theorem s_forRvTL (h : EvA tA σ H [.ref p]) (hx : TL H p js) (Pv : Nat → St → Hp → Prop) (h0 : ∀ H1, Ex H H1 → Pv 0 σ H1) (hl : ∀ i σ H, Pv i σ H → TL H p js)
    (hs : ∀ i q t σ H, i < js.length → js[js.length - 1 - i]? = some q → AtT H t q → Pv i σ H → g (.ref t) σ H fun σ2 H2 => tu { D with nx := Pv (i + 1), ct := Pv (i + 1), bk := D.nx } σ2 H2) (hd : ∀ σ H, Pv js.length σ H → D.nx σ H) : tFor (iRev K tA) g tu D σ H :=
  h H (Ex.refl H) _ fun H1 e => by
    obtain ⟨xs, h1, h2⟩ := (hx.mono e).sq (K := K)
    refine ⟨p, xs, rfl, h1, ?_⟩
    rw [h2]
    refine ⟨fun i m σ H => m = js.length - i ∧ i ≤ js.length ∧ Pv i σ H, ⟨js.length, rfl, Nat.zero_le _, h0 H1 e⟩, ?_⟩
    rintro i m σ H ⟨rfl, hi, pv⟩
    have q := hl i σ H pv
    by_cases hlt : i < js.length
    · have hj : js.length - 1 - i < js.length := by omega
      obtain ⟨t, ts, g1, g2, a⟩ := q.atI (List.getElem?_eq_getElem hj)
      refine .inr ⟨⟨hlt, _, _, SqL.of g1, g2⟩, Pv (i + 1), fun σ' H' p' => ⟨js.length - (i + 1), by omega, rfl, hlt, p'⟩, fun v H' y => ?_⟩
      obtain ⟨e, hy⟩ := y
      subst e
      have z := (hy _ (SqL.of g1)).symm.trans g2
      cases z
      exact hs i _ t σ _ hlt (List.getElem?_eq_getElem hj) a pv
    · have e : i = js.length := by omega
      subst e
      exact .inl ⟨Nat.le_refl _, hd σ H pv⟩
theorem q_forRvTL (h : EvA tA σ H [.ref p]) (hx : TL H p js) (Pv : Nat → St → Hp → Prop) (h0 : ∀ H1, Ex H H1 → Pv 0 σ H1) (hl : ∀ i σ H, Pv i σ H → TL H p js)
    (hs : ∀ i q t σ H, i < js.length → js[js.length - 1 - i]? = some q → AtT H t q → Pv i σ H → g (.ref t) σ H fun σ2 H2 => tu { D with nx := Pv (i + 1), ct := Pv (i + 1), bk := tz D } σ2 H2) (hd : ∀ σ H, Pv js.length σ H → tz D σ H) : tSeq (tFor (iRev K tA) g tu) tz D σ H :=
  s_forRvTL (D := { D with nx := tz D }) h hx Pv h0 hl hs hd
/-- [.. for i, x in enumerate(a new list)] -/
theorem el_lcEnN {xs : List V} {tl : TE} {vs : List Nat} (v : Nat → V) (s2 : Nat → V → St) (h : EvL tl σ H xs) (hz : xs.length ≤ 40000)
    (hg : ∀ (i : Nat) x T H1 (Q : St → Hp → Prop), H1 T = some (.tup [.int (i : Int), x]) → Q (s2 i x) H1 → g (.ref T) (wipe σ vs) H1 Q) (hw : ∀ i x, wipe (s2 i x) vs = wipe σ vs)
    (he : ∀ i x H1, xs[i]? = some x → Ex H H1 → Ev te (s2 i x) H1 (v i)) : EvL (tLc (iEnum K (tCons tl tNil)) g tYes te vs) σ H ((List.range xs.length).map v) := fun H0 e Q k =>
  h H0 e _ fun p H1 np e1 hp => by
    refine ⟨p, xs, rfl, SqL.of hp, fun Dl hD => ?_⟩
    refine ⟨fun i m H' => m = xs.length - i ∧ i ≤ xs.length ∧ Ex H1 H' ∧ H' Dl = some (.lst ((List.range i).map v)), ⟨xs.length, rfl, Nat.zero_le _, Ex.new hD, upd_same⟩, ?_⟩
    rintro i m H' ⟨rfl, hi, e2, hDl⟩
    have hpx := e2 _ _ hp
    by_cases hlt : i < xs.length
    · refine .inr ⟨⟨xs, xs[i], SqL.of hpx, List.getElem?_eq_getElem hlt⟩, fun H2 => Ex H1 H2 ∧ H2 Dl = some (.lst ((List.range (i + 1)).map v)), fun H2 p2 => ⟨xs.length - (i + 1), by omega, rfl, hlt, p2.1, p2.2⟩, fun y H2 hy => ?_⟩
      obtain ⟨T, x, rfl, nT, rfl, hx⟩ := hy
      have hx := hx _ (SqL.of hpx)
      have e3 : Ex H' (upd H' T (.tup [.int (i : Int), x])) := Ex.new nT
      refine hg i x T _ _ upd_same ⟨hw i x, ?_⟩
      show te (s2 i x) _ _
      refine he i x _ hx (((e.trans e1).trans e2).trans e3) _ (Ex.refl _) _ fun H4 e4 => ?_
      refine ⟨_, e4 _ _ (e3 _ _ hDl), sz_lt (by rw [List.length_map, List.length_range]; omega), Ex.mut ((e2.trans e3).trans e4) hD, ?_⟩
      rw [List.range_succ, List.map_append]
      exact upd_same
    · have e0 : i = xs.length := by omega
      subst e0
      exact .inl ⟨⟨xs, SqL.of hpx, Nat.le_refl _⟩, k Dl H' (fresh_back e1 hD) (e1.trans e2) hDl⟩
theorem len_flat (f : Int → Int → Int) (es : List Int) : ∀ bs : List Int, (bs.flatMap fun x => es.map (f x)).length = bs.length * es.length
  | [] => by rw [List.flatMap_nil, List.length_nil, Nat.zero_mul]
  | b :: bs => by
    rw [List.flatMap_cons, List.length_append, List.length_map, len_flat f es bs, List.length_cons, Nat.succ_mul, Nat.add_comm]
/-- [f(b, e) for b in bs for e in es] -/
theorem el_lc2I {bs es : List Int} {tl tl1 : TE} {a b : Nat} {vs vs1 : List Nat} (f : Int → Int → Int) (h : Ev tl σ H (.ref p)) (hb : IL H p bs) (hE : IL H q es) (h1 : ∀ x H1, Ex H H1 → Ev tl1 ((wipe σ vs).set a (some (.int x))) H1 (.ref q)) (hz : bs.length ≤ 100) (hz1 : es.length ≤ 100)
    (hw : ∀ x, wipe ((wipe σ vs).set a (some (.int x))) vs = wipe σ vs) (hw1 : ∀ x y, wipe ((wipe ((wipe σ vs).set a (some (.int x))) vs1).set b (some (.int y))) vs1 = wipe ((wipe σ vs).set a (some (.int x))) vs1)
    (he : ∀ x y H1, Ex H H1 → Ev te ((wipe ((wipe σ vs).set a (some (.int x))) vs1).set b (some (.int y))) H1 (.int (f x y))) :
    EvL (tLc2 (iList K tl) (gName a) tYes (iList K tl1) (gName b) tYes te vs vs1) σ H ((bs.flatMap fun x => es.map (f x)).map V.int) := fun H0 e Q k =>
  h H0 e _ fun H1 e1 => by
    have eb := e.trans e1
    have hb1 := hb.mono eb
    refine ⟨p, rfl, ⟨_, SqL.of hb1⟩, fun Dl hD => ?_⟩
    refine ⟨fun i m H' => m = bs.length - i ∧ i ≤ bs.length ∧ Ex H1 H' ∧ H' Dl = some (.lst (((bs.take i).flatMap fun x => es.map (f x)).map V.int)), ⟨bs.length, rfl, Nat.zero_le _, Ex.new hD, upd_same⟩, ?_⟩
    rintro i m H' ⟨rfl, hi, e2, hDl⟩
    have hpx := hb1.mono e2
    by_cases hlt : i < bs.length
    · have hbi := List.getElem?_eq_getElem hlt
      have hvi : (bs.map V.int)[i]? = some (V.int bs[i]) := by rw [List.getElem?_map, hbi]; rfl
      refine .inr ⟨⟨_, _, SqL.of hpx, hvi⟩, fun H2 => Ex H1 H2 ∧ H2 Dl = some (.lst (((bs.take (i + 1)).flatMap fun x => es.map (f x)).map V.int)), fun H2 p2 => ⟨bs.length - (i + 1), by omega, rfl, hlt, p2.1, p2.2⟩, fun y H2 hy => ?_⟩
      obtain ⟨rfl, hy⟩ := hy
      have hy := (hy _ (SqL.of hpx)).symm.trans hvi
      cases hy
      generalize bs[i] = x at *
      refine ⟨hw x, ?_⟩
      unfold tYes
      dsimp only
      rw [if_pos rfl]
      refine h1 x H2 (eb.trans e2) H2 (Ex.refl _) _ fun H3 e3 => ?_
      have hE3 := hE.mono ((eb.trans e2).trans e3)
      refine ⟨q, rfl, ⟨_, SqL.of hE3⟩, ?_⟩
      refine ⟨fun j m H' => m = es.length - j ∧ j ≤ es.length ∧ Ex H1 H' ∧ H' Dl = some (.lst (((bs.take i).flatMap (fun x => es.map (f x)) ++ (es.take j).map (f x)).map V.int)), ⟨es.length, rfl, Nat.zero_le _, e2.trans e3, ?_⟩, ?_⟩
      · rw [List.take_zero, List.map_nil, List.append_nil]
        exact e3 _ _ hDl
      · rintro j m H4 ⟨rfl, hj, e4, hDl4⟩
        have hq4 := hE.mono (eb.trans e4)
        by_cases hlt2 : j < es.length
        · have hej := List.getElem?_eq_getElem hlt2
          have hvj : (es.map V.int)[j]? = some (V.int es[j]) := by rw [List.getElem?_map, hej]; rfl
          refine .inr ⟨⟨_, _, SqL.of hq4, hvj⟩, fun H2 => Ex H1 H2 ∧ H2 Dl = some (.lst (((bs.take i).flatMap (fun x => es.map (f x)) ++ (es.take (j + 1)).map (f x)).map V.int)), fun H2 p2 => ⟨es.length - (j + 1), by omega, rfl, hlt2, p2.1, p2.2⟩, fun y H5 hy => ?_⟩
          obtain ⟨rfl, hy⟩ := hy
          have hy := (hy _ (SqL.of hq4)).symm.trans hvj
          cases hy
          refine ⟨hw1 x _, ?_⟩
          show te _ H5 _
          refine he x es[j] H5 (eb.trans e4) H5 (Ex.refl _) _ fun H6 e6 => ?_
          refine ⟨_, e6 _ _ hDl4, sz_lt ?_, Ex.mut (e4.trans e6) hD, ?_⟩
          · rw [List.length_map, List.length_append, len_flat, List.length_map, List.length_take, List.length_take]
            have : min i bs.length * es.length ≤ 100 * 100 := Nat.mul_le_mul (by omega) hz1
            omega
          · rw [List.take_add_one, hej, upd_same, List.map_append, List.map_append, List.map_append, List.map_append, List.append_assoc]
            rfl
        · have e0 : j = es.length := by omega
          subst e0
          refine .inl ⟨⟨_, SqL.of hq4, by rw [List.length_map]; exact Nat.le_refl _⟩, e4, ?_⟩
          rw [hDl4, List.take_length, List.take_add_one, hbi, List.flatMap_append]
          congr 3
          show _ = _ ++ ([x].flatMap fun x => es.map (f x))
          rw [List.flatMap_cons, List.flatMap_nil, List.append_nil]
    · have e0 : i = bs.length := by omega
      subst e0
      rw [List.take_length] at hDl
      exact .inl ⟨⟨_, SqL.of hpx, by rw [List.length_map]; exact Nat.le_refl _⟩, k Dl H' (fresh_back e1 hD) (e1.trans e2) hDl⟩
theorem ev_maxN (h : EvL te σ H (ns.map V.int)) {m : Int} (hm : m ∈ ns) (hle : ∀ y ∈ ns, y ≤ m) : Ev (tCB (rMax K) (tCons te tNil)) σ H (.int m) := fun H1 e Q k =>
  h H1 e _ fun a H2 _ e2 hl => ⟨a, ns, rfl, SqL.of hl, List.length_pos_iff.mpr (List.ne_nil_of_mem hm), fun m' hm' hle' => by
    have : m' = m := Int.le_antisymm (hle _ hm') (hle' _ hm)
    rw [this]; exact k H2 e2⟩
/-- [x] + a new list of whole numbers -/
theorem el_consI {x : Int} (ha : Ev ta σ H (.int x)) (hb : EvL tb σ H (ns.map V.int)) (hz : ns.length ≤ 99999) : EvL (tOp rCat (tLst (tCons ta tNil)) tb) σ H ((x :: ns).map V.int) := fun H1 e Q k =>
  ha H1 e _ fun H2 e2 => ⟨sz_of (show 1 ≤ 100000 by decide), fun a na => hb _ ((e.trans e2).trans (Ex.new na)) _ fun b H3 nb e3 h3 =>
    ⟨a, b, _, _, rfl, rfl, e3 _ _ upd_same, h3, sz_of (by rw [List.length_map]; show 1 + ns.length ≤ 100000; omega), fun d nd => k d _ (fresh_back ((e2.trans (Ex.new na)).trans e3) nd) (((e2.trans (Ex.new na)).trans e3).trans (Ex.new nd)) (by rw [upd_same]; rfl)⟩⟩
/-- truth of a new list -/
theorem et_truNL {xs : List V} (h : EvL te σ H xs) : EvT (fun σ H Q => te σ H fun x H' => ∃ k, TruV K x H' k ∧ Q k H') σ H (!xs.isEmpty) := fun H1 e Q k =>
  h H1 e _ fun p H2 _ e2 hp => ⟨!xs.isEmpty, .inl ⟨_, SqL.of hp, rfl⟩, k H2 e2⟩
/-! ### the begin, looked for from the last piece on -/
def Rv (js ps : List T3) (d : Int) (m k : Nat) (b : Int) : Prop :=
  (m < k ∧ b = d) ∨ (k ≤ m ∧ (∃ r, ps[k]? = some r ∧ r.2.1 = b) ∧ (∀ j q, k ≤ j → j ≤ m → ps[j]? = some q → du js q.1.toNat ≤ d) ∧ ∀ j q r, k ≤ j → j < m → ps[j]? = some q → ps[j + 1]? = some r → q.2.2 = r.2.1)
theorem Rv.skip {js ps : List T3} (W : WayOk js ps) {d : Int} {m k : Nat} {b : Int} {x q : T3} (hx : ps[m]? = some x) (hxb : x.2.1 < d) (hxe : d ≤ x.2.2) (I : Rv js ps d m (k + 1) b) (h : ps[k]? = some q) (hq : d ≤ q.2.1) : Rv js ps d m k b := by
  have hmk : m < k := by
    rcases Nat.lt_or_ge m k with g | g
    · exact g
    · exfalso
      rcases Nat.lt_or_ge k m with g2 | g2
      · have h1 := ord W g2 h hx
        have h2 := (W k q h).be
        omega
      · have : k = m := by omega
        subst this
        rw [hx] at h
        cases h
        omega
  rcases I with ⟨_, hb⟩ | ⟨h1, _⟩
  · exact .inl ⟨hmk, hb⟩
  · omega
theorem Rv.at_ {js ps : List T3} (W : WayOk js ps) {d : Int} {m k : Nat} {b : Int} {x q : T3} (hx : ps[m]? = some x) (hxb : x.2.1 < d) (hxe : d ≤ x.2.2) (I : Rv js ps d m (k + 1) b) (h : ps[k]? = some q) (hq : ¬ d ≤ q.2.1) : k ≤ m := by
  rcases Nat.lt_or_ge m k with g | g
  · have h1 := ord W g hx h
    omega
  · exact g
theorem Rv.step {js ps : List T3} (W : WayOk js ps) {d : Int} {m k : Nat} {b : Int} {x q : T3} (hx : ps[m]? = some x) (hxb : x.2.1 < d) (hxe : d ≤ x.2.2) (I : Rv js ps d m (k + 1) b) (h : ps[k]? = some q) (hq : ¬ d ≤ q.2.1)
    (h1 : ¬ q.2.2 < b) (h2 : ¬ d < du js q.1.toNat) : Rv js ps d m k q.2.1 := by
  have hk := I.at_ W hx hxb hxe h hq
  refine .inr ⟨hk, ⟨q, h, rfl⟩, ?_⟩
  rcases I with ⟨g, hb⟩ | ⟨g, ⟨r, hr, hb⟩, g1, g2⟩
  · have : k = m := by omega
    subst this
    exact ⟨fun j y a1 a2 hy => by
      have : j = k := by omega
      subst this
      rw [h] at hy
      cases hy
      omega, fun j _ _ a1 a2 => by omega⟩
  · refine ⟨fun j y a1 a2 hy => ?_, fun j y z a1 a2 hy hz => ?_⟩
    · rcases Nat.eq_or_lt_of_le a1 with e | e
      · subst e
        rw [h] at hy
        cases hy
        omega
      · exact g1 j y e a2 hy
    · rcases Nat.eq_or_lt_of_le a1 with e | e
      · subst e
        rw [h] at hy
        rw [hr] at hz
        cases hy
        cases hz
        have := ord W (Nat.lt_succ_self k) h hr
        omega
      · exact g2 j y z e a2 hy hz
/-- the walk stops: at a break, or behind the first piece -/
theorem Rv.stop {js ps : List T3} (W : WayOk js ps) {d : Int} {m k : Nat} {b : Int} {x q : T3} (hx : ps[m]? = some x) (hxb : x.2.1 < d) (hxe : d ≤ x.2.2) (hxd : du js x.1.toNat ≤ d) (I : Rv js ps d m (k + 1) b) (h : ps[k]? = some q) (hq : ¬ d ≤ q.2.1)
    (hs : q.2.2 < b ∨ d < du js q.1.toNat) : ∃ (k : Nat) (r : T3), ps[k]? = some r ∧ r.2.1 = b ∧ Bk js ps d k m := by
  have hk := I.at_ W hx hxb hxe h hq
  rcases I with ⟨g, hb⟩ | ⟨g, ⟨r, hr, hb⟩, g1, g2⟩
  · have : k = m := by omega
    subst this
    rw [hx] at h
    cases h
    omega
  · refine ⟨k + 1, r, hr, hb, g, g1, g2, .inr ⟨q, r, h, hr, ?_⟩⟩
    rw [hb]
    exact hs
theorem Rv.first {js ps : List T3} {d : Int} {m : Nat} {b : Int} (I : Rv js ps d m 0 b) : ∃ (k : Nat) (r : T3), ps[k]? = some r ∧ r.2.1 = b ∧ Bk js ps d k m := by
  rcases I with ⟨g, _⟩ | ⟨g, ⟨r, hr, hb⟩, g1, g2⟩
  · omega
  · exact ⟨0, r, hr, hb, g, g1, g2, .inl rfl⟩
end
/-- the least of the spare times is what leastM says -/
theorem least_flat {js : List T3} (S : Sound js) (c d : Int) : lmin ((comesB js c).flatMap fun b => (duesE js d).map fun e => e - b - loadJ js b e) = leastM js c d := by
  have hmem : ∀ b e, b ∈ comesB js c → e ∈ duesE js d → e - b - loadJ js b e ∈ (comesB js c).flatMap fun b => (duesE js d).map fun e => e - b - loadJ js b e := fun b e hb he =>
    List.mem_flatMap.mpr ⟨b, hb, List.mem_map.mpr ⟨e, he, rfl⟩⟩
  have hle := (minB_le js (duesE js d) (comesB js c) (d - c)).2
  refine (lmin_uniq ?_ fun x hx => ?_).symm
  · rcases minB_mem js (duesE js d) (comesB js c) (d - c) with g | ⟨b, hb, e, he, g⟩
    · have h1 : c ∈ comesB js c := List.mem_cons_self
      have h2 : d ∈ duesE js d := List.mem_cons_self
      have h3 := hle c h1 d h2
      have h4 := load_nn S c d
      have : leastM js c d = d - c - loadJ js c d := by
        unfold leastM
        omega
      rw [this]
      exact hmem c d h1 h2
    · have : leastM js c d = e - b - loadJ js b e := g
      rw [this]
      exact hmem b e hb he
  · obtain ⟨b, hb, hx⟩ := List.mem_flatMap.mp hx
    obtain ⟨e, he, rfl⟩ := List.mem_map.mp hx
    exact hle b hb e he
theorem comesB_len (js : List T3) (c : Int) : (comesB js c).length ≤ js.length + 1 := by
  unfold comesB
  rw [List.length_cons, List.length_map]
  have := List.length_filter_le (fun j : T3 => decide (j.1 < c)) js
  omega
theorem duesE_len (js : List T3) (d : Int) : (duesE js d).length ≤ js.length + 1 := by
  unfold duesE
  rw [List.length_cons, List.length_map]
  have := List.length_filter_le (fun j : T3 => decide (d < j.2.2)) js
  omega
end DL
/-! several except clauses, each with a name or without; isinstance of what was caught -/
namespace L2
open PySem PySem.Spec PyProof.Rows
/-- slot o, if there is one -/
def nmd (o : Option Nat) (x : Option V) (σ : St) : St := match o with
  | none => σ
  | some i => σ.set i x
def Ends.past (D : Ends) (o : Option Nat) : Ends :=
  { nx := fun σ H => D.nx (nmd o none σ) H, rt := D.rt, bk := fun σ H => D.bk (nmd o none σ) H, ct := fun σ H => D.ct (nmd o none σ) H }
abbrev Cl := Value × Option Nat × (Addr → Value → Option Addr → TS)
def wCl (K : PySem.W.Frag) (Wout : WX) (D : Ends) : List Cl → WX
  | [] => Wout
  | (c, o, ts) :: r => fun cls d σ H => ∃ b, PySem.W.exmOne K cls c = some b ∧
      (b = true → ∀ a, H a = none → ts a cls d (D.past o) (nmd o (some (.ref a)) σ) H) ∧ (b = false → wCl K Wout D r cls d σ H)
def SuiteOk (X : Cx) (ss : List Stmt) (ts : Addr → Value → Option Addr → TS) : Prop :=
  ∀ (a : Addr) (oe : Obj) (cls : Value) (d : Option Addr) (pn : List (Addr × Obj)), Zc cls d oe → (∃ us, oe.data = .fields us) → PSs (X.suite a ((a, oe) :: pn)) ss (ts a cls d)
inductive ClsOk (X : Cx) : List ExceptHandler → List Cl → Prop
  | nil : ClsOk X [] []
  | bare {x : Str} {c : Value} {ts : Addr → Value → Option Addr → TS} {u : Stmt} {us : List Stmt} {np ps : Pos} {hds : List ExceptHandler} {l : List Cl}
      (hc : Names X x c) (hu : SuiteOk X (u :: us) ts) (r : ClsOk X hds l) : ClsOk X (.ExceptHandler (some (.Name x np)) none (u :: us) ps :: hds) ((c, none, ts) :: l)
  | named {x n : Str} {i : Nat} {c : Value} {ts : Addr → Value → Option Addr → TS} {u : Stmt} {us : List Stmt} {np ps : Pos} {hds : List ExceptHandler} {l : List Cl}
      (hi : X.N[i]? = some n) (hn : X.env.kindOf n = some .local) (hc : Names X x c) (hu : SuiteOk X (u :: us) ts) (r : ClsOk X hds l) :
      ClsOk X (.ExceptHandler (some (.Name x np)) (some n) (u :: us) ps :: hds) ((c, some i, ts) :: l)
section
variable {X : Cx} {body : List Stmt} {g₀ : ExceptHandler} {gs : List ExceptHandler} {l : List Cl} {pos : Pos} {tb : WX → TS} {Wout : WX}
theorem ps_try_cl (stk : X.stack = X.env :: X.outer) (frm : X.env.frame = some X.env.locals) (nod : X.N.Nodup) (out : Takes X Wout)
    (inner : ∀ (W : WX) (qs : List (Addr × Obj)) (ex : Value → Shared → Prop), Takes (X.tr qs ex) W → PassesOwn (model X.prog X.w) X.A X.env ex → PSs (X.tr qs ex) body (tb W))
    (cl : ClsOk X (g₀ :: gs) l) : PS X (.Try body (g₀ :: gs) [] [] pos) (fun D σ H => tb (wCl X.K Wout D l) D σ H) := by
  refine ⟨fun pins s σ H D I rd => ?_⟩
  have frames : X.A.frames = some (X.env :: X.outer) := I.ok.frames.trans (congrArg some stk)
  refine wpAny_Try_except ?_
  refine wpAny_mono
    ((inner (wCl X.K Wout D l) (X.pn ++ pins)
        (fun ev t1 => wpAny (model X.prog X.w) X.A (noteFrame ev X.env) (fun _ t2 =>
          wpAny (model X.prog X.w) X.A (setFlight ev none) (fun _ t3 =>
            wpAny (model X.prog X.w) X.A (handleBy ev X.env (g₀ :: gs)) (SP X pins D) X.xe t3) X.xe t2) X.xe t1)
        (fun ev t1 caught => ?_) PassesOwn.looking).run [] s σ H D (I.toTry _) rd)
    (fun fl t1 done => ?_) (fun _ _ z => z)
  · obtain ⟨a, B, sB, _, σ1, H1, cls, d, rfl, inv0, nB, up, sky, na, os, agr, wish⟩ := caught
    have inv1 : Inv X pins σ1 H1 sB := inv0.ofTry I.ok
    rw [show (X.tr (X.pn ++ pins) _).stack = X.env :: X.outer from stk] at sky
    show wpAny (model X.prog X.w) X.A (noteFrame (.ref a) X.env) _ _ _
    refine Sky.land Zc.steady frames frm sky fun hp fly upA => ?_
    have inv2 : Inv X pins σ1 H1 { t1 with heap := hp } := inv1.landed nB fly.1 (up.trans upA) os agr
    obtain ⟨oe, us, got, zc, dat⟩ := fly.there
    have off : a ∉ frs (X.env :: X.outer) := fun hm => by
      obtain ⟨_, o', e', no⟩ := fly.2.2.1.mem hm
      rw [got] at e'
      cases e'
      exact no _ dat
    have offL : a ≠ X.env.locals := fun z => off (List.mem_filterMap.mpr ⟨X.env, List.mem_cons_self, by rw [frm, z]⟩)
    have offF : a ∉ X.fs := fun hm => by
      obtain ⟨e, he, q⟩ := List.mem_filterMap.mp hm
      exact off (List.mem_filterMap.mpr ⟨e, List.mem_cons_of_mem _ he, q⟩)
    have at0 := inv2.suite got dat na offL offF
    have ty : PySem.W.Looks (model X.prog X.w) hp (typeOf (.ref a)) cls := fun A Q E t k q => wpAny_typeOf_ref (k _ _ got) (by rw [zc.1]; exact q)
    have name : ∀ {x : Str} {c : Value} {np : Pos} {Q : Value → Shared → Prop} {E : Value → Shared → Prop}, Names X x c → Q c { t1 with heap := hp } →
        wpAny (model X.prog X.w) (X.A.mark (some (.ref a))) (eval (.Name x np) X.env) Q E { t1 with heap := hp } := fun {x c np Q E} hc q => by
      obtain ⟨g, nd, m | ⟨m, bv, nn⟩⟩ := hc
      · exact ld_glob (X := X.suite a ((a, oe) :: (X.pn ++ pins))) at0 g m q nd
      · exact ld_blt (X := X.suite a ((a, oe) :: (X.pn ++ pins))) at0 g m bv q nn nd
    have walk : ∀ {hds : List ExceptHandler} {cs : List Cl}, ClsOk X hds cs → wCl X.K Wout D cs cls d σ1 H1 →
        wpAny (model X.prog X.w) X.A (handleBy (.ref a) X.env hds) (SP X pins D) X.xe { t1 with heap := hp } := by
      intro hds cs ok
      induction ok with
      | nil =>
        intro w
        refine wpAny_handleBy_nil ?_
        obtain ⟨_, _, _, o1, vs1, T1, _, _, q1, _, q3, q4, _⟩ := id fly
        unfold PySem.passOn
        refine wpAny_bind (wpAny_field q1 q3 q4 ?_)
        rw [if_neg (by simp : ¬ ((Value.ref T1 == Value.none) = true))]
        have away : wpAny (model X.prog X.w) X.A (setFlight (.ref a) X.env.frame) (fun _ t4 =>
            wpAny (model X.prog X.w) X.A (throw (.ref a) : Sem Flow) (SP X pins D) X.xe t4) X.xe { t1 with heap := hp } := by
          rw [frm]
          refine HandSPX.setFlight_upZ fly fun h4 fly4 up4 => wpAny_throw (out _ _ ?_)
          exact ⟨a, B, sB, pins, σ1, H1, cls, d, rfl, inv1, nB, (up.trans upA).trans up4, .inr (.inr (by rw [stk]; exact fly4)), na, os, agr, w⟩
        first
          | exact wpAny_bind (wpAny_pure (wpAny_bind away))
          | exact wpAny_bind away
      | @bare x c ts u us2 np ps hds2 l2 hc hu r ih =>
        rintro ⟨b, ask, yes, no⟩
        refine wpAny_handleBy_cons (codeAny_handlers_test ?_) (by intro q; cases q)
        refine name hc ((PySem.W.exm_one (M := model X.prog X.w) inv2.kIn ty ask).here ?_)
        cases b with
        | false =>
          show wpAny _ X.A (handleBy (.ref a) X.env hds2) _ _ _
          exact ih (no rfl)
        | true =>
          refine codeAny_handlers_suite ?_
          refine HandSPX.lands_againZ fly fun h4 fly4 up4 => ?_
          have inv4 : Inv X pins σ1 H1 { t1 with heap := h4 } := inv1.landed nB fly4.1 ((up.trans upA).trans up4) os agr
          obtain ⟨oe4, _, got4, zc4, dat4⟩ := fly4.there
          refine wpAny_mono ((hu a oe4 cls d (X.pn ++ pins) zc4 ⟨_, dat4⟩).run [] _ _ H1 _ (inv4.suite got4 dat4 na offL offF) (yes rfl a na)) (fun f t6 fin => ?_) (fun _ _ z => z.elim)
          cases f with
          | ret v =>
            obtain ⟨_, _, _, k1, k2, k3⟩ := fin
            exact ⟨_, _, _, k1.unsuite I.ok, k2, k3⟩
          | next => obtain ⟨_, _, k1, k2⟩ := fin; exact ⟨_, _, k1.unsuite I.ok, k2⟩
          | brk => obtain ⟨_, _, k1, k2⟩ := fin; exact ⟨_, _, k1.unsuite I.ok, k2⟩
          | cont => obtain ⟨_, _, k1, k2⟩ := fin; exact ⟨_, _, k1.unsuite I.ok, k2⟩
      | @named x n i c ts u us2 np ps hds2 l2 hi hn hc hu r ih =>
        rintro ⟨b, ask, yes, no⟩
        refine wpAny_handleBy_cons (codeAny_handlers_test ?_) (by intro q; cases q)
        refine name hc ((PySem.W.exm_one (M := model X.prog X.w) inv2.kIn ty ask).here ?_)
        cases b with
        | false =>
          show wpAny _ X.A (handleBy (.ref a) X.env hds2) _ _ _
          exact ih (no rfl)
        | true =>
          refine codeAny_handlers_suite_as ?_
          refine HandSPX.lands_againZ fly fun h4 fly4 up4 => ?_
          have inv4 : Inv X pins σ1 H1 { t1 with heap := h4 } := inv1.landed nB fly4.1 ((up.trans upA).trans up4) os agr
          obtain ⟨oe4, _, got4, zc4, dat4⟩ := fly4.there
          refine store_ok (X := X.suite a ((a, oe4) :: (X.pn ++ pins))) (v := .ref a) (inv4.suite got4 dat4 na offL offF) nod hi (.inl hn) rfl (fun t5 inv5 => ?_) (.inr hn)
          refine wpAny_mono ((hu a oe4 cls d (X.pn ++ pins) zc4 ⟨_, dat4⟩).run [] t5 _ H1 _ inv5 (yes rfl a na)) (fun f t6 fin => ?_) (fun _ _ z => z.elim)
          have gone : ∀ {σ6 : St} {H6 : Hp} {Q : Shared → Prop}, Inv (X.suite a ((a, oe4) :: (X.pn ++ pins))) [] σ6 H6 t6 → (∀ t7, Inv X pins (σ6.set i none) H6 t7 → Q t7) →
              wpAny (model X.prog X.w) X.A (do bindName X.env n .none; unbindBehindTheSuite X.env n ps) (fun _ t7 => Q t7) X.xe t6 := fun k q => gone_ok (k.unsuite I.ok) nod hi hn q
          cases f with
          | ret v =>
            obtain ⟨_, _, _, k1, k2, k3⟩ := fin
            exact gone k1 fun _ k7 => ⟨_, _, _, k7, k2, k3⟩
          | next => obtain ⟨_, _, k1, k2⟩ := fin; exact gone k1 fun _ k7 => ⟨_, _, k7, k2⟩
          | brk => obtain ⟨_, _, k1, k2⟩ := fin; exact gone k1 fun _ k7 => ⟨_, _, k7, k2⟩
          | cont => obtain ⟨_, _, k1, k2⟩ := fin; exact gone k1 fun _ k7 => ⟨_, _, k7, k2⟩
    exact walk cl wish
  · cases fl with
    | ret v =>
      obtain ⟨_, _, _, k1, k2, k3⟩ := done
      exact ⟨_, _, _, k1.ofTry I.ok, k2, k3⟩
    | next => obtain ⟨_, _, k1, k2⟩ := done; exact wpAny_execs_nil ⟨_, _, k1.ofTry I.ok, k2⟩
    | brk => obtain ⟨_, _, k1, k2⟩ := done; exact ⟨_, _, k1.ofTry I.ok, k2⟩
    | cont => obtain ⟨_, _, k1, k2⟩ := done; exact ⟨_, _, k1.ofTry I.ok, k2⟩
end
/-! ### isinstance of what was caught -/
def rIsC (K : PySem.W.Frag) (a : Addr) (cls : Value) (d : Option Addr) : List V → Hp → VK → Prop := fun xs H Q => ∃ (C : Addr) (c : V) (cv : Value) (b : Bool),
  cls = .ref C ∧ d = none ∧ ExcC K C ∧ xs = [.ref a, c] ∧ (∀ u, RelV c u → u = cv) ∧ PySem.W.kitOne K (.ref C) cv = some b ∧ Q (.bl b) H
theorem call_isC {X : Cx} {a : Addr} {cls : Value} {d : Option Addr} {oe : Obj} {pn : List (Addr × Obj)} (hz : Zc cls d oe) (hf : ∃ vs, oe.data = .fields vs) : CallR (X.suite a ((a, oe) :: pn)) (.builtin "isinstance") (rIsC X.K a cls d) := by
  intro pins s σ H xs us Q I r h
  obtain ⟨C, c, cv, b, rfl, rfl, hC, rfl, h1, h2, h3⟩ := h
  exact call_isE hC hz hf pins s σ H _ us Q I r ⟨c, cv, b, rfl, h1, h2, h3⟩
/-- .. of a tuple of classes, just laid -/
def rIsCT (K : PySem.W.Frag) (a : Addr) (cls : Value) (d : Option Addr) : List V → Hp → VK → Prop := fun xs H Q => ∃ (C tp : Addr) (cs : List V) (us : List Value) (b : Bool),
  cls = .ref C ∧ d = none ∧ ExcC K C ∧ xs = [.ref a, .ref tp] ∧ H tp = some (.tup cs) ∧ Paired ClsV cs us ∧ PySem.W.kitAny K (.ref C) us = some b ∧ Q (.bl b) H
theorem call_isCT {X : Cx} {a : Addr} {cls : Value} {d : Option Addr} {oe : Obj} {pn : List (Addr × Obj)} (hz : Zc cls d oe) (hf : ∃ vs, oe.data = .fields vs) : CallR (X.suite a ((a, oe) :: pn)) (.builtin "isinstance") (rIsCT X.K a cls d) := by
  intro pins s σ H xs us Q I r h
  obtain ⟨C, tp, cs, ws, b, rfl, rfl, hC, rfl, hT, k, e, q⟩ := h
  obtain ⟨u1, u2, rfl, r1, r2⟩ := vals2 r
  cases (show u1 = Value.ref a from r1)
  cases (show u2 = Value.ref tp from r2)
  have got := (I.pin (a, oe) (List.mem_append_left _ List.mem_cons_self)).1
  have inst : PySem.W.InstAt s.heap a oe C none := by
    obtain ⟨vs, hv⟩ := hf
    obtain ⟨oc, od, dt, sl⟩ := oe
    obtain ⟨z1, z2⟩ := hz
    dsimp only at z1 z2 hv
    subst z1 z2 hv
    exact ⟨got, rfl, rfl, trivial⟩
  obtain ⟨_, its, rv, ot, t1, t2, n, t3⟩ := (I.hok tp _ hT : ObjOk X.prog X.w H s.heap tp (.tup cs))
  have eq := ClsV.all k rv
  subst eq
  obtain ⟨tc, td, tdt, tsl⟩ := ot
  dsimp only at t2 t3
  subst t2 t3
  exact PySem.W.kia_tup (PySem.W.handS_kitx_exc hC.hg hC.hk hC.hs hC.hd hC.ha hC.hn hC.ht hC.hm) I.kIn inst t1 e (fun z => nomatch z) fun tk => ⟨.bl b, H, I.kept (t' := tk) fun _ _ z => z, rfl, q⟩
theorem kit_ref {K : PySem.W.Frag} {C D : Addr} {b : Bool} (hd : PySem.W.hasDictIn K D = true) (ht : PySem.W.typeIn K (.ref D) = some (.type "type")) (hs : PySem.W.subIn K (.ref D) (.ref D) = some true) (h : PySem.W.subIn K (.ref C) (.ref D) = some b) : PySem.W.kitOne K (.ref C) (.ref D) = some b := by
  unfold PySem.W.kitOne
  by_cases e : (Value.ref C == Value.ref D) = true
  · rw [if_pos e]
    have : C = D := Value.ref.inj (beq_iff_eq.mp e)
    subst this
    rw [← hs, h]
  · rw [if_neg e]
    obtain ⟨cd, hc, _⟩ := PySem.W.any_some hd
    have e2 : ((PySem.W.clsIn K D).isSome && PySem.W.typeIn K (.ref D) == some (.type "type")) = true := by rw [hc, ht]; rfl
    show (if ((PySem.W.clsIn K D).isSome && PySem.W.typeIn K (.ref D) == some (.type "type")) = true then PySem.W.subIn K (.ref C) (.ref D) else none) = some b
    rw [if_pos e2]
    exact h
theorem kit_bt {K : PySem.W.Frag} {C : Addr} {T : String} {b : Bool} (h : PySem.W.subIn K (.ref C) (.type T) = some b) (hm : PySem.W.kitMeta T = true) : PySem.W.kitOne K (.ref C) (.type T) = some b := by
  unfold PySem.W.kitOne
  rw [if_neg (by simp)]
  show (if PySem.W.kitMeta T = true then PySem.W.subIn K (.ref C) (.type T) else none) = some b
  rw [if_pos hm]
  exact h
end L2
/-! texts, as lists of signs -/
namespace DL
open PySem PySem.Spec PyProof.Rows L2 Evl
abbrev S (l : List Nat) : Str := SX.S l
theorem S_num (n : Nat) : Str.ofString (toString ((n : Nat) : Int)) = S (TL.numL n) := TL.ext_tl (TL.tl_num n)
theorem joinL_flat : ∀ l : List (List Nat), TL.joinL [] l = l.flatten
  | [] => rfl
  | [p] => by rw [List.flatten_cons, List.flatten_nil, List.append_nil]; rfl
  | p :: q :: r => by
    rw [List.flatten_cons, ← joinL_flat (q :: r)]
    rfl
def numI (n : Int) : List Nat := TL.numL n.toNat
def rowL (j : T3) : List Nat := numI j.1 ++ [32] ++ numI j.2.1 ++ [32] ++ numI j.2.2 ++ [10]
def textL (js : List T3) : List Nat := (js.map rowL).flatten
def B60 : Int := 1000000000000000000000000000000000000000000000000000000000000
theorem numI_len {n : Int} (h : n < B60) : (numI n).length ≤ 60 := by
  unfold numI
  refine TL.numL_len (by decide) ?_
  have : (10 ^ 60 : Nat) = 1000000000000000000000000000000000000000000000000000000000000 := by decide
  unfold B60 at h
  omega
theorem log_small {n : Int} (h0 : 0 ≤ n) (h : n < B60) : n.natAbs.log2 < 1920 := by
  have h1 : n.natAbs < 2 ^ 200 := by
    have : (2 ^ 200 : Nat) = 1606938044258990275541962092341162602522202993782792835301376 := by decide
    unfold B60 at h
    omega
  rcases Nat.eq_zero_or_pos n.natAbs with z | z
  · rw [z]; decide
  · have := (Nat.log2_lt (by omega)).mpr h1
    omega
structure Small3 (j : T3) : Prop where
  c0 : 0 ≤ j.1
  c1 : j.1 < B60
  l0 : 0 ≤ j.2.1
  l1 : j.2.1 < B60
  d0 : 0 ≤ j.2.2
  d1 : j.2.2 < B60
theorem rowL_len {j : T3} (h : Small3 j) : (rowL j).length ≤ 183 := by
  unfold rowL
  have h1 := numI_len h.c1
  have h2 := numI_len h.l1
  have h3 := numI_len h.d1
  rw [List.length_append, List.length_append, List.length_append, List.length_append, List.length_append]
  show (numI j.1).length + 1 + (numI j.2.1).length + 1 + (numI j.2.2).length + 1 ≤ 183
  omega
theorem textL_len {js : List T3} (h : ∀ j ∈ js, Small3 j) : (textL js).length ≤ 183 * js.length := by
  induction js with
  | nil => exact Nat.le_refl _
  | cons j r ih =>
    have h1 := rowL_len (h j List.mem_cons_self)
    have h2 := ih fun k hk => h k (List.mem_cons_of_mem _ hk)
    unfold textL at *
    rw [List.map_cons, List.flatten_cons, List.length_append, List.length_cons]
    omega
section
variable {K : PySem.W.Frag} {σ : St} {H H' : Hp} {ta tb te ti : TE} {tA : TA} {t' : TT} {D : Ends} {tu tz : TS} {g : TG} {p q l : Addr} {js ks : List T3} {j : T3} {ns ms : List Int}
/-! ### f-strings -/
def EvJ (ts : List TE) (acc : Str) (σ : St) (H : Hp) (out : Str) : Prop := ∀ H1, Ex H H1 → ∀ Q : Str → Hp → Prop, (∀ H2, Ex H1 H2 → Q out H2) → tJs ts acc σ H1 Q
theorem ej_nil {acc : Str} : EvJ [] acc σ H acc := fun H1 _ Q k => k H1 (Ex.refl H1)
theorem ej_str {ts : List TE} {a b : List Nat} {y out : Str} (e : y = S b) (hz : (a ++ b).length ≤ 100000) (r : EvJ ts (S (a ++ b)) σ H out) : EvJ (tC (.str y) :: ts) (S a) σ H out := fun H1 e1 Q k => by
  subst e
  refine ⟨S b, rfl, ?_, ?_⟩
  · rw [SX.S_cat, SX.S_len]; exact sz_of hz
  · rw [SX.S_cat]; exact r H1 e1 Q k
theorem ej_int {ts : List TE} {a : List Nat} {i : Int} {out : Str} (h : Ev te σ H (.int i)) (h0 : 0 ≤ i) (h1 : i < B60) (hz : (a ++ numI i).length ≤ 100000) (r : EvJ ts (S (a ++ numI i)) σ H out) : EvJ (tFmt te :: ts) (S a) σ H out := fun H1 e1 Q k => by
  have es : Str.ofString (toString i) = S (numI i) := by
    have := S_num i.toNat
    rw [Int.toNat_of_nonneg h0] at this
    exact this
  refine h H1 e1 _ fun H2 e2 => .inr ⟨i, rfl, log_small h0 h1, ?_⟩
  refine ⟨S (numI i), congrArg V.str es, ?_, ?_⟩
  · rw [SX.S_cat, SX.S_len]; exact sz_of hz
  · rw [SX.S_cat]; exact r H2 (e1.trans e2) Q fun H3 e3 => k H3 (e2.trans e3)
theorem ev_joined {ts : List TE} {out : Str} (h : EvJ ts Str.empty σ H out) : Ev (fun σ H Q => tJs ts Str.empty σ H fun out H1 => Q (.str out) H1) σ H (.str out) := fun H1 e Q k => h H1 e _ k
theorem ev_rowS {a b c : Int} (h : Small3 (a, b, c)) (ha : Ev ta σ H (.int a)) (hb : Ev tb σ H (.int b)) (hc : Ev te σ H (.int c)) :
    Ev (fun σ H Q => tJs [tFmt ta, tC (.str " "), tFmt tb, tC (.str " "), tFmt te, tC (.str "\n")] Str.empty σ H fun out H1 => Q (.str out) H1) σ H (.str (S (rowL (a, b, c)))) := by
  have h1 := numI_len h.c1
  have h2 := numI_len h.l1
  have h3 := numI_len h.d1
  dsimp only at h1 h2 h3
  refine ev_joined ?_
  show EvJ _ (S []) σ H _
  refine ej_int ha h.c0 h.c1 (by rw [List.nil_append]; omega) ?_
  rw [List.nil_append]
  refine ej_str (b := [32]) rfl (by rw [List.length_append]; show _ + 1 ≤ _; omega) ?_
  refine ej_int hb h.l0 h.l1 (by rw [List.length_append, List.length_append]; show _ + 1 + _ ≤ _; omega) ?_
  refine ej_str (b := [32]) rfl (by rw [List.length_append, List.length_append, List.length_append]; show _ + 1 + _ + 1 ≤ _; omega) ?_
  refine ej_int hc h.d0 h.d1 (by rw [List.length_append, List.length_append, List.length_append, List.length_append]; show _ + 1 + _ + 1 + _ ≤ _; omega) ?_
  refine ej_str (b := [10]) rfl (by rw [List.length_append, List.length_append, List.length_append, List.length_append, List.length_append]; show _ + 1 + _ + 1 + _ + 1 ≤ _; omega) ?_
  exact ej_nil
/-- sep.join(a new list of texts) -/
def rJn (K : PySem.W.Frag) : V → List V → Hp → VK → Prop := fun x xs H Q =>
  ∃ a p, ∃ ys : List Str, x = .str a ∧ xs = [.ref p] ∧ (SqL K H p (ys.map V.str) ∨ SqT K H p (ys.map V.str)) ∧
    (ys.map (·.length)).sum + ys.length * a.length ≤ 16777216 ∧
    Q (.str (Txt.join a ys)) H
theorem ev_joinN {a : Str} {ys : List Str} (ha : Ev ta σ H (.str a)) (h : EvL te σ H (ys.map V.str)) (hz : (ys.map (·.length)).sum + ys.length * a.length ≤ 16777216) : Ev (tM1 (rJn K) ta te) σ H (.str (Txt.join a ys)) := fun H1 e Q k =>
  ha H1 e _ fun H2 e2 => ⟨⟨a, rfl⟩, h H2 (e.trans e2) _ fun p H3 _ e3 hp => ⟨a, p, ys, rfl, rfl, .inl (SqL.of hp), hz, k H3 (e2.trans e3)⟩⟩
theorem sum_lens (js : List T3) : (((js.map rowL).map S).map (·.length)).sum = (textL js).length := by
  unfold textL
  rw [SX.lens, List.length_flatten]
theorem join_text (js : List T3) : Txt.join Str.empty ((js.map rowL).map S) = S (textL js) := by
  have := SX.join_S [] (js.map rowL)
  rw [joinL_flat] at this
  exact this
end
end DL
/-! values of which only a property is known -/
namespace DL
open PySem PySem.Spec PyProof.Rows L2 Evl
abbrev Pr := Hp → V → Prop
def Steady (P : Pr) : Prop := ∀ H H' y, Ex H H' → P H y → P H' y
def EvP (te : TE) (σ : St) (H : Hp) (P : Pr) : Prop := ∀ H1, Ex H H1 → ∀ Q : VK, (∀ y H2, Ex H1 H2 → P H2 y → Q y H2) → te σ H1 Q
def EvPs (tA : TA) (σ : St) (H : Hp) (P : Pr) (n : Nat) : Prop := ∀ H1, Ex H H1 → ∀ Q : List V → Hp → Prop, (∀ xs H2, Ex H1 H2 → xs.length = n → (∀ y ∈ xs, P H2 y) → Q xs H2) → tA σ H1 Q
/-- a list of so many of these -/
def PLs (P : Pr) (H : Hp) (p : Addr) (n : Nat) : Prop := ∃ xs : List V, H p = some (.lst xs) ∧ xs.length = n ∧ ∀ y ∈ xs, P H y
theorem PLs.mono {P : Pr} (st : Steady P) {H H' : Hp} {p : Addr} {n : Nat} (e : Ex H H') (h : PLs P H p n) : PLs P H' p n := by
  obtain ⟨xs, h1, h2, h3⟩ := h
  exact ⟨xs, e _ _ h1, h2, fun y hy => st _ _ y e (h3 y hy)⟩
theorem own_all : ∀ Ds : List Addr, Paired ClsV (Ds.map V.ref) (Ds.map Value.ref)
  | [] => .nil
  | D :: Ds => .cons (.own D) (own_all Ds)
section
variable {K : PySem.W.Frag} {σ : St} {H H' : Hp} {ta tb te ti : TE} {tA : TA} {D : Ends} {tz : TS} {p q : Addr} {P : Pr} {n m : Nat}
theorem ep_ev {v : V} (h : Ev te σ H v) (hp : ∀ H1, Ex H H1 → P H1 v) : EvP te σ H P := fun H1 e Q k => h H1 e _ fun H2 e2 => k v H2 e2 (hp H2 (e.trans e2))
theorem ep_u {xs : List V} (h : EvU te σ H xs) (hp : ∀ t H1, H1 t = some (.tup xs) → P H1 (.ref t)) : EvP te σ H P := fun H1 e Q k => h H1 e _ fun t H2 _ e2 ht => k _ H2 e2 (hp t H2 ht)
theorem ep_l {xs : List V} (h : EvL te σ H xs) (hp : ∀ t H1, H1 t = some (.lst xs) → P H1 (.ref t)) : EvP te σ H P := fun H1 e Q k => h H1 e _ fun t H2 _ e2 ht => k _ H2 e2 (hp t H2 ht)
theorem ep_tl {js : List T3} (h : EvTL te σ H js) (hp : ∀ t H1, TL H1 t js → P H1 (.ref t)) : EvP te σ H P := fun H1 e Q k => h H1 e _ fun t H2 _ e2 ht => k _ H2 e2 (hp t H2 ht)
theorem eps_nil : EvPs tNil σ H P 0 := fun H1 _ Q k => k [] H1 (Ex.refl H1) rfl fun y hy => absurd hy List.not_mem_nil
theorem eps_cons (st : Steady P) (h : EvP te σ H P) (hr : EvPs tA σ H P n) : EvPs (tCons te tA) σ H P (n + 1) := fun H1 e Q k =>
  h H1 e _ fun y H2 e2 hy => hr H2 (e.trans e2) _ fun xs H3 e3 hn hx => k (y :: xs) H3 (e2.trans e3) (congrArg (· + 1) hn) fun z hz => by
    rcases List.mem_cons.mp hz with rfl | hz
    · exact st _ _ _ e3 hy
    · exact hx z hz
theorem elp_lst (st : Steady P) (h : EvPs tA σ H P n) (hn : n ≤ 100000) : EvP (tLst tA) σ H (fun H y => ∃ p, y = .ref p ∧ PLs P H p n) := fun H1 e Q k =>
  h H1 e _ fun xs H2 e2 hl hx => ⟨by rw [hl]; exact sz_of hn, fun p np => k _ _ (e2.trans (Ex.new np)) ⟨p, rfl, xs, upd_same, hl, fun y hy => st _ _ y (Ex.new np) (hx y hy)⟩⟩
theorem q_asgPs (st : Steady P) {i : Nat} (h : EvPs tA σ H P n) (hn : n ≤ 100000) (k : ∀ p H1, Ex H H1 → PLs P H1 p n → tz D (σ.set i (some (.ref p))) H1) : tSeq (tAsg (tLst tA) (gName i)) tz D σ H := by
  show tLst tA σ H (fun x H1 => tz D (σ.set i (some x)) H1)
  refine elp_lst st h hn H (Ex.refl H) _ fun y H1 e hp => ?_
  obtain ⟨p, rfl, hp⟩ := hp
  exact k p H1 e hp
theorem q_asgCat (st : Steady P) {i : Nat} (ha : Ev ta σ H (.ref p)) (hp : PLs P H p n) (h : EvPs tA σ H P m) (hn : n + m ≤ 100000) (k : ∀ q H1, Ex H H1 → PLs P H1 q (n + m) → tz D (σ.set i (some (.ref q))) H1) :
    tSeq (tAsg (tOp rCat ta (tLst tA)) (gName i)) tz D σ H :=
  ha H (Ex.refl H) _ fun H1 e1 => elp_lst st h (by omega) H1 e1 _ fun y H2 e2 ⟨b, hy, hb⟩ => by
    subst hy
    obtain ⟨xs, h1, h2, h3⟩ := hp.mono st (e1.trans e2)
    obtain ⟨ys, g1, g2, g3⟩ := hb
    refine ⟨p, b, xs, ys, rfl, rfl, h1, g1, by rw [h2, g2]; exact sz_of hn, fun d nd => ?_⟩
    refine k d _ ((e1.trans e2).trans (Ex.new nd)) ⟨xs ++ ys, upd_same, by rw [List.length_append, h2, g2], fun y hy => st _ _ y (Ex.new nd) ?_⟩
    rcases List.mem_append.mp hy with hy | hy
    · exact h3 y hy
    · exact g3 y hy
/-- an item of such a list -/
theorem ep_at {i : Nat} (st : Steady P) (ha : Ev ta σ H (.ref p)) (hi : Ev ti σ H (.int (i : Int))) (hp : PLs P H p n) (hin : i < n) : EvP (tOp (rIxL K) ta ti) σ H P := fun H1 e Q k => by
  obtain ⟨xs, h1, h2, h3⟩ := hp.mono st e
  have hx : xs[i]? = some xs[i] := List.getElem?_eq_getElem (by omega)
  refine (ev_op (ha.mono e) (hi.mono e) (rv_ixL (SqL.of h1) (atI_nat hx)) : Ev (tOp (rIxL K) ta ti) σ H1 xs[i]) H1 (Ex.refl _) _ fun H2 e2 => k _ H2 e2 (st _ _ _ e2 (h3 _ (List.mem_of_getElem? hx)))
/-- [a, b, ..][i] -/
theorem ep_pick {i : Nat} (st : Steady P) (h : EvPs tA σ H P n) (hn : n ≤ 100000) (hi : ∀ H1, Ex H H1 → Ev ti σ H1 (.int (i : Int))) (hin : i < n) : EvP (tOp (rIxL K) (tLst tA) ti) σ H P := fun H1 e Q k =>
  elp_lst st h hn H1 e _ fun y H2 e2 ⟨p, hy, hp⟩ => by
    subst hy
    have := ep_at (K := K) (σ := σ) (ta := fun _ H' Q' => Q' (.ref p) H') (H := H2) st (fun H3 e3 Q3 q3 => q3 H3 (Ex.refl H3)) (hi H2 (e.trans e2)) hp hin
    exact this H2 (Ex.refl _) _ fun y H3 e3 hy => k y H3 (e2.trans e3) hy
theorem s_retP (h : EvP te σ H P) (k : ∀ y H1, Ex H H1 → P H1 y → D.rt y H1) : tRet te D σ H := h H (Ex.refl H) _ k
theorem q_asgP {i : Nat} (h : EvP te σ H P) (k : ∀ y H1, Ex H H1 → P H1 y → tz D (σ.set i (some y)) H1) : tSeq (tAsg te (gName i)) tz D σ H := h H (Ex.refl H) _ k
theorem ea_consP {xs : List V} (h : EvP te σ H P) (hr : EvA tA σ H xs) {Q : List V → Hp → Prop} (k : ∀ y H1, Ex H H1 → P H1 y → ∀ H2, Ex H1 H2 → Q (y :: xs) H2) : tCons te tA σ H Q :=
  h H (Ex.refl H) _ fun y H1 e hy => hr H1 e _ fun H2 e2 => k y H1 e hy H2 e2
theorem s_ret3L {sp : Sp} {E : XK} {tc : TE} {x z : V} {xs : List V} (ha : Ev ta σ H x) (hb : EvL tb σ H xs) (hc : ∀ H1, Ex H H1 → Ev tc σ H1 z) (k : ∀ l H1, Ex H H1 → H1 l = some (.lst xs) → sp [x, .ref l, z] H1 D.rt E) :
    tRet (tCall sp [] E (tCons ta (tCons tb (tCons tc tNil)))) D σ H :=
  ha H (Ex.refl H) _ fun H1 e1 => hb H1 e1 _ fun l H2 _ e2 hl => hc H2 (e1.trans e2) H2 (Ex.refl _) _ fun H3 e3 => k l H3 ((e1.trans e2).trans e3) (e3 _ _ hl)
theorem s_ret2P {sp : Sp} {E : XK} {x : V} (ha : Ev ta σ H x) (hb : EvP tb σ H P) (k : ∀ y H1, Ex H H1 → P H1 y → sp [x, y] H1 D.rt E) :
    tRet (tCall sp [] E (tCons ta (tCons tb tNil))) D σ H :=
  ha H (Ex.refl H) _ fun H1 e1 => hb H1 e1 _ fun y H2 e2 hy => k y H2 (e1.trans e2) hy
/-- isinstance of what was caught, by values -/
theorem ev_isC {a C D' : Addr} {b : Bool} (hC : ExcC K C) (hk : PySem.W.kitOne K (.ref C) (.ref D') = some b) (he : Ev te σ H (.ref a)) (hc : Ev tb σ H (.ref D')) : Ev (tCB (rIsC K a (.ref C) none) (tCons te (tCons tb tNil))) σ H (.bl b) := fun H1 e Q k =>
  he H1 e _ fun H2 e2 => hc H2 (e.trans e2) _ fun H3 e3 => ⟨C, .ref D', .ref D', b, rfl, rfl, hC, rfl, fun u r => r, hk, k H3 (e2.trans e3)⟩
theorem ev_isCT' {a C : Addr} {T' : String} {b : Bool} (hC : ExcC K C) (hk : PySem.W.kitOne K (.ref C) (.type T') = some b) (he : Ev te σ H (.ref a)) (hc : Ev tb σ H (.ty T')) : Ev (tCB (rIsC K a (.ref C) none) (tCons te (tCons tb tNil))) σ H (.bl b) := fun H1 e Q k =>
  he H1 e _ fun H2 e2 => hc H2 (e.trans e2) _ fun H3 e3 => ⟨C, .ty T', .type T', b, rfl, rfl, hC, rfl, fun u r => r, hk, k H3 (e2.trans e3)⟩
/-- .. of a tuple of own classes -/
theorem ev_isCU {a C : Addr} {Ds : List Addr} {b : Bool} (hC : ExcC K C) (hk : PySem.W.kitAny K (.ref C) (Ds.map .ref) = some b) (he : Ev te σ H (.ref a)) (hc : EvU tb σ H (Ds.map V.ref)) : Ev (tCB (rIsCT K a (.ref C) none) (tCons te (tCons tb tNil))) σ H (.bl b) := fun H1 e Q k =>
  he H1 e _ fun H2 e2 => hc H2 (e.trans e2) _ fun t H3 _ e3 ht => ⟨C, t, _, _, b, rfl, rfl, hC, rfl, ht, own_all Ds, hk, k H3 (e2.trans e3)⟩
end
end DL
/-! an object that holds a list of jobs -/
namespace L2
open PySem PySem.Spec PyProof.Rows
section
variable {X : Cx} {CX : CXT} {k : Nat} {f C : Addr} {fd : FuncData} {ps : List Str} {sp : Sp} {E : St → XK} {m : Str} {pos apos : Pos} {e o : Expr} {es : List Expr} {ta : TE} {t : TA}
/-- a method called within a try -/
def tMTry (C : Addr) (m : Str) (sp : Sp) (E : St → XK) (ta : TE) (t : TA) : TE := fun σ H Q =>
  ta σ H fun x H1 => ∃ a dx fs, x = .ref a ∧ H1 a = some (.ins C dx fs) ∧ fs.lookup m = none ∧ t σ H1 fun vs H2 => sp (x :: vs) H2 Q (E σ)
theorem pe_mtry {pl : Sem Bool} (obj : PE X o ta) (cl : Cls X.K C) (me : Meth X.K C m f) (F : FnOk X.prog X.w X.K X.mg X.base CX k f fd ps sp) (hr : Room k X.A) (hb : Binds X.K fd ps []) (hx : ∀ σ, PassesAt CX X σ (E σ)) (ha : PA X (e :: es) t)
    (h1 : starEach (e :: es) X.env = (false, eval e X.env) :: starEach es X.env := by rfl)
    (h2 : (backTo pos (starEach es X.env)).any (·.1) = false := by rfl)
    (h3 : eval (.Call (.Attribute o m apos) (e :: es) [] pos) X.env = (do
          let w1 ← eval o X.env
          standAt apos.atName
          let (g1, g2) ← holding [w1] (getMethod w1 m pl)
          callWith pos g1 g2 (backTo pos (starEach (e :: es) X.env)) (backToKw pos (keywordEach [] X.env))) := by rfl) :
    PE X (.Call (.Attribute o m apos) (e :: es) [] pos) (tMTry C m sp E ta t) where
  run := fun pins s σ H Q I want => by
    refine PySem.W.methodCall_KW (pl := pl) (thn (obj.run pins s σ H _ I want) ?_) h3
    rintro u s1 ⟨x, H1, I1, rx, a, dx, fs, rfl, at_, l, rest⟩
    cases (show u = Value.ref a from rx)
    refine getmeth_ok I1 at_ cl me l (PySem.W.callWith_K (first := [.ref a]) (h₀ := X.base) I.ok.mod.kin me.kp (thn (ha.run pos pins s1 σ H1 _ I1 rest) ?_) h1 h2)
    rintro us s2 ⟨vs, H2, I2, r2, want2⟩
    exact ⟨I2.kIn, run_fnS (us := .ref a :: us) (vs := .ref a :: vs) F hr hb (hx σ) I2 (.cons rfl r2) want2⟩
end
end L2
namespace DL
open PySem PySem.Spec PyProof.Rows L2 Evl
/-- the one attribute of a book -/
def jf (l : Addr) : List (Str × V) := putF "_jobs" (.ref l) []
theorem jf_eq (l : Addr) : jf l = [(("_jobs" : Str), V.ref l)] := rfl
theorem jf_at (l : Addr) : (jf l).lookup ("_jobs" : Str) = some (.ref l) := by
  unfold jf
  rw [lookup_putF, if_pos rfl]
theorem jf_no (l : Addr) {m : Str} (h : ¬ m = "_jobs") : (jf l).lookup m = none := by
  unfold jf
  rw [lookup_putF, if_neg h]
  rfl
/-- a book stands at b, its list at l holds js -/
structure BookAt (C : Addr) (H : Hp) (b l : Addr) (js : List T3) : Prop where
  ob : ∃ dx, H b = some (.ins C dx (jf l))
  tl : TL H l js
  len : js.length ≤ 60
  snd : Sound js
  fit : NoLate js (runM js)
theorem BookAt.mono {C : Addr} {H H' : Hp} {b l : Addr} {js : List T3} (e : Ex H H') (h : BookAt C H b l js) : BookAt C H' b l js := by
  obtain ⟨⟨dx, h1⟩, h2, h3, h4, h5⟩ := h
  exact ⟨⟨dx, e _ _ h1⟩, h2.mono e, h3, h4, h5⟩
/-- another book's list may change -/
theorem BookAt.mod {C : Addr} {H H' : Hp} {b l m : Addr} {js : List T3} (d : Mod m H H') (h : BookAt C H b l js) (hm : ∃ xs, H m = some (.lst xs)) (ne : l ≠ m) : BookAt C H' b l js := by
  obtain ⟨⟨dx, h1⟩, h2, h3, h4, h5⟩ := h
  obtain ⟨xs, hm⟩ := hm
  exact ⟨⟨dx, d.but _ _ (ne_of h1 hm (by intro q; cases q)) h1⟩, d.tl h2 ne, h3, h4, h5⟩
section
variable {K : PySem.W.Frag} {σ : St} {H H' : Hp} {ta tb te ti to : TE} {tA : TA} {D : Ends} {tz : TS} {p q : Addr} {C b l : Addr} {js : List T3}
theorem ev_fldB (cl : Cls K C) (na : NoAttr K C "_jobs") (h : Ev te σ H (.ref b)) (hb : BookAt C H b l js) : Ev (tFld K te "_jobs") σ H (.ref l) := fun H1 e Q k => h H1 e _ fun H2 e2 => by
  obtain ⟨dx, hd⟩ := (hb.mono (e.trans e2)).ob
  exact ⟨b, C, dx, _, _, rfl, hd, cl, na, jf_at l, k H2 e2⟩
/-- o.m(..), what is asked of it -/
theorem r_meth {m : Str} {sp : Sp} {dvs vs : List V} {E : XK} {Q : VK} (hm : ¬ m = "_jobs") (ho : Ev to σ H (.ref b)) (hb : BookAt C H b l js) (ha : EvA tA σ H vs) (k : ∀ H1, Ex H H1 → sp (.ref b :: (vs ++ dvs)) H1 Q E) : tMeth C m sp dvs E to tA σ H Q :=
  ho H (Ex.refl H) _ fun H1 e1 => by
    obtain ⟨dx, hd⟩ := (hb.mono e1).ob
    exact ⟨b, dx, _, rfl, hd, jf_no l hm, ha H1 e1 _ fun H2 e2 => k H2 (e1.trans e2)⟩
theorem r_mtry {m : Str} {sp : Sp} {vs : List V} {E : St → XK} {Q : VK} (hm : ¬ m = "_jobs") (ho : Ev to σ H (.ref b)) (hb : BookAt C H b l js) (ha : EvA tA σ H vs) (k : ∀ H1, Ex H H1 → sp (.ref b :: vs) H1 Q (E σ)) : tMTry C m sp E to tA σ H Q :=
  ho H (Ex.refl H) _ fun H1 e1 => by
    obtain ⟨dx, hd⟩ := (hb.mono e1).ob
    exact ⟨b, dx, _, rfl, hd, jf_no l hm, ha H1 e1 _ fun H2 e2 => k H2 (e1.trans e2)⟩
theorem r_mtryP {m : Str} {sp : Sp} {E : St → XK} {Q : VK} {P : Pr} (hm : ¬ m = "_jobs") (ho : Ev to σ H (.ref b)) (hb : BookAt C H b l js) (ha : EvP te σ H P) (k : ∀ y H1, Ex H H1 → P H1 y → sp [.ref b, y] H1 Q (E σ)) : tMTry C m sp E to (tCons te tNil) σ H Q :=
  ho H (Ex.refl H) _ fun H1 e1 => by
    obtain ⟨dx, hd⟩ := (hb.mono e1).ob
    exact ⟨b, dx, _, rfl, hd, jf_no l hm, ha H1 e1 _ fun y H2 e2 hy => k y H2 (e1.trans e2) hy⟩
theorem r_mtryU {m : Str} {sp : Sp} {E : St → XK} {Q : VK} {xs : List V} (hm : ¬ m = "_jobs") (ho : Ev to σ H (.ref b)) (hb : BookAt C H b l js) (ha : EvU te σ H xs) (k : ∀ t H1, H t = none → Ex H H1 → H1 t = some (.tup xs) → sp [.ref b, .ref t] H1 Q (E σ)) : tMTry C m sp E to (tCons te tNil) σ H Q :=
  ho H (Ex.refl H) _ fun H1 e1 => by
    obtain ⟨dx, hd⟩ := (hb.mono e1).ob
    exact ⟨b, dx, _, rfl, hd, jf_no l hm, ha H1 e1 _ fun t H2 nt e2 ht => k t H2 (fresh_back e1 nt) (e1.trans e2) ht⟩
theorem r_methU {m : Str} {sp : Sp} {E : XK} {Q : VK} {xs : List V} (hm : ¬ m = "_jobs") (ho : Ev to σ H (.ref b)) (hb : BookAt C H b l js) (ha : EvU te σ H xs) (k : ∀ t H1, H t = none → Ex H H1 → H1 t = some (.tup xs) → sp [.ref b, .ref t] H1 Q E) : tMeth C m sp [] E to (tCons te tNil) σ H Q :=
  ho H (Ex.refl H) _ fun H1 e1 => by
    obtain ⟨dx, hd⟩ := (hb.mono e1).ob
    exact ⟨b, dx, _, rfl, hd, jf_no l hm, ha H1 e1 _ fun t H2 nt e2 ht => k t H2 (fresh_back e1 nt) (e1.trans e2) ht⟩
theorem s_retC3U {sp : Sp} {E : XK} {tu : TE} {x y : V} {xs : List V} (ha : Ev ta σ H x) (hb : Ev tb σ H y) (hu : EvU tu σ H xs) (k : ∀ t H1, H t = none → Ex H H1 → H1 t = some (.tup xs) → sp [x, y, .ref t] H1 D.rt E) :
    tRet (tCall sp [] E (tCons ta (tCons tb (tCons tu tNil)))) D σ H :=
  ha H (Ex.refl H) _ fun H1 e1 => hb H1 e1 _ fun H2 e2 => hu H2 (e1.trans e2) _ fun t H3 nt e3 ht => k t H3 (fresh_back (e1.trans e2) nt) ((e1.trans e2).trans e3) ht
end
end DL
/-- values, by a hook on an open word -/
local macro_rules | `(tactic| walk_at "ev") => `(tactic| repeat' (first
  | exact Evl.ev_var rfl | exact Evl.ev_c | assumption
  | refine Evl.ev_op ?_ ?_ Evl.rv_I0 | refine Evl.ev_un ?_ Evl.ru_neg
  | refine Evl.ev_op ?_ ?_ (Evl.rv_I ?_)
  | refine Evl.ev_op ?_ ?_ (Evl.rv_eq rfl) | refine Evl.ev_op ?_ ?_ (Evl.rv_ne rfl)
  | (show L2.CDiv _ _; exact ⟨by decide, by decide⟩) | (show (0 : Int) < _; first | decide | omega) | (show L2.CMul _ _; first | exact .inr ⟨by decide, by decide⟩ | exact .inl ⟨by decide, by decide⟩)))
local macro_rules | `(tactic| walk_at "evt") => `(tactic| (refine Evl.et_test ?_; walk_at "ev"))
namespace DLL
open PySem PySem.Spec PyProof.Rows L2 Evl DL
abbrev St := L2.St
/-! ### the text by places -/
def topS (i : Nat) : Stmt := PySem.Challenge.pw_deadlinerun_k13_whole_book.main.body.getD i (.Pass ⟨0, 0, 0, 0⟩)
abbrev s_sound : Stmt := topS 8
abbrev N_sound : List Str := ["job", "come", "length", "due", "number"]
theorem sc_sound : FnScope ["job", "come", "length", "due", "number"] ["job"] (defScope s_sound) := ⟨rfl, rfl, rfl, by decide +kernel, rfl, by decide +kernel, by decide +kernel⟩
abbrev s_check_jobs : Stmt := topS 9
abbrev N_check_jobs : List Str := ["jobs", "place", "job"]
theorem sc_check_jobs : FnScope ["jobs", "place", "job"] ["jobs"] (defScope s_check_jobs) := ⟨rfl, rfl, rfl, by decide +kernel, rfl, by decide +kernel, by decide +kernel⟩
abbrev s_run : Stmt := topS 11
abbrev N_run : List Str := ["jobs", "left", "pieces", "time", "place", "end", "come", "length", "due"]
theorem sc_run : FnScope ["jobs", "left", "pieces", "time", "place", "end", "come", "length", "due"] ["jobs"] (defScope s_run) := ⟨rfl, rfl, rfl, by decide +kernel, rfl, by decide +kernel, by decide +kernel⟩
abbrev s_first_due : Stmt := topS 12
abbrev N_first_due : List Str := ["jobs", "left", "time", "best", "place", "come", "length", "due"]
theorem sc_first_due : FnScope ["jobs", "left", "time", "best", "place", "come", "length", "due"] ["jobs", "left", "time"] (defScope s_first_due) := ⟨rfl, rfl, rfl, by decide +kernel, rfl, by decide +kernel, by decide +kernel⟩
abbrev s_next_come : Stmt := topS 13
abbrev N_next_come : List Str := ["jobs", "time", "come", "length", "due"]
theorem sc_next_come : FnScope ["jobs", "time", "come", "length", "due"] ["jobs", "time"] (defScope s_next_come) := ⟨rfl, rfl, rfl, by decide +kernel, rfl, by decide +kernel, by decide +kernel⟩
abbrev s_end_of_work : Stmt := topS 14
abbrev N_end_of_work : List Str := ["jobs", "time", "rest", "done", "come", "length", "due"]
theorem sc_end_of_work : FnScope ["jobs", "time", "rest", "done", "come", "length", "due"] ["jobs", "time", "rest"] (defScope s_end_of_work) := ⟨rfl, rfl, rfl, by decide +kernel, rfl, by decide +kernel, by decide +kernel⟩
abbrev s_add_piece : Stmt := topS 15
abbrev N_add_piece : List Str := ["pieces", "place", "begin", "end"]
theorem sc_add_piece : FnScope ["pieces", "place", "begin", "end"] ["pieces", "place", "begin", "end"] (defScope s_add_piece) := ⟨rfl, rfl, rfl, by decide +kernel, rfl, by decide +kernel, by decide +kernel⟩
abbrev s_ends : Stmt := topS 17
abbrev N_ends : List Str := ["jobs", "told", "place", "_", "end"]
theorem sc_ends : FnScope ["jobs", "told", "place", "_", "end"] ["jobs"] (defScope s_ends) := ⟨rfl, rfl, rfl, by decide +kernel, rfl, by decide +kernel, by decide +kernel⟩
abbrev s_late : Stmt := topS 18
abbrev N_late : List Str := ["jobs", "rows", "place", "end", "due", "row"]
theorem sc_late : FnScope ["jobs", "rows", "place", "end", "due", "row"] ["jobs"] (defScope s_late) := ⟨rfl, rfl, rfl, by decide +kernel, rfl, by decide +kernel, by decide +kernel⟩
abbrev s_answer : Stmt := topS 20
abbrev N_answer : List Str := ["jobs", "places", "pieces", "place", "end"]
theorem sc_answer : FnScope ["jobs", "places", "pieces", "place", "end"] ["jobs"] (defScope s_answer) := ⟨rfl, rfl, rfl, by decide +kernel, rfl, by decide +kernel, by decide +kernel⟩
abbrev s_begin_of_stretch : Stmt := topS 21
abbrev N_begin_of_stretch : List Str := ["jobs", "pieces", "end", "begin", "place", "start", "stop"]
theorem sc_begin_of_stretch : FnScope ["jobs", "pieces", "end", "begin", "place", "start", "stop"] ["jobs", "pieces", "end"] (defScope s_begin_of_stretch) := ⟨rfl, rfl, rfl, by decide +kernel, rfl, by decide +kernel, by decide +kernel⟩
abbrev s_Book___init__ : Stmt := inClass (topS 23) 0
abbrev N_Book___init__ : List Str := ["self"]
theorem sc_Book___init__ : FnScope ["self"] ["self"] (defScope s_Book___init__) := ⟨rfl, rfl, rfl, by decide +kernel, rfl, by decide +kernel, by decide +kernel⟩
abbrev s_Book_take : Stmt := inClass (topS 23) 1
abbrev N_Book_take : List Str := ["self", "job", "told"]
theorem sc_Book_take : FnScope ["self", "job", "told"] ["self", "job"] (defScope s_Book_take) := ⟨rfl, rfl, rfl, by decide +kernel, rfl, by decide +kernel, by decide +kernel⟩
abbrev s_Book_drop : Stmt := inClass (topS 23) 2
abbrev N_Book_drop : List Str := ["self", "place"]
theorem sc_Book_drop : FnScope ["self", "place"] ["self", "place"] (defScope s_Book_drop) := ⟨rfl, rfl, rfl, by decide +kernel, rfl, by decide +kernel, by decide +kernel⟩
abbrev s_Book_listed : Stmt := inClass (topS 23) 3
abbrev N_Book_listed : List Str := ["self"]
theorem sc_Book_listed : FnScope ["self"] ["self"] (defScope s_Book_listed) := ⟨rfl, rfl, rfl, by decide +kernel, rfl, by decide +kernel, by decide +kernel⟩
abbrev s_Book_plan : Stmt := inClass (topS 23) 4
abbrev N_Book_plan : List Str := ["self"]
theorem sc_Book_plan : FnScope ["self"] ["self"] (defScope s_Book_plan) := ⟨rfl, rfl, rfl, by decide +kernel, rfl, by decide +kernel, by decide +kernel⟩
abbrev s_law_whole : Stmt := topS 25
abbrev N_law_whole : List Str := ["_law_found"]
theorem sc_law_whole : FnScope ["_law_found"] ["_law_found"] (defScope s_law_whole) := ⟨rfl, rfl, rfl, by decide +kernel, rfl, by decide +kernel, by decide +kernel⟩
abbrev s_law_cell_at : Stmt := topS 26
abbrev N_law_cell_at : List Str := ["_law_script", "_law_k"]
theorem sc_law_cell_at : FnScope ["_law_script", "_law_k"] ["_law_script", "_law_k"] (defScope s_law_cell_at) := ⟨rfl, rfl, rfl, by decide +kernel, rfl, by decide +kernel, by decide +kernel⟩
abbrev s_law_load : Stmt := topS 27
abbrev N_law_load : List Str := ["_law_jobs", "_law_begin", "_law_end", "_law_job"]
theorem sc_law_load : FnScope ["_law_jobs", "_law_begin", "_law_end", "_law_job"] ["_law_jobs", "_law_begin", "_law_end"] (defScope s_law_load) := ⟨rfl, rfl, rfl, by decide +kernel, rfl, by decide +kernel, by decide +kernel⟩
abbrev s_law_triple : Stmt := topS 28
abbrev N_law_triple : List Str := ["_law_piece"]
theorem sc_law_triple : FnScope ["_law_piece"] ["_law_piece"] (defScope s_law_triple) := ⟨rfl, rfl, rfl, by decide +kernel, rfl, by decide +kernel, by decide +kernel⟩
abbrev s_law_meets : Stmt := topS 29
abbrev N_law_meets : List Str := ["_law_jobs", "_law_pieces", "_law_left", "_law_now", "_law_piece", "_law_job"]
theorem sc_law_meets : FnScope ["_law_jobs", "_law_pieces", "_law_left", "_law_now", "_law_piece", "_law_job"] ["_law_jobs", "_law_pieces"] (defScope s_law_meets) := ⟨rfl, rfl, rfl, by decide +kernel, rfl, by decide +kernel, by decide +kernel⟩
abbrev s_law_crowded : Stmt := topS 30
abbrev N_law_crowded : List Str := ["_law_jobs", "_law_place", "_law_begin", "_law_end"]
theorem sc_law_crowded : FnScope ["_law_jobs", "_law_place", "_law_begin", "_law_end"] ["_law_jobs", "_law_place", "_law_begin", "_law_end"] (defScope s_law_crowded) := ⟨rfl, rfl, rfl, by decide +kernel, rfl, by decide +kernel, by decide +kernel⟩
abbrev s_law_deed : Stmt := topS 32
abbrev N_law_deed : List Str := ["_law_book", "_law_held", "_law_cell", "_law_wide", "_law_place", "_law_job", "e", "_law_come"]
theorem sc_law_deed : FnScope ["_law_book", "_law_held", "_law_cell", "_law_wide", "_law_place", "_law_job", "e", "_law_come"] ["_law_book", "_law_held", "_law_cell", "_law_wide"] (defScope s_law_deed) := ⟨rfl, rfl, rfl, by decide +kernel, rfl, by decide +kernel, by decide +kernel⟩
abbrev s_law_taken : Stmt := topS 33
abbrev N_law_taken : List Str := ["_law_book", "_law_held", "_law_job", "_law_found"]
theorem sc_law_taken : FnScope ["_law_book", "_law_held", "_law_job", "_law_found"] ["_law_book", "_law_held", "_law_job"] (defScope s_law_taken) := ⟨rfl, rfl, rfl, by decide +kernel, rfl, by decide +kernel, by decide +kernel⟩
abbrev s_law_full : Stmt := topS 34
abbrev N_law_full : List Str := ["_law_book", "_law_place", "_law_k", "_law_found", "_law_job", "_law_jobs"]
theorem sc_law_full : FnScope ["_law_book", "_law_place", "_law_k", "_law_found", "_law_job", "_law_jobs"] ["_law_book", "_law_place"] (defScope s_law_full) := ⟨rfl, rfl, rfl, by decide +kernel, rfl, by decide +kernel, by decide +kernel⟩
abbrev s_law_many : Stmt := topS 35
abbrev N_law_many : List Str := ["_law_book", "_law_cell", "_law_count", "_law_held", "_law_k", "_law_mix", "_law_come", "_law_job", "_law_after", "_law_place"]
theorem sc_law_many : FnScope ["_law_book", "_law_cell", "_law_count", "_law_held", "_law_k", "_law_mix", "_law_come", "_law_job", "_law_after", "_law_place"] ["_law_book", "_law_cell", "_law_count"] (defScope s_law_many) := ⟨rfl, rfl, rfl, by decide +kernel, rfl, by decide +kernel, by decide +kernel⟩
abbrev s_law : Stmt := topS 36
abbrev N_law : List Str := ["_law_script", "_law_books", "_law_held", "_law_wide", "_law_kept", "_law_cell", "_law_which", "_law_told", "_law_after", "_law_k", "_law_listed", "_law_ones"]
theorem sc_law : FnScope ["_law_script", "_law_books", "_law_held", "_law_wide", "_law_kept", "_law_cell", "_law_which", "_law_told", "_law_after", "_law_k", "_law_listed", "_law_ones"] ["_law_script"] (defScope s_law) := ⟨rfl, rfl, rfl, by decide +kernel, rfl, by decide +kernel, by decide +kernel⟩

structure Fd (K : PySem.W.Frag) (mg : Str → Option Value) (x : Str) (st : Stmt) (ps : List Str) (f : Addr) (fd : FuncData) : Prop where
  F : Fun K x x st f fd
  b : Binds K fd ps []
  g : mg x = some (.ref f)
structure Md (K : PySem.W.Frag) (x q : Str) (st : Stmt) (ps : List Str) (f : Addr) (fd : FuncData) : Prop where
  F : Fun K x q st f fd
  b : Binds K fd ps []
structure TX (K : PySem.W.Frag) (mg : Str → Option Value) where
  f_sound : Addr
  d_sound : FuncData
  h_sound : Fd K mg "sound" s_sound ["job"] f_sound d_sound
  f_check_jobs : Addr
  d_check_jobs : FuncData
  h_check_jobs : Fd K mg "check_jobs" s_check_jobs ["jobs"] f_check_jobs d_check_jobs
  f_run : Addr
  d_run : FuncData
  h_run : Fd K mg "run" s_run ["jobs"] f_run d_run
  f_first_due : Addr
  d_first_due : FuncData
  h_first_due : Fd K mg "_first_due" s_first_due ["jobs", "left", "time"] f_first_due d_first_due
  f_next_come : Addr
  d_next_come : FuncData
  h_next_come : Fd K mg "_next_come" s_next_come ["jobs", "time"] f_next_come d_next_come
  f_end_of_work : Addr
  d_end_of_work : FuncData
  h_end_of_work : Fd K mg "_end_of_work" s_end_of_work ["jobs", "time", "rest"] f_end_of_work d_end_of_work
  f_add_piece : Addr
  d_add_piece : FuncData
  h_add_piece : Fd K mg "_add_piece" s_add_piece ["pieces", "place", "begin", "end"] f_add_piece d_add_piece
  f_ends : Addr
  d_ends : FuncData
  h_ends : Fd K mg "ends" s_ends ["jobs"] f_ends d_ends
  f_late : Addr
  d_late : FuncData
  h_late : Fd K mg "late" s_late ["jobs"] f_late d_late
  f_answer : Addr
  d_answer : FuncData
  h_answer : Fd K mg "answer" s_answer ["jobs"] f_answer d_answer
  f_begin_of_stretch : Addr
  d_begin_of_stretch : FuncData
  h_begin_of_stretch : Fd K mg "_begin_of_stretch" s_begin_of_stretch ["jobs", "pieces", "end"] f_begin_of_stretch d_begin_of_stretch
  f_Book___init__ : Addr
  d_Book___init__ : FuncData
  h_Book___init__ : Md K "__init__" "Book.__init__" s_Book___init__ ["self"] f_Book___init__ d_Book___init__
  f_Book_take : Addr
  d_Book_take : FuncData
  h_Book_take : Md K "take" "Book.take" s_Book_take ["self", "job"] f_Book_take d_Book_take
  f_Book_drop : Addr
  d_Book_drop : FuncData
  h_Book_drop : Md K "drop" "Book.drop" s_Book_drop ["self", "place"] f_Book_drop d_Book_drop
  f_Book_listed : Addr
  d_Book_listed : FuncData
  h_Book_listed : Md K "listed" "Book.listed" s_Book_listed ["self"] f_Book_listed d_Book_listed
  f_Book_plan : Addr
  d_Book_plan : FuncData
  h_Book_plan : Md K "plan" "Book.plan" s_Book_plan ["self"] f_Book_plan d_Book_plan
  f_law_whole : Addr
  d_law_whole : FuncData
  h_law_whole : Fd K mg "_law_whole" s_law_whole ["_law_found"] f_law_whole d_law_whole
  f_law_cell_at : Addr
  d_law_cell_at : FuncData
  h_law_cell_at : Fd K mg "_law_cell_at" s_law_cell_at ["_law_script", "_law_k"] f_law_cell_at d_law_cell_at
  f_law_load : Addr
  d_law_load : FuncData
  h_law_load : Fd K mg "_law_load" s_law_load ["_law_jobs", "_law_begin", "_law_end"] f_law_load d_law_load
  f_law_triple : Addr
  d_law_triple : FuncData
  h_law_triple : Fd K mg "_law_triple" s_law_triple ["_law_piece"] f_law_triple d_law_triple
  f_law_meets : Addr
  d_law_meets : FuncData
  h_law_meets : Fd K mg "_law_meets" s_law_meets ["_law_jobs", "_law_pieces"] f_law_meets d_law_meets
  f_law_crowded : Addr
  d_law_crowded : FuncData
  h_law_crowded : Fd K mg "_law_crowded" s_law_crowded ["_law_jobs", "_law_place", "_law_begin", "_law_end"] f_law_crowded d_law_crowded
  f_law_deed : Addr
  d_law_deed : FuncData
  h_law_deed : Fd K mg "_law_deed" s_law_deed ["_law_book", "_law_held", "_law_cell", "_law_wide"] f_law_deed d_law_deed
  f_law_taken : Addr
  d_law_taken : FuncData
  h_law_taken : Fd K mg "_law_taken" s_law_taken ["_law_book", "_law_held", "_law_job"] f_law_taken d_law_taken
  f_law_full : Addr
  d_law_full : FuncData
  h_law_full : Fd K mg "_law_full" s_law_full ["_law_book", "_law_place"] f_law_full d_law_full
  f_law_many : Addr
  d_law_many : FuncData
  h_law_many : Fd K mg "_law_many" s_law_many ["_law_book", "_law_cell", "_law_count"] f_law_many d_law_many
  c_Book : Addr
  g_Book : mg "Book" = some (.ref c_Book)
  cl_Book : Cls K c_Book
  na_Book__jobs : NoAttr K c_Book "_jobs"
  me_Book___init__ : Mk K c_Book f_Book___init__
  me_Book_take : Meth K c_Book "take" f_Book_take
  me_Book_drop : Meth K c_Book "drop" f_Book_drop
  me_Book_listed : Meth K c_Book "listed" f_Book_listed
  me_Book_plan : Meth K c_Book "plan" f_Book_plan
  c_TooMany : Addr
  g_TooMany : mg "TooMany" = some (.ref c_TooMany)
  x_TooMany : PySem.W.excIn K c_TooMany [.type "ValueError", .type "Exception", .type "BaseException", .type "object"] "ValueError.__new__" = true
  k_TooMany : PySem.W.keepIn K (.ref c_TooMany) = true
  s_TooMany : PySem.W.subIn K (.ref c_TooMany) (.type "BaseException") = some true
  t_TooMany : PySem.W.typeIn K (.ref c_TooMany) = some (.type "type")
  c_BadJob : Addr
  g_BadJob : mg "BadJob" = some (.ref c_BadJob)
  x_BadJob : PySem.W.excIn K c_BadJob [.type "ValueError", .type "Exception", .type "BaseException", .type "object"] "ValueError.__new__" = true
  k_BadJob : PySem.W.keepIn K (.ref c_BadJob) = true
  s_BadJob : PySem.W.subIn K (.ref c_BadJob) (.type "BaseException") = some true
  t_BadJob : PySem.W.typeIn K (.ref c_BadJob) = some (.type "type")
  c_OutOfPlace : Addr
  g_OutOfPlace : mg "OutOfPlace" = some (.ref c_OutOfPlace)
  x_OutOfPlace : PySem.W.excIn K c_OutOfPlace [.type "ValueError", .type "Exception", .type "BaseException", .type "object"] "ValueError.__new__" = true
  k_OutOfPlace : PySem.W.keepIn K (.ref c_OutOfPlace) = true
  s_OutOfPlace : PySem.W.subIn K (.ref c_OutOfPlace) (.type "BaseException") = some true
  t_OutOfPlace : PySem.W.typeIn K (.ref c_OutOfPlace) = some (.type "type")
  c_NoRow : Addr
  g_NoRow : mg "NoRow" = some (.ref c_NoRow)
  x_NoRow : PySem.W.excIn K c_NoRow [.type "ValueError", .type "Exception", .type "BaseException", .type "object"] "ValueError.__new__" = true
  k_NoRow : PySem.W.keepIn K (.ref c_NoRow) = true
  s_NoRow : PySem.W.subIn K (.ref c_NoRow) (.type "BaseException") = some true
  t_NoRow : PySem.W.typeIn K (.ref c_NoRow) = some (.type "type")
  c_RunError : Addr
  g_RunError : mg "RunError" = some (.ref c_RunError)
  x_RunError : PySem.W.excIn K c_RunError [.type "ValueError", .type "Exception", .type "BaseException", .type "object"] "ValueError.__new__" = true
  k_RunError : PySem.W.keepIn K (.ref c_RunError) = true
  s_RunError : PySem.W.subIn K (.ref c_RunError) (.type "BaseException") = some true
  t_RunError : PySem.W.typeIn K (.ref c_RunError) = some (.type "type")
  e_TooMany_TooMany : PySem.W.exmOne K (.ref c_TooMany) (.ref c_TooMany) = some true
  e_TooMany_BadJob : PySem.W.exmOne K (.ref c_TooMany) (.ref c_BadJob) = some false
  e_TooMany_OutOfPlace : PySem.W.exmOne K (.ref c_TooMany) (.ref c_OutOfPlace) = some false
  e_TooMany_NoRow : PySem.W.exmOne K (.ref c_TooMany) (.ref c_NoRow) = some false
  e_TooMany_RunError : PySem.W.exmOne K (.ref c_TooMany) (.ref c_RunError) = some true
  e_BadJob_TooMany : PySem.W.exmOne K (.ref c_BadJob) (.ref c_TooMany) = some false
  e_BadJob_BadJob : PySem.W.exmOne K (.ref c_BadJob) (.ref c_BadJob) = some true
  e_BadJob_OutOfPlace : PySem.W.exmOne K (.ref c_BadJob) (.ref c_OutOfPlace) = some false
  e_BadJob_NoRow : PySem.W.exmOne K (.ref c_BadJob) (.ref c_NoRow) = some false
  e_BadJob_RunError : PySem.W.exmOne K (.ref c_BadJob) (.ref c_RunError) = some true
  e_OutOfPlace_TooMany : PySem.W.exmOne K (.ref c_OutOfPlace) (.ref c_TooMany) = some false
  e_OutOfPlace_BadJob : PySem.W.exmOne K (.ref c_OutOfPlace) (.ref c_BadJob) = some false
  e_OutOfPlace_OutOfPlace : PySem.W.exmOne K (.ref c_OutOfPlace) (.ref c_OutOfPlace) = some true
  e_OutOfPlace_NoRow : PySem.W.exmOne K (.ref c_OutOfPlace) (.ref c_NoRow) = some false
  e_OutOfPlace_RunError : PySem.W.exmOne K (.ref c_OutOfPlace) (.ref c_RunError) = some true
  q_OutOfPlace : ExcC K c_OutOfPlace
  i_OutOfPlace_OutOfPlace : PySem.W.kitOne K (.ref c_OutOfPlace) (.ref c_OutOfPlace) = some true
  i_OutOfPlace_BadJob : PySem.W.kitOne K (.ref c_OutOfPlace) (.ref c_BadJob) = some false
  i_OutOfPlace_NoRow : PySem.W.kitOne K (.ref c_OutOfPlace) (.ref c_NoRow) = some false
  i_OutOfPlace_TooMany : PySem.W.kitOne K (.ref c_OutOfPlace) (.ref c_TooMany) = some false
  b_tuple : mg "tuple" = none
  b_all : mg "all" = none
  b_type : mg "type" = none
  b_len : mg "len" = none
  b_int : mg "int" = none
  b_enumerate : mg "enumerate" = none
  b_any : mg "any" = none
  b_min : mg "min" = none
  b_sorted : mg "sorted" = none
  b_reversed : mg "reversed" = none
  b_list : mg "list" = none
  b_isinstance : mg "isinstance" = none
  b_bool : mg "bool" = none
  b_sum : mg "sum" = none
  b_range : mg "range" = none
  t_LIMIT : Tok
  c_LIMIT : mg "LIMIT" = some (.int 60 t_LIMIT)

end DLL
namespace DLL
open PySem PySem.Spec PyProof.Rows L2 Evl DL
def BW : Int := 100000000000000000000000000000000000000000000000000000000
def BJ : Int := 1000000000000000000000000000000000000000000000000000000000000
structure JobOk (j : T3) : Prop where
  s : SoundJ j
  c : j.1 < BJ
  l : j.2.1 < BJ
  d : j.2.2 < BJ
theorem cmulW {i j : Int} (h1 : 0 ≤ i) (h2 : i ≤ BJ) (h3 : 0 ≤ j) (h4 : j ≤ BJ) : CMulW i j := by
  unfold BJ at h2 h4
  exact wide_mul (a := 256) (b := 256) (by omega) (by omega) (by decide) (by decide) (by decide)
theorem mul_bound {a w n : Int} (h0 : 0 ≤ a) (h1 : a ≤ n) (hw : 0 ≤ w) : 0 ≤ a * w ∧ a * w ≤ n * w := ⟨Int.mul_nonneg h0 hw, Int.mul_le_mul_of_nonneg_right h1 hw⟩
theorem mul_step {a b w : Int} (h : a < b) (hw : 0 ≤ w) : a * w + w ≤ b * w := by
  have := Int.mul_le_mul_of_nonneg_right (show a + 1 ≤ b by omega) hw
  rw [Int.add_mul, Int.one_mul] at this
  exact this
theorem cpow56 : CPow 10 56 := ⟨by decide, by decide, by decide⟩
end DLL
namespace DLL
open PySem PySem.Spec PyProof.Rows L2 Evl DL
section
variable {P : Program} {w : World} {K : PySem.W.Frag} {mg : Str → Option Value} {base : Heap} {H : Hp}
/-! ### the law's cells -/
def spCellAt (K : PySem.W.Frag) : Sp := fun vs H Q _ => ∃ (a : Addr) (ns : List Int) (k : Nat), vs = [.ref a, .int (k : Int)] ∧ SqL K H a (ns.map V.int) ∧ ∀ H', Ex H H' → Q (.int (ns.getD k 0)) H'
theorem v_cell_at {a : Addr} {ns : List Int} {k : Nat} (hS : SqL K H a (ns.map V.int)) : SpV (spCellAt K) [.ref a, .int (k : Int)] H (.int (ns.getD k 0)) := fun H1 e Q q E => ⟨a, ns, k, rfl, ex_l e hS, q⟩
theorem ints_at {ns : List Int} {k : Nat} (h : k < ns.length) : (ns.map V.int)[k]? = some (.int (ns.getD k 0)) := by
  rw [List.getElem?_map, List.getElem?_eq_getElem h, getD_lt h]
  rfl
theorem ok_law_cell_at (T : TX K mg) : FnOk P w K mg base CX0 1 T.f_law_cell_at T.d_law_cell_at ["_law_script", "_law_k"] (spCellAt K) := by
  refine T.h_law_cell_at.F.ok sc_law_cell_at (fun vs H Q E h => ?_) (fun cdv A outer s H vs Q E hr h => ?_)
  · obtain ⟨a, ns, k, rfl, _⟩ := h
    rfl
  · obtain ⟨a, ns, k, rfl, hS, q⟩ := h
    refine ⟨_, (pss_cons (ps_if (pt_cmpR op_lt (pv 1) (pe_callB (id := "len") (r := Evl.rLenS K) call_len_seq (by rfl) T.b_len PySem.boot_len (pa_cons (pv 0) pa_nil)) (nomark _))
    (pss_one (ps_ret (pe_ix (r := rIxL K) ix_list (pv 0) (pv 1) (fun _ _ => rfl))))
    pss_nil)
  (pss_one (ps_ret pe_int))), ?_⟩
    refine q_when (b := decide ((k : Int) < ((ns.map V.int).length : Int))) (et_test (ev_op (ev_var rfl) (ev_len (ev_var rfl) hS) rv_I0)) (fun hb H1 e1 => ?_) (fun hb H1 e1 => ?_)
    · have hk : k < ns.length := by
        have := of_decide_eq_true hb
        rw [List.length_map] at this
        omega
      exact s_ret (ev_op (ev_var rfl) (ev_var rfl) (rv_ixL (ex_l e1 hS) (atI_nat (ints_at hk)))) fun H2 e2 => q H2 (e1.trans e2)
    · have hk : ns.length ≤ k := by
        have := of_decide_eq_false hb
        rw [List.length_map] at this
        omega
      refine s_ret ev_c fun H2 e2 => ?_
      have := q H2 (e1.trans e2)
      rw [getD_ge hk] at this
      exact this

/-! ### numbers from cells -/
end
end DLL
namespace DLL
open PySem PySem.Spec PyProof.Rows L2 Evl DL
section
variable {P : Program} {w : World} {K : PySem.W.Frag} {mg : Str → Option Value} {base : Heap} {H : Hp}
/-! ### sound, check_jobs -/
def soundB (j : T3) : Bool := decide (0 ≤ j.1) && (decide (1 ≤ j.2.1) && decide (j.1 < j.2.2))
theorem soundB_iff {j : T3} : soundB j = true ↔ SoundJ j := by
  unfold soundB SoundJ
  simp
def spSound : Sp := fun vs H Q _ => ∃ (t : Addr) (j : T3), vs = [.ref t] ∧ AtT H t j ∧ ∀ H', Ex H H' → Q (.bl (soundB j)) H'
theorem ok_sound (T : TX K mg) : FnOk P w K mg base CX0 1 T.f_sound T.d_sound ["job"] spSound := by
  refine T.h_sound.F.ok sc_sound (fun vs H Q E h => ?_) (fun cdv A outer s H vs Q E hr h => ?_)
  · obtain ⟨_, _, rfl, _⟩ := h
    rfl
  · obtain ⟨t, j, rfl, ht, q⟩ := h
    refine ⟨_, (pss_cons (ps_if (PW.pt (pw_or (pt_cmpR op_neTy (pe_callTy (T := "type") (r := rTyp K) call_type1 (by rfl) T.b_type (by decide +kernel) (pa_cons (pv 0) pa_nil)) (pe_bltn (v := .ty "tuple") (by rfl) T.b_tuple (by decide +kernel) rfl) (nomark _)) (pw_or1 (pt_cmpR op_ne (pe_callB (id := "len") (r := Evl.rLenS K) call_len_seq (by rfl) T.b_len PySem.boot_len (pa_cons (pv 0) pa_nil)) pe_int (nomark _)))))
    (pss_one (ps_ret pe_bl))
    pss_nil)
  (pss_cons (ps_if (pt_not (pt_val (pe_callB (id := "all") (r := rAll K) (cr_all rfl) (by rfl) T.b_all (by decide +kernel) (pa_cons (pe_lc (own := [("number", 4)]) (g := (gName 4)) (tt := tYes) rfl sc_sound.nd (pi_tup (pv 0)) (blkOk_by (own := [("number", 4)]) (N := N_sound) (sc := defScope s_sound) (by decide +kernel)) (fun _ _ _ _ _ => (pg_name (i := 4) sc_sound.nd rfl (.inl rfl))) (fun _ _ _ _ _ => pts_nil) (fun _ _ _ _ _ => (pe_cmpR op_eqTy (pe_callTy (T := "type") (r := rTyp K) call_type1 (by rfl) T.b_type (by decide +kernel) (pa_cons (pv 4) pa_nil)) (pe_bltn (v := .ty "int") (by rfl) T.b_int (by decide +kernel) rfl) (nomark _)))) pa_nil))))
    (pss_one (ps_ret pe_bl))
    pss_nil)
  (pss_cons (ps_asg (pv 0) (pg_tup rfl (pgs_cons (pg_name (i := 1) sc_sound.nd rfl (.inl rfl)) (pgs_cons (pg_name (i := 2) sc_sound.nd rfl (.inl rfl)) (pgs_cons (pg_name (i := 3) sc_sound.nd rfl (.inl rfl)) pgs_nil)))))
  (pss_one (ps_ret (pe_and (pe_cmpR op_ge (pv 1) pe_int (nomark _)) (pe_and (pe_cmpR op_ge (pv 2) pe_int (nomark _)) (pe_one (pe_cmpR op_gt (pv 3) (pv 1) (nomark _)))))))))), ?_⟩
    refine q_when (b := (!decide (("tuple" : String) = "tuple")) || (!decide (V.int (((tv j).length : Nat) : Int) = V.int 3))) (et_or (et_test (ev_op (ev_type (ev_var rfl) fun H1 e1 => .tup (ex_t e1 (SqT.of ht))) ev_c (rv_neTy st_tup st_tup))) fun _ => et_test (ev_op (ev_lenU (ev_var rfl) ht) ev_c (rv_ne rfl))) (fun hb H1 e1 => ?_) (fun hb H1 e1 => ?_)
    · exact absurd (show ((!decide (("tuple" : String) = "tuple")) || (!decide (V.int (((tv j).length : Nat) : Int) = V.int 3))) = false from rfl) (by rw [hb]; decide)
    · refine q_when (b := !([true, true, true].all id)) (et_not (et_B (ev_allN (bs := [true, true, true]) (el_lcU (xs := tv j) (fun _ => .bl true) (ev_var rfl) (ex_t e1 (SqT.of ht)) (show 3 ≤ 40000 by decide) (fun _ => rfl) fun x H2 hx e2 => ?_)))) (fun hb H2 e2 => absurd hb (by decide)) (fun hb H2 e2 => ?_)
      · obtain ⟨n, rfl⟩ : ∃ n, x = V.int n := by
          unfold tv at hx
          simp only [List.mem_cons, List.not_mem_nil, or_false] at hx
          rcases hx with e | e | e <;> exact ⟨_, e⟩
        exact ev_op (ev_type (ev_var rfl) fun H3 _ => .int n) ev_c (rv_eqTy st_int st_int)
      · refine q_asgG (ev_var rfl) fun H3 e3 => ?_
        refine g_three (((e1.trans e2).trans e3) _ _ ht) ?_
        exact s_ret (v := .bl (soundB j)) (ev_andV (by walk_at "ev") fun _ => ev_andV (by walk_at "ev") fun _ => by walk_at "ev") fun H4 e4 => q H4 (((e1.trans e2).trans e3).trans e4)
theorem ev_sound {σ : St} {ta : TA} {E : XK} {t : Addr} {j : T3} (h : EvA ta σ H [.ref t]) (ht : AtT H t j) : Ev (tCall spSound [] E ta) σ H (.bl (soundB j)) := ev_call h fun H1 e Q q E => ⟨t, j, rfl, e _ _ ht, q⟩
/-- at most sixty sound jobs: nothing is refused -/
def spCheck : Sp := fun vs H Q _ => ∃ (p : Addr) (js : List T3), vs = [.ref p] ∧ TL H p js ∧ js.length ≤ 60 ∧ Sound js ∧ ∀ H', Ex H H' → Q .non H'
theorem ok_check_jobs (T : TX K mg) : FnOk P w K mg base CX0 2 T.f_check_jobs T.d_check_jobs ["jobs"] spCheck := by
  refine T.h_check_jobs.F.ok sc_check_jobs (fun vs H Q E h => ?_) (fun cdv A outer s H vs Q E hr h => ?_)
  · obtain ⟨_, _, rfl, _⟩ := h
    rfl
  · obtain ⟨p, js, rfl, hT, hl, hS, q⟩ := h
    refine ⟨_, (pss_cons (ps_if (pt_cmpR op_gt (pe_callB (id := "len") (r := Evl.rLenS K) call_len_seq (by rfl) T.b_len PySem.boot_len (pa_cons (pv 0) pa_nil)) (pe_glob (v := .int 60) (by rfl) T.c_LIMIT ⟨_, rfl⟩) (nomark _))
    (pss_one ps_never)
    pss_nil)
  (pss_one (ps_for PassesOwn.never rfl (pi_enum (by rfl) T.b_enumerate (pa_cons (pv 0) pa_nil)) (pg_tup rfl (pgs_cons (pg_name (i := 1) sc_check_jobs.nd rfl (.inl rfl)) (pgs_cons (pg_name (i := 2) sc_check_jobs.nd rfl (.inl rfl)) pgs_nil)))
    (pss_one (ps_if (pt_not (pt_val (pe_call (ok_sound T) (hr.mono (by decide)) (by rfl) T.h_sound.g T.h_sound.F.kp T.h_sound.b .nil pass0 (pa_cons (pv 2) pa_nil))))
    (pss_one ps_never)
    pss_nil))))), ?_⟩
    refine q_when (b := decide ((60 : Int) < (js.length : Int))) (et_test (ev_op (ev_lenT (ev_var rfl) hT) ev_c rv_I0)) (fun hb H1 e1 => ?_) (fun hb H1 e1 => ?_)
    · have := of_decide_eq_true hb
      omega
    · obtain ⟨ts, h1, h2⟩ := hT.mono e1
      refine s_forEn (ev_var rfl) (SqL.of h1) (fun i σ' H' => ∃ x1 x2 : Option V, σ' = [some (.ref p), x1, x2] ∧ Ex H1 H') (fun H2 e2 => ⟨none, none, rfl, e2⟩) (fun i σ' H' _ ⟨_, _, _, e⟩ => SqL.of (e _ _ h1)) ?_ ?_
      · rintro i x TT σ' H' hi nT ⟨x1, x2, rfl, e2⟩
        rw [List.getElem?_map] at hi
        obtain ⟨t, et, rfl⟩ := Option.map_eq_some_iff.mp hi
        obtain ⟨j, hj, a⟩ := h2.getA et
        have e3 : Ex H' (upd H' TT (.tup [.int (i : Int), .ref t])) := Ex.new nT
        refine g_two upd_same ?_
        have hs : soundB j = true := soundB_iff.mpr (hS j (List.mem_of_getElem? hj))
        refine s_when (b := !soundB j) (et_not (et_B (ev_sound (ea_cons (ev_var rfl) ea_nil) (e3 _ _ (e2 _ _ a))))) (fun hb H4 e4 => ?_) (fun hb H4 e4 => ⟨_, _, rfl, (e2.trans e3).trans e4⟩)
        rw [hs] at hb
        cases hb
      · rintro σ' H' ⟨x1, x2, rfl, e2⟩
        exact q _ (e1.trans e2)
theorem ev_check {σ : St} {ta : TA} {E : XK} {p : Addr} {js : List T3} (h : EvA ta σ H [.ref p]) (hT : TL H p js) (hl : js.length ≤ 60) (hS : Sound js) : Ev (tCall spCheck [] E ta) σ H .non := ev_call h fun H1 e Q q E => ⟨p, js, rfl, hT.mono e, hl, hS, q⟩
end
end DLL
namespace DLL
open PySem PySem.Spec PyProof.Rows L2 Evl DL
/-! ### things that may be no jobs -/
def isInt : V → Bool
  | .int _ => true
  | _ => false
def tripOf : List V → Option T3
  | [.int a, .int b, .int c] => some (a, b, c)
  | _ => none
def thB : Option T3 → Bool
  | some j => soundB j
  | none => false
def ThingV (K : PySem.W.Frag) (H : Hp) (x : V) (r : Option T3) : Prop :=
  (∃ T, SmallTy T ∧ T ≠ "tuple" ∧ TyB K H x T ∧ r = none) ∨
  ∃ (t : Addr) (xs : List V), x = .ref t ∧ H t = some (.tup xs) ∧ xs.length ≤ 1000 ∧ (∀ y ∈ xs, ∃ T, SmallTy T ∧ TyB K H y T) ∧ r = tripOf xs
theorem TyB.mono {K : PySem.W.Frag} {H H' : Hp} {x : V} {T : String} (e : Ex H H') (h : TyB K H x T) : TyB K H' x T := by
  cases h with
  | non => exact .non
  | bl b => exact .bl b
  | int i => exact .int i
  | str s => exact .str s
  | byt b => exact .byt b
  | lst h => exact .lst (ex_l e h)
  | tup h => exact .tup (ex_t e h)
  | dK h => exact .dK (e _ _ h)
theorem ThingV.mono {K : PySem.W.Frag} {H H' : Hp} {x : V} {r : Option T3} (e : Ex H H') (h : ThingV K H x r) : ThingV K H' x r := by
  rcases h with ⟨T, h1, h2, h3, h4⟩ | ⟨t, xs, h1, h2, h3, h4, h5⟩
  · exact .inl ⟨T, h1, h2, TyB.mono e h3, h4⟩
  · refine .inr ⟨t, xs, h1, e _ _ h2, h3, fun y hy => ?_, h5⟩
    obtain ⟨T, g1, g2⟩ := h4 y hy
    exact ⟨T, g1, TyB.mono e g2⟩
theorem tyb_int {K : PySem.W.Frag} {H : Hp} {x : V} {T : String} (h : TyB K H x T) : decide (T = "int") = isInt x := by
  cases h <;> rfl
theorem all_ints3 : ∀ {xs : List V}, xs.length = 3 → (xs.map isInt).all id = true → ∃ a b c, xs = [.int a, .int b, .int c]
  | [x, y, z], _, h => by
    have h : (isInt x && (isInt y && (isInt z && true))) = true := h
    rw [Bool.and_eq_true, Bool.and_eq_true, Bool.and_eq_true] at h
    obtain ⟨h1, h2, h3, _⟩ := h
    cases x <;> first | cases h1 | skip
    cases y <;> first | cases h2 | skip
    cases z <;> first | cases h3 | skip
    exact ⟨_, _, _, rfl⟩
theorem trip_none {xs : List V} (h : xs.length ≠ 3) : tripOf xs = none := by
  unfold tripOf
  split
  · exact absurd rfl h
  · rfl
theorem trip_some {xs : List V} {j : T3} (h : tripOf xs = some j) : xs = tv j := by
  unfold tripOf at h
  split at h
  · cases h; rfl
  · cases h
theorem trip_int {xs : List V} (h : (xs.map isInt).all id = false) : tripOf xs = none := by
  cases e : tripOf xs with
  | none => rfl
  | some j =>
    rw [trip_some e] at h
    cases h
section
variable {P : Program} {w : World} {K : PySem.W.Frag} {mg : Str → Option Value} {base : Heap} {H : Hp}
def spSoundG (K : PySem.W.Frag) : Sp := fun vs H Q _ => ∃ (x : V) (r : Option T3), vs = [x] ∧ ThingV K H x r ∧ ∀ H', Ex H H' → Q (.bl (thB r)) H'
theorem okg_sound (T : TX K mg) : FnOk P w K mg base CX0 1 T.f_sound T.d_sound ["job"] (spSoundG K) := by
  refine T.h_sound.F.ok sc_sound (fun vs H Q E h => ?_) (fun cdv A outer s H vs Q E hr h => ?_)
  · obtain ⟨_, _, rfl, _⟩ := h
    rfl
  · obtain ⟨x, r, rfl, hx, q⟩ := h
    refine ⟨_, (pss_cons (ps_if (PW.pt (pw_or (pt_cmpR op_neTy (pe_callTy (T := "type") (r := rTyp K) call_type1 (by rfl) T.b_type (by decide +kernel) (pa_cons (pv 0) pa_nil)) (pe_bltn (v := .ty "tuple") (by rfl) T.b_tuple (by decide +kernel) rfl) (nomark _)) (pw_or1 (pt_cmpR op_ne (pe_callB (id := "len") (r := Evl.rLenS K) call_len_seq (by rfl) T.b_len PySem.boot_len (pa_cons (pv 0) pa_nil)) pe_int (nomark _)))))
    (pss_one (ps_ret pe_bl))
    pss_nil)
  (pss_cons (ps_if (pt_not (pt_val (pe_callB (id := "all") (r := rAll K) (cr_all rfl) (by rfl) T.b_all (by decide +kernel) (pa_cons (pe_lc (own := [("number", 4)]) (g := (gName 4)) (tt := tYes) rfl sc_sound.nd (pi_tup (pv 0)) (blkOk_by (own := [("number", 4)]) (N := N_sound) (sc := defScope s_sound) (by decide +kernel)) (fun _ _ _ _ _ => (pg_name (i := 4) sc_sound.nd rfl (.inl rfl))) (fun _ _ _ _ _ => pts_nil) (fun _ _ _ _ _ => (pe_cmpR op_eqTy (pe_callTy (T := "type") (r := rTyp K) call_type1 (by rfl) T.b_type (by decide +kernel) (pa_cons (pv 4) pa_nil)) (pe_bltn (v := .ty "int") (by rfl) T.b_int (by decide +kernel) rfl) (nomark _)))) pa_nil))))
    (pss_one (ps_ret pe_bl))
    pss_nil)
  (pss_cons (ps_asg (pv 0) (pg_tup rfl (pgs_cons (pg_name (i := 1) sc_sound.nd rfl (.inl rfl)) (pgs_cons (pg_name (i := 2) sc_sound.nd rfl (.inl rfl)) (pgs_cons (pg_name (i := 3) sc_sound.nd rfl (.inl rfl)) pgs_nil)))))
  (pss_one (ps_ret (pe_and (pe_cmpR op_ge (pv 1) pe_int (nomark _)) (pe_and (pe_cmpR op_ge (pv 2) pe_int (nomark _)) (pe_one (pe_cmpR op_gt (pv 3) (pv 1) (nomark _)))))))))), ?_⟩
    rcases hx with ⟨T, h1, h2, h3, rfl⟩ | ⟨t, xs, rfl, ht, hl, hty, rfl⟩
    · have hz : (!decide (T = "tuple") || true) = true := Bool.or_true _
      refine q_when (b := !decide (T = "tuple") || true) (et_or (et_test (ev_op (ev_type (ev_var rfl) fun H1 e1 => TyB.mono e1 h3) ev_c (rv_neTy h1 st_tup))) fun z => ?_) (fun hb H1 e1 => s_ret ev_c fun H2 e2 => q H2 (e1.trans e2)) (fun hb H1 e1 => by rw [hz] at hb; cases hb)
      rw [decide_eq_false h2] at z
      cases z
    · refine q_when (b := (!decide (("tuple" : String) = "tuple")) || (!decide (V.int ((xs.length : Nat) : Int) = V.int 3))) (et_or (et_test (ev_op (ev_type (ev_var rfl) fun H1 e1 => .tup (ex_t e1 (SqT.of ht))) ev_c (rv_neTy st_tup st_tup))) fun _ => et_test (ev_op (ev_lenU (ev_var rfl) ht) ev_c (rv_ne rfl))) (fun hb H1 e1 => ?_) (fun hb H1 e1 => ?_)
      · have hn : xs.length ≠ 3 := fun z => by
          rw [z] at hb
          exact absurd hb (by decide)
        rw [trip_none hn] at q
        exact s_ret ev_c fun H2 e2 => q H2 (e1.trans e2)
      · have hn : xs.length = 3 := by
          have : decide (V.int ((xs.length : Nat) : Int) = V.int 3) = true := by simpa using hb
          have := V.int.inj (of_decide_eq_true this)
          omega
        refine q_when (b := !((xs.map isInt).all id)) (et_not (et_B (ev_allN (bs := xs.map isInt) ?_))) (fun hb H2 e2 => ?_) (fun hb H2 e2 => ?_)
        · have := el_lcU (K := K) (σ := [some (.ref t), none, none, none, none]) (H := H1) (te := tOp rEqTy (tCB (rTyp K) (tCons (tVar 4) tNil)) (tC (.ty "int"))) (tl := tVar 0) (jj := 4) (vs := [4]) (xs := xs) (fun x => .bl (isInt x)) (ev_var rfl) (ex_t e1 (SqT.of ht)) (by omega) (fun _ => rfl) (fun x H2 hx e2 => by
            obtain ⟨T, g1, g2⟩ := hty x hx
            rw [← tyb_int g2]
            exact ev_op (ev_type (ev_var rfl) fun H3 e3 => TyB.mono ((e1.trans e2).trans e3) g2) ev_c (rv_eqTy g1 st_int))
          rw [show (xs.map isInt).map V.bl = xs.map fun x => V.bl (isInt x) by rw [List.map_map]; rfl]
          exact this
        · have hb : (xs.map isInt).all id = false := by simpa using hb
          rw [trip_int hb] at q
          exact s_ret ev_c fun H3 e3 => q H3 ((e1.trans e2).trans e3)
        · obtain ⟨a, b, c, rfl⟩ := all_ints3 hn (by simpa using hb)
          have q : ∀ H', Ex H H' → Q (.bl (soundB (a, b, c))) H' := q
          refine q_asgG (ev_var rfl) fun H3 e3 => ?_
          refine g_three (j := (a, b, c)) (((e1.trans e2).trans e3) _ _ ht) ?_
          exact s_ret (v := .bl (soundB (a, b, c))) (ev_andV (by walk_at "ev") fun _ => ev_andV (by walk_at "ev") fun _ => by walk_at "ev") fun H4 e4 => q H4 (((e1.trans e2).trans e3).trans e4)
theorem ev_soundG {σ : St} {ta : TA} {E : XK} {x : V} {r : Option T3} (h : EvA ta σ H [x]) (hx : ThingV K H x r) : Ev (tCall (spSoundG K) [] E ta) σ H (.bl (thB r)) := ev_call h fun H1 e Q q E => ⟨x, r, rfl, hx.mono e, q⟩
/-- a list that is refused, and how -/
def Refused (K : PySem.W.Frag) (T : TX K mg) (H : Hp) (p : Addr) (cls : Value) : Prop :=
  ∃ (xs : List V) (rs : List (Option T3)), SqL K H p xs ∧ Paired (ThingV K H) xs rs ∧ xs.length ≤ 40000 ∧
    ((60 < xs.length ∧ cls = .ref T.c_TooMany) ∨ (xs.length ≤ 60 ∧ (∃ r ∈ rs, thB r = false) ∧ cls = .ref T.c_BadJob))
theorem things_mono {H H' : Hp} (e : Ex H H') : ∀ {xs : List V} {rs : List (Option T3)}, Paired (ThingV K H) xs rs → Paired (ThingV K H') xs rs
  | _, _, .nil => .nil
  | _, _, .cons a b => .cons (a.mono e) (things_mono e b)
theorem Refused.mono {T : TX K mg} {H H' : Hp} {p : Addr} {cls : Value} (e : Ex H H') (h : Refused K T H p cls) : Refused K T H' p cls := by
  obtain ⟨xs, rs, h1, h2, h3⟩ := h
  exact ⟨xs, rs, ex_l e h1, things_mono e h2, h3⟩
theorem things_get : ∀ {xs : List V} {rs : List (Option T3)} {i : Nat} {x : V}, Paired (ThingV K H) xs rs → xs[i]? = some x → ∃ r, rs[i]? = some r ∧ ThingV K H x r
  | _, _, i, _, .nil, h => by simp at h
  | _, _, 0, _, .cons a _, h => by
    have := Option.some.inj h
    subst this
    exact ⟨_, rfl, a⟩
  | _, _, i + 1, _, .cons _ b, h => things_get (i := i) b h
/-- each list of things has its answer of check_jobs -/
def spCheckX (T : TX K mg) : Sp := fun vs H Q E => ∃ (p : Addr) (xs : List V) (rs : List (Option T3)), vs = [.ref p] ∧ SqL K H p xs ∧ Paired (ThingV K H) xs rs ∧ xs.length ≤ 40000 ∧
  (60 < xs.length → ∀ H', Ex H H' → E (.ref T.c_TooMany) none H') ∧ (xs.length ≤ 60 → (∃ r ∈ rs, thB r = false) → ∀ H', Ex H H' → E (.ref T.c_BadJob) none H') ∧ (xs.length ≤ 60 → (∀ r ∈ rs, thB r = true) → ∀ H', Ex H H' → Q .non H')
theorem things_of : ∀ {ts : List Addr} {js : List T3}, Tps H ts js → Paired (ThingV K H) (ts.map V.ref) (js.map some)
  | _, _, .nil => .nil
  | _, _, .cons a b => .cons (.inr ⟨_, _, rfl, a, (by show 3 ≤ 1000; decide), fun y hy => by
      unfold tv at hy
      simp only [List.mem_cons, List.not_mem_nil, or_false] at hy
      rcases hy with e | e | e <;> exact ⟨"int", st_int, by rw [e]; exact .int _⟩, rfl⟩) (things_of b)
theorem chx_refused {T : TX K mg} {p : Addr} {cls : Value} {Q : VK} {E : XK} (h : Refused K T H p cls) (q : ∀ H', Ex H H' → E cls none H') : spCheckX T [.ref p] H Q E := by
  obtain ⟨xs, rs, h1, h2, h3, h4⟩ := h
  refine ⟨p, xs, rs, rfl, h1, h2, h3, fun h => ?_, fun h k => ?_, fun h k => ?_⟩
  · rcases h4 with ⟨_, rfl⟩ | ⟨g, _⟩
    · exact q
    · omega
  · rcases h4 with ⟨g, _⟩ | ⟨_, _, rfl⟩
    · omega
    · exact q
  · rcases h4 with ⟨g, _⟩ | ⟨_, ⟨r, hr, hz⟩, _⟩
    · omega
    · rw [k r hr] at hz
      cases hz
theorem chx_sound {T : TX K mg} {p : Addr} {js : List T3} {Q : VK} {E : XK} (hT : TL H p js) (hl : js.length ≤ 60) (hS : Sound js) (q : ∀ H', Ex H H' → Q .non H') : spCheckX T [.ref p] H Q E := by
  obtain ⟨ts, h1, h2⟩ := hT
  have hn : (ts.map V.ref).length = js.length := by rw [List.length_map, h2.len]
  have hg : ∀ r ∈ js.map some, thB r = true := fun r hr => by
    obtain ⟨j, hj, rfl⟩ := List.mem_map.mp hr
    exact soundB_iff.mpr (hS j hj)
  refine ⟨p, _, _, rfl, SqL.of h1, things_of h2, by omega, fun h => by omega, fun h k => ?_, fun h k => q⟩
  obtain ⟨r, hr, hz⟩ := k
  rw [hg r hr] at hz
  cases hz
theorem place_text : ∀ i : Nat, i < 64 → (Str.empty ++ ("the thing at place " : Str) ++ toString (i : Int)).length ≤ sizeLine ∧ (Str.empty ++ ("the thing at place " : Str) ++ toString (i : Int) ++ (" is no job" : Str)).length ≤ sizeLine := by decide +kernel
theorem okx_check_jobs (T : TX K mg) : FnOk P w K mg base (L2.CX P w) 2 T.f_check_jobs T.d_check_jobs ["jobs"] (spCheckX T) := by
  refine T.h_check_jobs.F.okX sc_check_jobs (fun vs H Q E h => ?_) (fun cdv A outer s H vs Q E hr h => ?_)
  · obtain ⟨_, _, _, rfl, _⟩ := h
    rfl
  · obtain ⟨p, xs, rs, rfl, hS, hp, hn, q1, q2, q3⟩ := h
    refine ⟨_, (pss_cons (ps_if (pt_cmpR op_gt (pe_callB (id := "len") (r := Evl.rLenS K) call_len_seq (by rfl) T.b_len PySem.boot_len (pa_cons (pv 0) pa_nil)) (pe_glob (v := .int 60) (by rfl) T.c_LIMIT ⟨_, rfl⟩) (nomark _))
    (pss_one (ps_raise rfl (takes_of rfl rfl rfl rfl) (SkE.pmk_own1 PySem.F.excBase_ValueError T.x_TooMany T.g_TooMany T.k_TooMany (raises_own T.s_TooMany T.t_TooMany) (by exact rfl) (pe_joined (.cons pe_str (.cons (pe_fmt (pe_glob (v := .int 60) (by rfl) T.c_LIMIT ⟨_, rfl⟩)) (.cons pe_str .nil)))))))
    pss_nil)
  (pss_one (ps_for (passes_of rfl) rfl (pi_enum (by rfl) T.b_enumerate (pa_cons (pv 0) pa_nil)) (pg_tup rfl (pgs_cons (pg_name (i := 1) sc_check_jobs.nd rfl (.inl rfl)) (pgs_cons (pg_name (i := 2) sc_check_jobs.nd rfl (.inl rfl)) pgs_nil)))
    (pss_one (ps_if (pt_not (pt_val (pe_call (okg_sound T) (hr.mono (by decide)) (by rfl) T.h_sound.g T.h_sound.F.kp T.h_sound.b .nil pass0 (pa_cons (pv 2) pa_nil))))
    (pss_one (ps_raise rfl (takes_of rfl rfl rfl rfl) (SkE.pmk_own1 PySem.F.excBase_ValueError T.x_BadJob T.g_BadJob T.k_BadJob (raises_own T.s_BadJob T.t_BadJob) (by exact rfl) (pe_joined (.cons pe_str (.cons (pe_fmt (pv 1)) (.cons pe_str .nil)))))))
    pss_nil))))), ?_⟩
    refine q_when (b := decide ((60 : Int) < (xs.length : Int))) (et_test (ev_op (ev_len (ev_var rfl) hS) ev_c rv_I0)) (fun hb H1 e1 => ?_) (fun hb H1 e1 => ?_)
    · have hb := of_decide_eq_true hb
      exact ⟨_, rfl, by decide +kernel, .inr ⟨60, rfl, by decide +kernel, _, rfl, by decide +kernel, _, rfl, by decide +kernel, q1 (by omega) _ e1⟩⟩
    · have hb := of_decide_eq_false hb
      have h60 : xs.length ≤ 60 := by omega
      refine s_forEn (ev_var rfl) (ex_l e1 hS) (fun i σ' H' => ∃ x1 x2 : Option V, σ' = [some (.ref p), x1, x2] ∧ Ex H1 H' ∧ ∀ j r, j < i → rs[j]? = some r → thB r = true) (fun H2 e2 => ⟨none, none, rfl, e2, fun j r hj => absurd hj (Nat.not_lt_zero _)⟩) (fun i σ' H' _ ⟨_, _, _, e, _⟩ => ex_l (e1.trans e) hS) ?_ ?_
      · rintro i x TT σ' H' hi nT ⟨x1, x2, rfl, e2, hall⟩
        obtain ⟨r, hr, ht⟩ := things_get hp hi
        have hix : i < xs.length := (List.getElem?_eq_some_iff.mp hi).1
        have e3 : Ex H' (upd H' TT (.tup [.int (i : Int), x])) := Ex.new nT
        refine g_two upd_same ?_
        generalize upd H' TT (.tup [.int (i : Int), x]) = H3 at *
        have e13 := (e1.trans e2).trans e3
        refine s_when (b := !thB r) (et_not (et_B (ev_soundG (ea_cons (ev_var rfl) ea_nil) (ht.mono e13)))) (fun hb2 H4 e4 => ?_) (fun hb2 H4 e4 => ⟨_, _, rfl, (e2.trans e3).trans e4, fun j r' hj hr' => ?_⟩)
        · obtain ⟨t1, t2⟩ := place_text i (by omega)
          refine ⟨_, rfl, by decide +kernel, ?_⟩
          refine ⟨_, rfl, .inr ⟨(i : Int), rfl, ?_, _, rfl, t1, _, rfl, t2, q2 h60 ⟨r, List.mem_of_getElem? hr, by simpa using hb2⟩ _ (e13.trans e4)⟩⟩
          have : ∀ i : Nat, i < 64 → (i : Int).natAbs.log2 < 1920 := by decide
          exact this i (by omega)
        · rcases Nat.lt_or_ge j i with g | g
          · exact hall j r' g hr'
          · have : j = i := by omega
            subst this
            rw [hr] at hr'
            cases hr'
            simpa using hb2
      · rintro σ' H' ⟨x1, x2, rfl, e2, hall⟩
        refine q3 h60 (fun r hr => ?_) _ (e1.trans e2)
        obtain ⟨j, hj, e⟩ := List.getElem_of_mem hr
        exact hall j r (by rw [Paired.length hp]; exact hj) (by rw [List.getElem?_eq_getElem hj, e])
end
end DLL
namespace DLL
open PySem PySem.Spec PyProof.Rows L2 Evl DL
section
variable {P : Program} {w : World} {K : PySem.W.Frag} {mg : Str → Option Value} {base : Heap} {H : Hp}
/-! ### who is due first -/
def optV : Option Nat → V
  | none => .non
  | some k => .int (k : Int)
def spFirst : Sp := fun vs H Q _ => ∃ (p l : Addr) (js : List T3) (ns : List Int) (t : Int), vs = [.ref p, .ref l, .int t] ∧ TL H p js ∧ IL H l ns ∧ ns.length = js.length ∧ ∀ H', Ex H H' → Q (optV (firstDue js ns t)) H'
theorem fd_skip {js : List T3} {ns : List Int} {t : Int} {i : Nat} (h : ¬ there js ns t i) : fdUpto js ns t (i + 1) = fdUpto js ns t i := by
  show fdStep js ns t (fdUpto js ns t i) i = _
  unfold fdStep
  rw [if_neg h]
theorem fd_none {js : List T3} {ns : List Int} {t : Int} {i : Nat} (h : there js ns t i) (e : fdUpto js ns t i = none) : fdUpto js ns t (i + 1) = some i := by
  show fdStep js ns t (fdUpto js ns t i) i = _
  unfold fdStep
  rw [if_pos h, e]
theorem fd_some {js : List T3} {ns : List Int} {t : Int} {i b : Nat} (h : there js ns t i) (e : fdUpto js ns t i = some b) : fdUpto js ns t (i + 1) = if du js i < du js b then some i else some b := by
  show fdStep js ns t (fdUpto js ns t i) i = _
  unfold fdStep
  rw [if_pos h, e]
theorem fd_lt {js : List T3} {ns : List Int} {t : Int} {i b : Nat} (e : fdUpto js ns t i = some b) : b < i := by
  rcases fdUpto_spec js ns t i with ⟨e2, _⟩ | ⟨p, e2, h, _⟩
  · rw [e] at e2; cases e2
  · rw [e] at e2; cases e2; exact h
theorem ok_first_due (T : TX K mg) : FnOk P w K mg base CX0 1 T.f_first_due T.d_first_due ["jobs", "left", "time"] spFirst := by
  refine T.h_first_due.F.ok sc_first_due (fun vs H Q E h => ?_) (fun cdv A outer s H vs Q E hr h => ?_)
  · obtain ⟨_, _, _, _, _, rfl, _⟩ := h
    rfl
  · obtain ⟨p, l, js, ns, t, rfl, hT, hL, hlen, q⟩ := h
    refine ⟨_, (pss_cons (ps_set (i := 3) sc_first_due.nd rfl (.inl rfl) pe_non)
  (pss_cons (ps_for PassesOwn.never rfl (pi_enum (by rfl) T.b_enumerate (pa_cons (pv 0) pa_nil)) (pg_tup rfl (pgs_cons (pg_name (i := 4) sc_first_due.nd rfl (.inl rfl)) (pgs_cons (pg_tup rfl (pgs_cons (pg_name (i := 5) sc_first_due.nd rfl (.inl rfl)) (pgs_cons (pg_name (i := 6) sc_first_due.nd rfl (.inl rfl)) (pgs_cons (pg_name (i := 7) sc_first_due.nd rfl (.inl rfl)) pgs_nil)))) pgs_nil)))
    (pss_cons (ps_if (PW.pt (pw_or (pt_cmpR op_gt (pv 5) (pv 2) (nomark _)) (pw_or1 (pt_cmpR op_eq (pe_ix (r := rIxL K) ix_list (pv 1) (pv 4) (fun _ _ => rfl)) pe_int (nomark _)))))
    (pss_one ps_continue)
    pss_nil)
  (pss_one (ps_if (PW.pt (pw_or (pt_cmpR op_isN (pv 3) pe_non (nomark _)) (pw_or1 (pt_cmpR op_lt (pv 7) (pe_ix (r := rIxT K) ix_tup (pe_ix (r := rIxL K) ix_list (pv 0) (pv 3) (fun _ _ => rfl)) pe_int (fun _ _ => rfl)) (nomark _)))))
    (pss_one (ps_set (i := 3) sc_first_due.nd rfl (.inl rfl) (pv 4)))
    pss_nil))))
  (pss_one (ps_ret (pv 3))))), ?_⟩
    refine q_asg ev_c fun H1 e1 => ?_
    obtain ⟨ts, h1, h2⟩ := hT.mono e1
    have hlt : (ts.map V.ref).length = js.length := by rw [List.length_map, h2.len]
    refine q_forEn (ev_var rfl) (SqL.of h1) (fun i σ' H' => ∃ x4 x5 x6 x7 : Option V, σ' = [some (.ref p), some (.ref l), some (.int t), some (optV (fdUpto js ns t i)), x4, x5, x6, x7] ∧ Ex H1 H') (fun H2 e2 => ⟨none, none, none, none, rfl, e2⟩) (fun i σ' H' _ ⟨_, _, _, _, _, e⟩ => SqL.of (e _ _ h1)) ?_ ?_
    · rintro i x TT σ' H' hi nT ⟨x4, x5, x6, x7, rfl, e2⟩
      rw [List.getElem?_map] at hi
      obtain ⟨u, et, rfl⟩ := Option.map_eq_some_iff.mp hi
      obtain ⟨j, hj, a⟩ := h2.getA et
      obtain ⟨c1, c2, c3⟩ := cm_at hj
      have hi2 : i < js.length := (List.getElem?_eq_some_iff.mp hj).1
      have e3 : Ex H1 (upd H' TT (.tup [.int (i : Int), .ref u])) := e2.trans (Ex.new nT)
      refine g_two3 upd_same (e3 _ _ a) ?_
      generalize upd H' TT (.tup [.int (i : Int), .ref u]) = H2 at *
      have hT2 := (hT.mono e1).mono e3
      have hL2 := (hL.mono e1).mono e3
      refine q_when (b := decide (t < j.1) || decide (V.int (ns.getD i 0) = V.int 0)) (et_or (by walk_at "evt") fun _ => et_test (ev_op (ev_ixI (ev_var rfl) (ev_var rfl) hL2 (by omega)) ev_c (rv_eq rfl))) (fun hb H3 e4 => ?_) (fun hb H3 e4 => ?_)
      · refine ⟨some (.int (i : Int)), some (.int j.1), some (.int j.2.1), some (.int j.2.2), ?_, e3.trans e4⟩
        have hn : ¬ there js ns t i := by
          rintro ⟨g1, g2⟩
          rcases (Bool.or_eq_true_iff.mp hb) with z | z
          · have := of_decide_eq_true z; omega
          · exact g2 (V.int.inj (of_decide_eq_true z))
        rw [fd_skip hn]
        rfl
      · rw [Bool.or_eq_false_iff] at hb
        have hy : there js ns t i := ⟨by have := of_decide_eq_false hb.1; omega, fun z => of_decide_eq_false hb.2 (by rw [z])⟩
        have hT3 := hT2.mono e4
        cases hbst : fdUpto js ns t i with
        | none =>
          refine s_ifAsg (b := decide (optV none = V.non) || false) (v := .int (i : Int)) (et_or (et_test (ev_op (ev_var rfl) ev_c rv_isN)) fun z => by cases z) (fun _ => ev_var rfl) (fun z => by cases z) fun H4 e5 => ?_
          refine ⟨some (.int (i : Int)), some (.int j.1), some (.int j.2.1), some (.int j.2.2), ?_, (e3.trans e4).trans e5⟩
          rw [fd_none hy hbst]
          rfl
        | some b =>
          have hbl := fd_lt hbst
          have hjb : js[b]? = some js[b] := List.getElem?_eq_getElem (by omega)
          have cb := (cm_at hjb).2.2
          refine s_ifAsg (b := decide (optV (some b) = V.non) || decide (j.2.2 < (js[b]).2.2)) (v := optV (fdUpto js ns t (i + 1))) (et_or (et_test (ev_op (ev_var rfl) ev_c rv_isN)) fun _ => et_test (ev_op (ev_var rfl) (ev_field hjb (ev_var rfl) (ev_var rfl) hT3 ev_c (t3_2 _)) rv_I0)) (fun z => ?_) (fun z => ?_) fun H4 e5 => ⟨_, _, _, _, rfl, (e3.trans e4).trans e5⟩
          · have hd : du js i < du js b := by
              rw [c3, cb]
              exact of_decide_eq_true z
            rw [fd_some hy hbst, if_pos hd]
            exact ev_var rfl
          · have hd : ¬ du js i < du js b := by
              rw [c3, cb]
              exact of_decide_eq_false z
            rw [fd_some hy hbst, if_neg hd]
            rfl
    · rintro σ' H' ⟨x4, x5, x6, x7, rfl, e2⟩
      refine s_ret (ev_var rfl) fun H2 e3 => ?_
      have := q H2 ((e1.trans e2).trans e3)
      rw [hlt]
      exact this
theorem ev_first {σ : St} {ta : TA} {E : XK} {p l : Addr} {js : List T3} {ns : List Int} {t : Int} (h : EvA ta σ H [.ref p, .ref l, .int t]) (hT : TL H p js) (hL : IL H l ns) (hn : ns.length = js.length) : Ev (tCall spFirst [] E ta) σ H (optV (firstDue js ns t)) :=
  ev_call h fun H1 e Q q E => ⟨p, l, js, ns, t, rfl, hT.mono e, hL.mono e, hn, q⟩
end
end DLL
namespace DLL
open PySem PySem.Spec PyProof.Rows L2 Evl DL
section
variable {P : Program} {w : World} {K : PySem.W.Frag} {mg : Str → Option Value} {base : Heap} {H : Hp}
/-! ### the next time that matters -/
def spNext : Sp := fun vs H Q _ => ∃ (p : Addr) (js : List T3) (t : Int), vs = [.ref p, .int t] ∧ TL H p js ∧ js.length ≤ 60 ∧ comesAfter js t ≠ [] ∧ ∀ H', Ex H H' → Q (.int (nextCome js t)) H'
theorem ok_next_come (T : TX K mg) : FnOk P w K mg base CX0 1 T.f_next_come T.d_next_come ["jobs", "time"] spNext := by
  refine T.h_next_come.F.ok sc_next_come (fun vs H Q E h => ?_) (fun cdv A outer s H vs Q E hr h => ?_)
  · obtain ⟨_, _, _, rfl, _⟩ := h
    rfl
  · obtain ⟨p, js, t, rfl, hT, hl, hne, q⟩ := h
    refine ⟨_, (pss_one (ps_ret (pe_callB (id := "min") (r := rMin K) (cr_min rfl) (by rfl) T.b_min (by decide +kernel) (pa_cons (pe_lc (own := [("come", 2), ("length", 3), ("due", 4)]) (g := (gTup K 3 (gCons (gName 2) (gCons (gName 3) (gCons (gName 4) gNil))))) rfl sc_next_come.nd (pi_list (pv 0)) (blkOk_by (own := [("come", 2), ("length", 3), ("due", 4)]) (N := N_next_come) (sc := defScope s_next_come) (by decide +kernel)) (fun _ _ _ _ _ => (pg_tup rfl (pgs_cons (pg_name (i := 2) sc_next_come.nd rfl (.inl rfl)) (pgs_cons (pg_name (i := 3) sc_next_come.nd rfl (.inl rfl)) (pgs_cons (pg_name (i := 4) sc_next_come.nd rfl (.inl rfl)) pgs_nil))))) (fun _ _ _ _ _ => (pts_one (pt_cmpR op_gt (pv 2) (pv 1) (nomark _)))) (fun _ _ _ _ _ => (pv 2))) pa_nil)))), ?_⟩
    refine s_ret (v := .int (nextCome js t)) (ev_minN (ns := comesAfter js t) (el_ints (fun j => decide (t < j.1)) (·.1) (fun j _ => [some (.ref p), some (.int t), some (.int j.1), some (.int j.2.1), some (.int j.2.2)]) (ev_var rfl) hT (by omega) (fun j u H1 Q' hu hq => g_three hu hq) (fun j u => rfl) (fun j u H1 _ _ _ => by walk_at "evt") (fun j u H1 _ _ _ _ => ev_var rfl)) hne) q
theorem ev_next {σ : St} {ta : TA} {E : XK} {p : Addr} {js : List T3} {t : Int} (h : EvA ta σ H [.ref p, .int t]) (hT : TL H p js) (hl : js.length ≤ 60) (hne : comesAfter js t ≠ []) : Ev (tCall spNext [] E ta) σ H (.int (nextCome js t)) :=
  ev_call h fun H1 e Q q E => ⟨p, js, t, rfl, hT.mono e, hl, hne, q⟩
def spEnd : Sp := fun vs H Q _ => ∃ (p : Addr) (js : List T3) (t r : Int), vs = [.ref p, .int t, .int r] ∧ TL H p js ∧ js.length ≤ 60 ∧ ∀ H', Ex H H' → Q (.int (endOf js t r)) H'
theorem ok_end_of_work (T : TX K mg) : FnOk P w K mg base CX0 1 T.f_end_of_work T.d_end_of_work ["jobs", "time", "rest"] spEnd := by
  refine T.h_end_of_work.F.ok sc_end_of_work (fun vs H Q E h => ?_) (fun cdv A outer s H vs Q E hr h => ?_)
  · obtain ⟨_, _, _, _, rfl, _⟩ := h
    rfl
  · obtain ⟨p, js, t, r, rfl, hT, hl, q⟩ := h
    refine ⟨_, (pss_cons (ps_set (i := 3) sc_end_of_work.nd rfl (.inr rfl) (pe_op op_add (pv 1) (pv 2)))
  (pss_one (ps_ret (pe_callBK (cr_minD rfl hr.units) (by rfl) T.b_min (by decide +kernel) (pa_cons (pe_lc (own := [("come", 4), ("length", 5), ("due", 6)]) (g := (gTup K 3 (gCons (gName 4) (gCons (gName 5) (gCons (gName 6) gNil))))) rfl sc_end_of_work.nd (pi_list (pv 0)) (blkOk_by (own := [("come", 4), ("length", 5), ("due", 6)]) (N := N_end_of_work) (sc := defScope s_end_of_work) (by decide +kernel)) (fun _ _ _ _ _ => (pg_tup rfl (pgs_cons (pg_name (i := 4) sc_end_of_work.nd rfl (.inl rfl)) (pgs_cons (pg_name (i := 5) sc_end_of_work.nd rfl (.inl rfl)) (pgs_cons (pg_name (i := 6) sc_end_of_work.nd rfl (.inl rfl)) pgs_nil))))) (fun _ _ _ _ _ => (pts_one (pt_chain op_lt op_lt (pv 1) (pv 4) (pv 3)))) (fun _ _ _ _ _ => (pv 4))) pa_nil) (pk_cons (pv 3) pk_nil))))), ?_⟩
    refine q_asg (v := .int (t + r)) (by walk_at "ev") fun H1 e1 => ?_
    refine s_ret (v := .int (endOf js t r)) (ev_minD (ns := comesWithin js t (t + r)) (el_ints (fun j => decide (t < j.1) && decide (j.1 < t + r)) (·.1) (fun j _ => [some (.ref p), some (.int t), some (.int r), some (.int (t + r)), some (.int j.1), some (.int j.2.1), some (.int j.2.2)]) (ev_var rfl) (hT.mono e1) (by omega) (fun j u H1 Q' hu hq => g_three hu hq) (fun j u => rfl)
      (fun j u H1 _ _ _ => et_test (ev_chain (ev_var rfl) (ev_var rfl) rv_I0 (fun _ => ev_var rfl) fun _ => rv_I0)) (fun j u H1 _ _ _ _ => ev_var rfl)) fun H2 _ => ev_var rfl) fun H2 e2 => q H2 (e1.trans e2)
theorem ev_end {σ : St} {ta : TA} {E : XK} {p : Addr} {js : List T3} {t r : Int} (h : EvA ta σ H [.ref p, .int t, .int r]) (hT : TL H p js) (hl : js.length ≤ 60) : Ev (tCall spEnd [] E ta) σ H (.int (endOf js t r)) :=
  ev_call h fun H1 e Q q E => ⟨p, js, t, r, rfl, hT.mono e, hl, q⟩
/-! ### a piece more -/
def spAdd : Sp := fun vs H Q _ => ∃ (l : Addr) (ps : List T3) (p b e : Int), vs = [.ref l, .int p, .int b, .int e] ∧ TL H l ps ∧ ps.length < 90000 ∧ ∀ H1, Mod l H H1 → TL H1 l (addPiece ps p b e) → Q .non H1
theorem ok_add_piece (T : TX K mg) : FnOk P w K mg base CX0 1 T.f_add_piece T.d_add_piece ["pieces", "place", "begin", "end"] spAdd := by
  refine T.h_add_piece.F.ok sc_add_piece (fun vs H Q E h => ?_) (fun cdv A outer s H vs Q E hr h => ?_)
  · obtain ⟨_, _, _, _, _, rfl, _⟩ := h
    rfl
  · obtain ⟨l, ps, p, b, e, rfl, hT, hz, q⟩ := h
    refine ⟨_, (pss_cons (ps_if (PW.pt (pw_and (pt_truth (pv 0) (by intro _; rfl)) (pw_and1 (pt_cmpR op_eq (pe_ix (r := rIxT K) ix_tup (pe_ix (r := rIxL K) ix_list (pv 0) (pe_un un_neg pe_int) (fun _ _ => rfl)) pe_int (fun _ _ => rfl)) (pv 1) (nomark _)))))
    (pss_one (ps_set (i := 2) sc_add_piece.nd rfl (.inl rfl) (pe_ix (r := rIxT K) ix_tup (pe_bm0 PySem.F.plainAttrs_list PySem.F.slot_list_pop PySem.F.type_list_pop mt_pop (pv 0)) pe_int (fun _ _ => rfl))))
    pss_nil)
  (pss_one (ps_expr (pe_bm PySem.F.plainAttrs_list PySem.F.slot_list_append PySem.F.type_list_append mt_append (pv 0) (pa_cons (pe_tup (pa_cons (pv 1) (pa_cons (pv 2) (pa_cons (pv 3) pa_nil)))) pa_nil))))), ?_⟩
    rcases last_cases ps with h0 | ⟨r, x, h0⟩
    · subst h0
      refine q_when (b := (![].isEmpty) && false) (et_and (et_truL (js := []) (ev_var rfl) hT) fun z => by cases z) (fun z => by cases z) fun _ H1 e1 => ?_
      exact s_appT (hT.mono e1) (ev_var rfl) (eu_three (ev_var rfl) (ev_var rfl) (ev_var rfl)) (by decide) fun H2 md h2 => q H2 ((Mod.ex e1).trans md) h2
    · subst h0
      have hne : (r ++ [x]).isEmpty = false := by cases r <;> rfl
      have hlast : ∀ H1, Ex H H1 → ∃ (u : Addr) (us : List Addr), H1 l = some (.lst (us.map V.ref ++ [.ref u])) ∧ Tps H1 us r ∧ AtT H1 u x := fun H1 e1 => by
        obtain ⟨ts, h1, h2⟩ := hT.mono e1
        have h3 := h2.take r.length
        have h4 := h2.drop r.length
        rw [List.take_left] at h3
        rw [List.drop_left] at h4
        have hl := h4.len
        obtain ⟨u, hu⟩ : ∃ u, ts.drop r.length = [u] := List.length_eq_one_iff.mp hl
        rw [hu] at h4
        cases h4 with
        | cons a _ =>
          refine ⟨u, ts.take r.length, ?_, h3, a⟩
          rw [h1]
          congr 2
          rw [show ([V.ref u] : List V) = [u].map V.ref from rfl, ← List.map_append, ← hu, List.take_append_drop]
      obtain ⟨u, us, k1, k2, k3⟩ := hlast H (Ex.refl _)
      have hAt : ∀ H1, Ex H H1 → Ev (tOp (rIxL K) (tVar 0) (tUn (rU fun i => .int (-i)) (tC (.int 1)))) (start N_add_piece [.ref l, .int p, .int b, .int e]) H1 (.ref u) := fun H1 e1 => ev_op (ev_var rfl) (ev_un ev_c ru_neg) (rv_ixL (SqL.of (e1 _ _ k1)) (atI_last _ _))
      refine q_when (b := (!(r ++ [x]).isEmpty) && decide (V.int x.1 = V.int p)) (et_and (et_truL (ev_var rfl) hT) fun _ => et_test (ev_op (ev_op (hAt H (Ex.refl _)) ev_c (rv_ixT (SqT.of k3) (t3_0 x))) (ev_var rfl) (rv_eq rfl))) (fun hb H1 e1 => ?_) (fun hb H1 e1 => ?_)
      · have hx : x.1 = p := V.int.inj (of_decide_eq_true (Bool.and_eq_true_iff.mp hb).2)
        have c1 := e1 _ _ k1
        -- begin = pieces.pop()[1]
        have hget : (us.map V.ref ++ [V.ref u])[(us.map V.ref ++ [V.ref u]).length - 1]? = some (V.ref u) := by
          rw [List.length_append, List.length_singleton, Nat.add_sub_cancel, List.getElem?_concat_length]
        refine ⟨.ref l, rfl, .inl ⟨rfl, _, SqL.of c1⟩, l, _, .ref u, rfl, rfl, c1, hget, ?_⟩
        have md1 : Mod l H1 (upd H1 l (.lst (us.map V.ref ++ [V.ref u]).dropLast)) := Mod.upd c1
        have hT2 : TL (upd H1 l (.lst (us.map V.ref ++ [V.ref u]).dropLast)) l r := ⟨us, by rw [upd_same, List.dropLast_concat], md1.tps (k2.mono e1)⟩
        have hu2 := md1.tup _ _ (e1 _ _ k3)
        refine ⟨u, tv x, 1, .int x.2.1, rfl, rfl, SqT.of hu2, t3_1 x, ?_⟩
        refine s_appT hT2 (ev_var rfl) (j := (p, x.2.1, e)) (eu_three (ev_var rfl) (ev_var rfl) (ev_var rfl)) (by rw [List.length_append] at hz; omega) fun H2 md h2 => ?_
        refine q H2 (((Mod.ex e1).trans md1).trans md) ?_
        rw [addPiece_snoc, if_pos hx]
        exact h2
      · rw [hne] at hb
        have hx : ¬ x.1 = p := fun z => of_decide_eq_false hb (by rw [z])
        refine s_appT (hT.mono e1) (ev_var rfl) (j := (p, b, e)) (eu_three (ev_var rfl) (ev_var rfl) (ev_var rfl)) (by omega) fun H2 md h2 => ?_
        refine q H2 ((Mod.ex e1).trans md) ?_
        rw [addPiece_snoc, if_neg hx]
        exact h2
/-! ### the run -/
def spRun : Sp := fun vs H Q _ => ∃ (p : Addr) (js : List T3), vs = [.ref p] ∧ TL H p js ∧ js.length ≤ 60 ∧ Sound js ∧ ∀ q H', H q = none → Ex H H' → TL H' q (runM js) → Q (.ref q) H'
theorem comes_ne {js : List T3} {t : Int} (h : ∃ i, i < js.length ∧ t < cm js i) : comesAfter js t ≠ [] := by
  obtain ⟨i, hi, hc⟩ := h
  exact List.ne_nil_of_mem (mem_comesAfter.mpr ⟨hc, i, hi, rfl⟩)
theorem any_done (s : RS) : (s.left.any fun n => n != 0) = !decide (done s) := by
  rw [Bool.eq_iff_iff]
  simp only [List.any_eq_true, bne_iff_ne, Bool.not_eq_true', decide_eq_false_iff_not]
  constructor
  · rintro ⟨x, hx, h⟩ c
    exact h (c x hx)
  · intro h
    exact Classical.byContradiction fun c => h fun x hx => Classical.byContradiction fun e => c ⟨x, hx, e⟩
theorem ok_run (T : TX K mg) : FnOk P w K mg base CX0 3 T.f_run T.d_run ["jobs"] spRun := by
  refine T.h_run.F.ok sc_run (fun vs H Q E h => ?_) (fun cdv A outer s H vs Q E hr h => ?_)
  · obtain ⟨_, _, rfl, _⟩ := h
    rfl
  · obtain ⟨p, js, rfl, hT, hl, hS, q⟩ := h
    refine ⟨_, (pss_cons (ps_expr (pe_call (ok_check_jobs T) (hr.mono (by decide)) (by rfl) T.h_check_jobs.g T.h_check_jobs.F.kp T.h_check_jobs.b .nil pass0 (pa_cons (pv 0) pa_nil)))
  (pss_cons (ps_setLc (i := 1) (own := [("come", 6), ("length", 7), ("due", 8)]) (g := (gTup K 3 (gCons (gName 6) (gCons (gName 7) (gCons (gName 8) gNil))))) (tt := tYes) rfl sc_run.nd rfl rfl (sw_true rfl rfl rfl (by decide +kernel)) (pi_list (pv 0)) (blkOk_by (own := [("come", 6), ("length", 7), ("due", 8)]) (N := N_run) (sc := defScope s_run) (by decide +kernel)) (fun _ _ _ _ _ => (pg_tup rfl (pgs_cons (pg_name (i := 6) sc_run.nd rfl (.inl rfl)) (pgs_cons (pg_name (i := 7) sc_run.nd rfl (.inl rfl)) (pgs_cons (pg_name (i := 8) sc_run.nd rfl (.inl rfl)) pgs_nil))))) (fun _ _ _ _ _ => pts_nil) (fun _ _ _ _ _ => (pv 7)))
  (pss_cons (ps_set (i := 2) sc_run.nd rfl (.inl rfl) (pe_lst pa_nil))
  (pss_cons (ps_set (i := 3) sc_run.nd rfl (.inl rfl) pe_int)
  (pss_cons (ps_while PassesOwn.never (pt_val (pe_callB (id := "any") (r := rAnyI K) (cr_anyI rfl) (by rfl) T.b_any (by decide +kernel) (pa_cons (pv 1) pa_nil)))
    (pss_cons (ps_set (i := 4) sc_run.nd rfl (.inl rfl) (pe_call (ok_first_due T) (hr.mono (by decide)) (by rfl) T.h_first_due.g T.h_first_due.F.kp T.h_first_due.b .nil pass0 (pa_cons (pv 0) (pa_cons (pv 1) (pa_cons (pv 3) pa_nil)))))
  (pss_one (ps_if (pt_cmpR op_isN (pv 4) pe_non (nomark _))
    (pss_one (ps_set (i := 3) sc_run.nd rfl (.inl rfl) (pe_call (ok_next_come T) (hr.mono (by decide)) (by rfl) T.h_next_come.g T.h_next_come.F.kp T.h_next_come.b .nil pass0 (pa_cons (pv 0) (pa_cons (pv 3) pa_nil)))))
    (pss_cons (ps_set (i := 5) sc_run.nd rfl (.inl rfl) (pe_call (ok_end_of_work T) (hr.mono (by decide)) (by rfl) T.h_end_of_work.g T.h_end_of_work.F.kp T.h_end_of_work.b .nil pass0 (pa_cons (pv 0) (pa_cons (pv 3) (pa_cons (pe_ix (r := rIxL K) ix_list (pv 1) (pv 4) (fun _ _ => rfl)) pa_nil)))))
  (pss_cons (ps_expr (pe_call (ok_add_piece T) (hr.mono (by decide)) (by rfl) T.h_add_piece.g T.h_add_piece.F.kp T.h_add_piece.b .nil pass0 (pa_cons (pv 2) (pa_cons (pv 4) (pa_cons (pv 3) (pa_cons (pv 5) pa_nil))))))
  (pss_cons (ps_augS (pv 1) (pv 4) get_list (pe_op op_sub (pv 5) (pv 3)) ip_sub set_list)
  (pss_one (ps_set (i := 3) sc_run.nd rfl (.inl rfl) (pv 5))))))))))
  (pss_one (ps_ret (pv 2)))))))), ?_⟩
    refine q_drop (ev_check (ea_cons (ev_var rfl) ea_nil) hT hl hS) fun H1 e1 => ?_
    refine q_asgL (el_ints (fun _ => true) (·.2.1) (fun j _ => [some (.ref p), none, none, none, none, none, some (.int j.1), some (.int j.2.1), some (.int j.2.2)]) (ev_var rfl) (hT.mono e1) (by omega) (fun j u H1 Q' hu hq => g_three hu hq) (fun j u => rfl) (fun j u H1 _ _ _ => evt_yes) (fun j u H1 _ _ _ _ => ev_var rfl)) fun l H2 nl e2 hL => ?_
    rw [filter_yes] at hL
    refine q_asgTL etl_nil fun pc H3 np e3 hP => ?_
    refine q_asg ev_c fun H4 e4 => ?_
    have eA := ((e1.trans e2).trans e3).trans e4
    have nl0 : H l = none := fresh_back e1 nl
    have np0 : H pc = none := fresh_back (e1.trans e2) np
    have hlp : l ≠ pc := ne_of_none hL np
    refine q_while (fun m σ' H' => ∃ (s : RS) (x4 x5 : Option V), σ' = [some (.ref p), some (.ref l), some (.ref pc), some (.int s.time), x4, x5, none, none, none] ∧ Ex H H' ∧ IL H' l s.left ∧ TL H' pc s.pieces ∧ RInv js s ∧ mu js s ≤ m ∧ runFrom js m s = runFrom js (2 * js.length) (rs0 js))
      (2 * js.length) ⟨rs0 js, none, none, rfl, eA, e4 _ _ (e3 _ _ hL), hP.mono e4, RInv.start hS, mu_le js _, rfl⟩ ?_
    rintro m σ' H' ⟨s, x4, x5, rfl, eH, hI, hPc, I, hm, hR⟩
    refine ⟨_, et_B (ev_anyI (ev_var rfl) hI), fun hb H5 e5 => ?_, fun hb H5 e5 => ?_⟩
    · -- one turn
      have nd : ¬ done s := by
        rw [any_done] at hb
        simpa using hb
      have hstep := I.step hS nd
      obtain ⟨m', rfl⟩ : ∃ m', m = m' + 1 := ⟨m - 1, by omega⟩
      have hR' : runFrom js m' (DL.step js s) = runFrom js (2 * js.length) (rs0 js) := by
        rw [← hR]
        show _ = if done s then s else runFrom js m' (DL.step js s)
        rw [if_neg nd]
      have hT5 := hT.mono (eH.trans e5)
      have hpl : s.pieces.length < 90000 := by
        rcases I.few with z | ⟨z, _⟩
        · omega
        · rw [z]; decide
      refine ⟨fun σ2 H2 => ∃ (s : RS) (x4 x5 : Option V), σ2 = [some (.ref p), some (.ref l), some (.ref pc), some (.int s.time), x4, x5, none, none, none] ∧ Ex H H2 ∧ IL H2 l s.left ∧ TL H2 pc s.pieces ∧ RInv js s ∧ mu js s ≤ m' ∧ runFrom js m' s = runFrom js (2 * js.length) (rs0 js), fun σ2 H2 h => ⟨m', Nat.lt_succ_self _, h⟩, ?_⟩
      refine q_asg (ev_first (ea_cons (ev_var rfl) (ea_cons (ev_var rfl) (ea_cons (ev_var rfl) ea_nil))) hT5 (hI.mono e5) I.len) fun H6 e6 => ?_
      have hT6 := hT5.mono e6
      cases hf : firstDue js s.left s.time with
      | none =>
        rw [step_none hf] at hstep hR'
        refine s_if (b := true) (et_is (et_test (ev_op (ev_var rfl) ev_c rv_isN)) rfl) (fun _ H7 e7 => ?_) (fun z => by cases z)
        refine s_asg (ev_next (ea_cons (ev_var rfl) (ea_cons (ev_var rfl) ea_nil)) (hT6.mono e7) hl (comes_ne (none_next I nd hf))) fun H8 e8 => ?_
        have e58 := ((e5.trans e6).trans e7).trans e8
        exact ⟨{ s with time := nextCome js s.time }, some .non, x5, rfl, eH.trans e58, hI.mono e58, hPc.mono e58, hstep.1, by omega, hR'⟩
      | some b =>
        rw [step_some hf] at hstep hR'
        obtain ⟨hbl, _⟩ := some_spec hf
        have hb2 : b < s.left.length := by rw [I.len]; exact hbl
        refine s_if (b := false) (et_is (et_test (ev_op (ev_var rfl) ev_c rv_isN)) rfl) (fun z => by cases z) (fun _ H7 e7 => ?_)
        have e57 := (e5.trans e6).trans e7
        refine q_asg (ev_end (ea_cons (ev_var rfl) (ea_cons (ev_var rfl) (ea_cons (ev_ixI (ev_var rfl) (ev_var rfl) (hI.mono e57) hb2) ea_nil))) (hT6.mono e7) hl) fun H8 e8 => ?_
        generalize endOf js s.time (s.left.getD b 0) = d at *
        have e58 := e57.trans e8
        refine q_dropC (ea_cons (ev_var rfl) (ea_cons (ev_var rfl) (ea_cons (ev_var rfl) (ea_cons (ev_var rfl) ea_nil)))) fun H9 e9 => ⟨pc, s.pieces, (b : Int), s.time, d, rfl, hPc.mono (e58.trans e9), hpl, fun H10 md h10 => ?_⟩
        have e510 := e58.trans e9
        have hI10 : IL H10 l s.left := md.il (hI.mono e510) hlp
        refine q_augI (f := fun i j => i - j) (z := d - s.time) (ev_var rfl) (ev_var rfl) hI10 hb2 (by walk_at "ev") fun H11 md2 h11 => ?_
        refine s_asg (ev_var rfl) fun H12 e12 => ?_
        refine ⟨⟨s.left.set b (s.left.getD b 0 - (d - s.time)), addPiece s.pieces (b : Int) s.time d, d⟩, _, _, rfl, ((md2.base (md.base (eH.trans e510) np0) nl0)).trans e12, h11.mono e12, (md2.tl h10 (Ne.symm hlp)).mono e12, hstep.1, by omega, hR'⟩
    · have hd : done s := by
        rw [any_done] at hb
        simpa using hb
      refine s_ret (ev_var rfl) fun H6 e6 => ?_
      refine q pc H6 np0 ((eH.trans e5).trans e6) ?_
      rw [runFrom_done hd] at hR
      unfold runM
      rw [← hR]
      exact (hPc.mono e5).mono e6
theorem etl_run {σ : St} {te : TE} {E : XK} {js : List T3} (h : EvTL te σ H js) (hl : js.length ≤ 60) (hS : Sound js) : EvTL (tCall spRun [] E (tCons te tNil)) σ H (runM js) := fun H1 e Q k =>
  h H1 e _ fun p H2 np e2 hT => ⟨p, js, rfl, hT, hl, hS, fun q H' nq e3 hP => k q H' (fresh_back e2 nq) (e2.trans e3) hP⟩
theorem etl_runR {σ : St} {ta : TA} {E : XK} {p : Addr} {js : List T3} (h : EvA ta σ H [.ref p]) (hT : TL H p js) (hl : js.length ≤ 60) (hS : Sound js) : EvTL (tCall spRun [] E ta) σ H (runM js) := fun H1 e Q k =>
  h H1 e _ fun H2 e2 => ⟨p, js, rfl, hT.mono (e.trans e2), hl, hS, fun q H' nq e3 hP => k q H' (fresh_back e2 nq) (e2.trans e3) hP⟩
end
end DLL
namespace DLL
open PySem PySem.Spec PyProof.Rows L2 Evl DL
section
variable {P : Program} {w : World} {K : PySem.W.Frag} {mg : Str → Option Value} {base : Heap} {H : Hp}
def spWhole : Sp := fun vs H Q _ => ∃ n : Int, vs = [.int n] ∧ ∀ H', Ex H H' → Q (.bl true) H'
theorem ok_law_whole (T : TX K mg) : FnOk P w K mg base CX0 1 T.f_law_whole T.d_law_whole ["_law_found"] spWhole := by
  refine T.h_law_whole.F.ok sc_law_whole (fun vs H Q E h => ?_) (fun cdv A outer s H vs Q E hr h => ?_)
  · obtain ⟨_, rfl, _⟩ := h
    rfl
  · obtain ⟨n, rfl, q⟩ := h
    refine ⟨_, (pss_one (ps_ret (pe_and (pe_callB (id := "isinstance") (r := rIsi K) call_isi (by rfl) T.b_isinstance (by decide +kernel) (pa_cons (pv 0) (pa_cons (pe_bltn (v := .ty "int") (by rfl) T.b_int (by decide +kernel) rfl) pa_nil))) (pe_one (pe_not (pe_callB (id := "isinstance") (r := rIsi K) call_isi (by rfl) T.b_isinstance (by decide +kernel) (pa_cons (pv 0) (pa_cons (pe_bltn (v := .ty "bool") (by rfl) T.b_bool (by decide +kernel) rfl) pa_nil)))))))), ?_⟩
    exact s_ret (v := .bl true) (ev_andV (a := true) (b := !false) (ev_isi (ev_var rfl) (fun H1 _ => .int n) (kit_ty (by decide +kernel)) ev_c) fun _ => ev_notV (ev_isi (ev_var rfl) (fun H1 _ => .int n) (kit_ty (by decide +kernel)) ev_c)) q
theorem ev_whole {σ : St} {ta : TA} {E : XK} {n : Int} (h : EvA ta σ H [.int n]) : Ev (tCall spWhole [] E ta) σ H (.bl true) := ev_call h fun H1 e Q q E => ⟨n, rfl, q⟩
end
def spLaw (K : PySem.W.Frag) : Sp := fun vs H Q _ => ∃ (a : Addr) (ns : List Int), vs = [.ref a] ∧ SqL K H a (ns.map V.int) ∧ ns.length ≤ 63 ∧ ∀ H', Q (.bl true) H'
theorem all_zero {l : List Int} {n : Nat} (hl : l.length = n) (h : ∀ i, l.getD i 0 = 0) : l = List.replicate n 0 := by
  refine List.eq_replicate_iff.mpr ⟨hl, fun x hx => ?_⟩
  obtain ⟨i, hi, e⟩ := List.getElem_of_mem hx
  have := h i
  rw [getD_lt hi, e] at this
  exact this
theorem soundOf {js : List T3} (h : ∀ j ∈ js, JobOk j) : Sound js := fun j hj => (h j hj).s
theorem left_step {js ps : List T3} {i : Nat} {q : T3} (h : ps[i]? = some q) : leftAfter js (ps.take (i + 1)) = takeOff (leftAfter js (ps.take i)) q := by
  rw [List.take_add_one, h]
  exact leftAfter_snoc js (ps.take i) q
theorem time_step {ps : List T3} {i : Nat} {q : T3} (h : ps[i]? = some q) : timeAfter (ps.take (i + 1)) = q.2.2 := by
  rw [List.take_add_one, h]
  exact timeAfter_snoc (ps.take i) q
end DLL
namespace DLL
open PySem PySem.Spec PyProof.Rows L2 Evl DL
/-! ### where jobs end, which are late -/
def lateB (js : List T3) (es : List Int) (k : Nat) : Bool := decide (du js k < es.getD k 0)
def rowsUpto (js : List T3) (es : List Int) (i : Nat) : List (Int × Int) := ((List.range i).filter (lateB js es)).map fun (k : Nat) => (du js k, (k : Int))
def LateOk (js : List T3) (es L : List Int) : Prop := ∃ zs : List (Int × Int), L = zs.map (·.2) ∧ zs.Perm (rowsUpto js es js.length) ∧ zs.Pairwise lexLe
theorem rows_len (js : List T3) (es : List Int) (i : Nat) : (rowsUpto js es i).length ≤ i := by
  unfold rowsUpto
  rw [List.length_map]
  have := List.length_filter_le (lateB js es) (List.range i)
  rw [List.length_range] at this
  exact this
theorem rows_yes {js : List T3} {es : List Int} {i : Nat} (h : lateB js es i = true) : rowsUpto js es (i + 1) = rowsUpto js es i ++ [(du js i, (i : Int))] := by
  unfold rowsUpto
  rw [List.range_succ, List.filter_append, List.map_append, List.filter_cons, if_pos h]
  rfl
theorem rows_no {js : List T3} {es : List Int} {i : Nat} (h : lateB js es i = false) : rowsUpto js es (i + 1) = rowsUpto js es i := by
  unfold rowsUpto
  rw [List.range_succ, List.filter_append, List.filter_cons, if_neg (by rw [h]; decide)]
  show List.map _ (_ ++ []) = _
  rw [List.append_nil]
section
variable {P : Program} {w : World} {K : PySem.W.Frag} {mg : Str → Option Value} {base : Heap} {H : Hp}
def spEnds : Sp := fun vs H Q _ => ∃ (p : Addr) (js : List T3), vs = [.ref p] ∧ TL H p js ∧ js.length ≤ 60 ∧ Sound js ∧ ∀ q H', H q = none → Ex H H' → IL H' q (endsM js) → Q (.ref q) H'
theorem ok_ends (T : TX K mg) : FnOk P w K mg base CX0 4 T.f_ends T.d_ends ["jobs"] spEnds := by
  refine T.h_ends.F.ok sc_ends (fun vs H Q E h => ?_) (fun cdv A outer s H vs Q E hr h => ?_)
  · obtain ⟨_, _, rfl, _⟩ := h
    rfl
  · obtain ⟨p, js, rfl, hT, hl, hS, q⟩ := h
    refine ⟨_, (pss_cons (ps_set (i := 1) sc_ends.nd rfl (.inl rfl) (pe_op op_rep (pe_lst (pa_cons pe_int pa_nil)) (pe_callB (id := "len") (r := Evl.rLenS K) call_len_seq (by rfl) T.b_len PySem.boot_len (pa_cons (pv 0) pa_nil))))
  (pss_cons (ps_for PassesOwn.never rfl (pi_list (pe_call (ok_run T) (hr.mono (by decide)) (by rfl) T.h_run.g T.h_run.F.kp T.h_run.b .nil pass0 (pa_cons (pv 0) pa_nil))) (pg_tup rfl (pgs_cons (pg_name (i := 2) sc_ends.nd rfl (.inl rfl)) (pgs_cons (pg_name (i := 3) sc_ends.nd rfl (.inl rfl)) (pgs_cons (pg_name (i := 4) sc_ends.nd rfl (.inl rfl)) pgs_nil))))
    (pss_one (ps_asg (pv 4) (pg_sub (pv 1) (pv 2) set_list))))
  (pss_one (ps_ret (pv 1))))), ?_⟩
    have R := run_ok hS
    refine q_asgL (el_rep (n := js.length) (x := .int 0) ev_c (ev_lenT (ev_var rfl) hT) (by omega)) fun l H1 nl e1 hL => ?_
    refine q_forNTL (etl_runR (ea_cons (ev_var rfl) ea_nil) (hT.mono e1) hl hS) (fun pr i σ' H' => ∃ x2 x3 x4 : Option V, σ' = [some (.ref p), some (.ref l), x2, x3, x4] ∧ Ex H H' ∧ TL H' pr (runM js) ∧ pr ≠ l ∧ IL H' l (endsAfter js.length ((runM js).take i)))
      (fun pr H2 np e2 hP => ⟨none, none, none, rfl, e1.trans e2, hP, (fun z => by subst z; rw [hL] at np; cases np), e2 _ _ (by
        rw [hL]
        congr 2
        show _ = (List.replicate js.length 0).map V.int
        rw [List.map_replicate])⟩) (fun pr i σ' H' _ ⟨_, _, _, _, _, h, _⟩ => h) ?_ ?_
    · rintro pr i x t σ' H' hi ht ⟨x2, x3, x4, rfl, e2, hP, npl, hI⟩
      have O := R.way i x hi
      obtain ⟨pl, b, e⟩ := x
      obtain ⟨n, rfl⟩ : ∃ n : Nat, pl = (n : Int) := ⟨pl.toNat, by have := O.p0; dsimp only at this; omega⟩
      have hn' : n < js.length := by have := O.pn; dsimp only at this; rw [Int.toNat_natCast] at this; exact this
      refine g_three ht ?_
      refine s_setI (i := n) (z := e) (ev_var rfl) (ev_var rfl) (ev_var rfl) hI (by rw [endsAfter_len]; exact hn') fun H3 md h3 => ⟨_, _, _, rfl, md.base e2 nl, md.tl hP npl, npl, ?_⟩
      rw [endsAfter_step hi]
      show IL H3 l (List.set _ ((n : Int).toNat) e)
      rw [Int.toNat_natCast]
      exact h3
    · rintro pr σ' H' ⟨x2, x3, x4, rfl, e2, hP, npl, hI⟩
      rw [List.take_length] at hI
      exact s_ret (ev_var rfl) fun H3 e3 => q l H3 nl (e2.trans e3) (hI.mono e3)
theorem el_ends {σ : St} {ta : TA} {E : XK} {p : Addr} {js : List T3} (h : EvA ta σ H [.ref p]) (hT : TL H p js) (hl : js.length ≤ 60) (hS : Sound js) : EvL (tCall spEnds [] E ta) σ H ((endsM js).map V.int) := fun H1 e Q k =>
  h H1 e _ fun H2 e2 => ⟨p, js, rfl, hT.mono (e.trans e2), hl, hS, fun q H' nq e3 hI => k q H' (fresh_back e2 nq) (e2.trans e3) hI⟩
def spLate : Sp := fun vs H Q _ => ∃ (p : Addr) (js : List T3), vs = [.ref p] ∧ TL H p js ∧ js.length ≤ 60 ∧ Sound js ∧ ∀ q H' L, H q = none → Ex H H' → IL H' q L → LateOk js (endsM js) L → Q (.ref q) H'
theorem ok_late (T : TX K mg) : FnOk P w K mg base CX0 5 T.f_late T.d_late ["jobs"] spLate := by
  refine T.h_late.F.ok sc_late (fun vs H Q E h => ?_) (fun cdv A outer s H vs Q E hr h => ?_)
  · obtain ⟨_, _, rfl, _⟩ := h
    rfl
  · obtain ⟨p, js, rfl, hT, hl, hS, q⟩ := h
    refine ⟨_, (pss_cons (ps_set (i := 1) sc_late.nd rfl (.inl rfl) (pe_lst pa_nil))
  (pss_cons (ps_for PassesOwn.never rfl (pi_enum (by rfl) T.b_enumerate (pa_cons (pe_call (ok_ends T) (hr.mono (by decide)) (by rfl) T.h_ends.g T.h_ends.F.kp T.h_ends.b .nil pass0 (pa_cons (pv 0) pa_nil)) pa_nil)) (pg_tup rfl (pgs_cons (pg_name (i := 2) sc_late.nd rfl (.inl rfl)) (pgs_cons (pg_name (i := 3) sc_late.nd rfl (.inl rfl)) pgs_nil)))
    (pss_cons (ps_set (i := 4) sc_late.nd rfl (.inl rfl) (pe_ix (r := rIxT K) ix_tup (pe_ix (r := rIxL K) ix_list (pv 0) (pv 2) (fun _ _ => rfl)) pe_int (fun _ _ => rfl)))
  (pss_one (ps_if (pt_cmpR op_gt (pv 3) (pv 4) (nomark _))
    (pss_one (ps_expr (pe_bm PySem.F.plainAttrs_list PySem.F.slot_list_append PySem.F.type_list_append mt_append (pv 1) (pa_cons (pe_tup (pa_cons (pv 4) (pa_cons (pv 2) pa_nil))) pa_nil))))
    pss_nil))))
  (pss_one (ps_ret (pe_lc (own := [("row", 5)]) (g := (gName 5)) (tt := tYes) rfl sc_late.nd (pi_list (pe_callB (id := "sorted") (r := rSortedPO K) cr_sortedPO (by rfl) T.b_sorted (by decide +kernel) (pa_cons (pv 1) pa_nil))) (blkOk_by (own := [("row", 5)]) (N := N_late) (sc := defScope s_late) (by decide +kernel)) (fun _ _ _ _ _ => (pg_name (i := 5) sc_late.nd rfl (.inl rfl))) (fun _ _ _ _ _ => pts_nil) (fun _ _ _ _ _ => (pe_ix (r := rIxT K) ix_tup (pv 5) pe_int (fun _ _ => rfl)))))))), ?_⟩
    refine q_asgL (el_lst ea_nil (show 0 ≤ 100000 by decide)) fun l H1 nl e1 hL => ?_
    have hel : (endsM js).length = js.length := endsAfter_len _ _
    refine q_forEnN (el_ends (ea_cons (ev_var rfl) ea_nil) (hT.mono e1) hl hS) (fun pe i σ' H' => ∃ x2 x3 x4 : Option V, σ' = [some (.ref p), some (.ref l), x2, x3, x4, none] ∧ Ex H H' ∧ IL H' pe (endsM js) ∧ pe ≠ l ∧ PL H' l (rowsUpto js (endsM js) i))
      (fun pe H2 np e2 hI => ⟨none, none, none, rfl, e1.trans e2, hI, (fun z => by subst z; rw [hL] at np; cases np), ⟨[], e2 _ _ hL, .nil⟩⟩) (fun pe i σ' H' _ ⟨_, _, _, _, _, h, _⟩ => SqL.of h) ?_ ?_
    · rintro pe i x TT σ' H' hi nT ⟨x2, x3, x4, rfl, e2, hI, npl, hPl⟩
      rw [List.getElem?_map] at hi
      obtain ⟨z, hz, rfl⟩ := Option.map_eq_some_iff.mp hi
      have hil : i < js.length := by rw [← hel]; exact (List.getElem?_eq_some_iff.mp hz).1
      have hji := List.getElem?_eq_getElem hil
      have e3 : Ex H' (upd H' TT (.tup [.int (i : Int), .int z])) := Ex.new nT
      refine g_two upd_same ?_
      generalize upd H' TT (.tup [.int (i : Int), .int z]) = H3 at *
      refine q_asg (ev_field hji (ev_var rfl) (ev_var rfl) (hT.mono (e2.trans e3)) ev_c (t3_2 _)) fun H4 e4 => ?_
      have hlb : lateB js (endsM js) i = decide ((js[i]).2.2 < z) := by
        unfold lateB
        rw [(cm_at hji).2.2, getD_of hz]
      refine s_when (b := lateB js (endsM js) i) (et_is (b := lateB js (endsM js) i) (et_test (ev_op (ev_var rfl) (ev_var rfl) rv_I0)) hlb.symm) (fun hb H5 e5 => ?_) (fun hb H5 e5 => ?_)
      · have e35 := (e3.trans e4).trans e5
        refine s_appP (z := ((js[i]).2.2, (i : Int))) (hPl.mono e35) (ev_var rfl) (eu_two (ev_var rfl) (ev_var rfl)) (by have := rows_len js (endsM js) i; omega) fun H6 md h6 => ⟨_, _, _, rfl, md.base (e2.trans e35) nl, md.il (hI.mono e35) npl, npl, ?_⟩
        rw [rows_yes hb, (cm_at hji).2.2]
        exact h6
      · refine ⟨_, _, _, rfl, ((e2.trans e3).trans e4).trans e5, ((hI.mono e3).mono e4).mono e5, npl, ?_⟩
        rw [rows_no hb]
        exact ((hPl.mono e3).mono e4).mono e5
    · rintro pe σ' H' ⟨x2, x3, x4, rfl, e2, hI, npl, hPl⟩
      have hn : ((endsM js).map V.int).length = js.length := by rw [List.length_map, hel]
      rw [hn] at hPl
      refine epl_seconds (epl_sorted (ev_var rfl) hPl) (fun ys hy => ?_) (fun x => rfl) (fun x => rfl) H' (Ex.refl _) _ fun d H3 zs nd e3 h3 hz => ?_
      · have := hy.1.length_eq
        have := rows_len js (endsM js) js.length
        omega
      · exact q d H3 _ (fresh_back e2 nd) (e2.trans e3) h3 ⟨zs, rfl, hz.1, hz.2⟩
end
end DLL
namespace DLL
open PySem PySem.Spec PyProof.Rows L2 Evl DL
/-! ### what an answer is, in the run's words -/
def Pick (js : List T3) (p : Nat) : Prop := p < js.length ∧ du js p < (endsM js).getD p 0 ∧ ∀ o, o < js.length → du js o < (endsM js).getD o 0 → first js p o
structure Begin (js : List T3) (p : Nat) (b : Int) where
  k : Nat
  m : Nat
  q : T3
  r : T3
  hq : (runM js)[m]? = some q
  qb : q.2.1 < du js p
  qe : du js p ≤ q.2.2
  bk : Bk js (runM js) (du js p) k m
  hr : (runM js)[k]? = some r
  rb : r.2.1 = b
def RightV (H : Hp) (t : Addr) (js : List T3) : Prop :=
  (∃ pp ps, H t = some (.tup [.str "plan", .ref pp]) ∧ TL H pp ps ∧ RunOk js ps ∧ NoLate js ps) ∨
  (∃ (p : Nat) (b : Int), H t = some (.tup [.str "late", .int (p : Int), .int b, .int (du js p)]) ∧ p < js.length ∧ 0 ≤ b ∧ b ≤ cm js p ∧ du js p - b < loadJ js b (du js p))
theorem begin_crowded {js : List T3} (S : Sound js) {p : Nat} {b : Int} (hp : Pick js p) (B : Begin js p b) : 0 ≤ b ∧ b ≤ cm js p ∧ b < du js p ∧ du js p - b < loadJ js b (du js p) := by
  obtain ⟨M, z, L⟩ := late_of_end S (run_ok S) hp.1 hp.2.1
  have := crowded S (run_ok S).way L B.hq B.qb B.qe B.bk B.hr
  rw [B.rb] at this
  exact this
/-- a pick has a begin -/
theorem begin_ex {js : List T3} (S : Sound js) {p : Nat} (hp : Pick js p) : ∃ b, Nonempty (Begin js p b) := by
  obtain ⟨M, z, L⟩ := late_of_end S (run_ok S) hp.1 hp.2.1
  obtain ⟨m, q, hm, hq, h1, h2, h3⟩ := cover S (run_ok S).way L
  obtain ⟨k, B⟩ := bk_ex (run_ok S).way hq h3
  have hk : k < (runM js).length := by have := (List.getElem?_eq_some_iff.mp hq).1; have := B.km; omega
  exact ⟨_, ⟨⟨k, m, q, _, hq, h1, h2, B, List.getElem?_eq_getElem hk, rfl⟩⟩⟩
theorem bk_uniq {js ps : List T3} (W : WayOk js ps) {d : Int} {k k' m : Nat} (A : Bk js ps d k m) (B : Bk js ps d k' m) : ¬ k < k' := fun h => by
  rcases B.stop with z | ⟨q, r, hq, hr, hs⟩
  · omega
  · have hk := B.km
    rcases hs with hs | hs
    · have := A.tight (k' - 1) q r (by omega) (by omega) hq (by rw [show k' - 1 + 1 = k' by omega]; exact hr)
      omega
    · have := A.due (k' - 1) q (by omega) (by omega) hq
      omega
theorem begin_uniq {js : List T3} (S : Sound js) {p : Nat} {b b' : Int} (A : Begin js p b) (B : Begin js p b') : b = b' := by
  have W := (run_ok S).way
  have hm : A.m = B.m := by
    rcases Nat.lt_trichotomy A.m B.m with h | h | h
    · have := ord W h A.hq B.hq
      have := A.qe
      have := B.qb
      omega
    · exact h
    · have := ord W h B.hq A.hq
      have := B.qe
      have := A.qb
      omega
  have hA := A.bk
  rw [hm] at hA
  have hk : A.k = B.k := by
    have := bk_uniq W hA B.bk
    have := bk_uniq W B.bk hA
    omega
  have h1 := A.hr
  rw [hk, B.hr] at h1
  have h2 := Option.some.inj h1
  rw [← A.rb, ← B.rb, h2]
/-- the begin of point 9 -/
noncomputable def beginM (js : List T3) (p : Nat) : Int := by
  classical
  exact if h : ∃ b, Nonempty (Begin js p b) then Classical.choose h else 0
theorem beginM_of {js : List T3} (S : Sound js) {p : Nat} {b : Int} (B : Begin js p b) : beginM js p = b := by
  have h : ∃ b, Nonempty (Begin js p b) := ⟨b, ⟨B⟩⟩
  unfold beginM
  rw [dif_pos h]
  obtain ⟨C⟩ := Classical.choose_spec h
  exact begin_uniq S C B
theorem beginM_spec {js : List T3} (S : Sound js) {p : Nat} (hp : Pick js p) : Nonempty (Begin js p (beginM js p)) := by
  obtain ⟨b, ⟨B⟩⟩ := begin_ex S hp
  rw [beginM_of S B]
  exact ⟨B⟩
def AnsV (H : Hp) (t : Addr) (js : List T3) : Prop :=
  (NoLate js (runM js) ∧ ∃ pp, H t = some (.tup [.str "plan", .ref pp]) ∧ TL H pp (runM js)) ∨
  (¬ NoLate js (runM js) ∧ ∃ (p : Nat), H t = some (.tup [.str "late", .int (p : Int), .int (beginM js p), .int (du js p)]) ∧ Pick js p)
theorem AnsV.mono {H H' : Hp} {t : Addr} {js : List T3} (e : Ex H H') (h : AnsV H t js) : AnsV H' t js := by
  rcases h with ⟨n, pp, h1, h2⟩ | ⟨n, p, h1, h2⟩
  · exact .inl ⟨n, pp, e _ _ h1, h2.mono e⟩
  · exact .inr ⟨n, p, e _ _ h1, h2⟩
theorem AnsV.right {H : Hp} {t : Addr} {js : List T3} (S : Sound js) (h : AnsV H t js) : RightV H t js := by
  rcases h with ⟨n, pp, h1, h2⟩ | ⟨n, p, h1, h2⟩
  · exact .inl ⟨pp, _, h1, h2, run_ok S, n⟩
  · obtain ⟨B⟩ := beginM_spec S h2
    have := begin_crowded S h2 B
    exact .inr ⟨p, _, h1, h2.1, this.1, this.2.1, this.2.2.2⟩
section
variable {P : Program} {w : World} {K : PySem.W.Frag} {mg : Str → Option Value} {base : Heap} {H : Hp}
def spLoad : Sp := fun vs H Q _ => ∃ (p : Addr) (js : List T3) (b e : Int), vs = [.ref p, .int b, .int e] ∧ TL H p js ∧ js.length ≤ 60 ∧ ∀ H', Ex H H' → Q (.int (loadJ js b e)) H'
theorem ok_law_load (T : TX K mg) : FnOk P w K mg base CX0 1 T.f_law_load T.d_law_load ["_law_jobs", "_law_begin", "_law_end"] spLoad := by
  refine T.h_law_load.F.ok sc_law_load (fun vs H Q E h => ?_) (fun cdv A outer s H vs Q E hr h => ?_)
  · obtain ⟨_, _, _, _, rfl, _⟩ := h
    rfl
  · obtain ⟨p, js, b, e, rfl, hT, hl, q⟩ := h
    refine ⟨_, (pss_one (ps_ret (pe_callB (id := "sum") (r := rSum K) (cr_sum rfl) (by rfl) T.b_sum (by decide +kernel) (pa_cons (pe_lc (own := [("_law_job", 3)]) (g := (gName 3)) rfl sc_law_load.nd (pi_list (pv 0)) (blkOk_by (own := [("_law_job", 3)]) (N := N_law_load) (sc := defScope s_law_load) (by decide +kernel)) (fun _ _ _ _ _ => (pg_name (i := 3) sc_law_load.nd rfl (.inl rfl))) (fun _ _ _ _ _ => (pts_one (PW.pt (pw_and (pt_cmpR op_ge (pe_ix (r := rIxT K) ix_tup (pv 3) pe_int (fun _ _ => rfl)) (pv 1) (nomark _)) (pw_and1 (pt_cmpR op_le (pe_ix (r := rIxT K) ix_tup (pv 3) pe_int (fun _ _ => rfl)) (pv 2) (nomark _))))))) (fun _ _ _ _ _ => (pe_ix (r := rIxT K) ix_tup (pv 3) pe_int (fun _ _ => rfl)))) pa_nil)))), ?_⟩
    refine s_ret (v := .int (loadJ js b e)) (ev_sumN (ns := (js.filter (inB b e)).map (·.2.1)) ?_) q
    exact el_ints (inB b e) (·.2.1) (fun j u => [some (.ref p), some (.int b), some (.int e), some (.ref u)]) (ev_var rfl) hT (by omega) (fun j u H1 Q' hu hq => hq) (fun j u => rfl) (fun j u H1 _ _ hu => et_and (et_test (ev_op (ev_fld1 (ev_var rfl) hu ev_c (t3_0 j)) (ev_var rfl) rv_I0)) fun _ => et_test (ev_op (ev_fld1 (ev_var rfl) hu ev_c (t3_2 j)) (ev_var rfl) rv_I0)) (fun j u H1 _ _ hu _ => ev_fld1 (ev_var rfl) hu ev_c (t3_1 j))
theorem ev_load {σ : St} {ta : TA} {E : XK} {p : Addr} {js : List T3} {b e : Int} (h : EvA ta σ H [.ref p, .int b, .int e]) (hT : TL H p js) (hl : js.length ≤ 60) : Ev (tCall spLoad [] E ta) σ H (.int (loadJ js b e)) :=
  ev_call h fun H1 ex Q q E => ⟨p, js, b, e, rfl, hT.mono ex, hl, q⟩
def spTriple : Sp := fun vs H Q _ => ∃ (t : Addr) (j : T3), vs = [.ref t] ∧ AtT H t j ∧ ∀ H', Ex H H' → Q (.bl true) H'
theorem ok_law_triple (T : TX K mg) : FnOk P w K mg base CX0 2 T.f_law_triple T.d_law_triple ["_law_piece"] spTriple := by
  refine T.h_law_triple.F.ok sc_law_triple (fun vs H Q E h => ?_) (fun cdv A outer s H vs Q E hr h => ?_)
  · obtain ⟨_, _, rfl, _⟩ := h
    rfl
  · obtain ⟨t, j, rfl, ht, q⟩ := h
    refine ⟨_, (pss_cons (ps_if (PW.pt (pw_or (pt_not (pt_val (pe_callB (id := "isinstance") (r := rIsi K) call_isi (by rfl) T.b_isinstance (by decide +kernel) (pa_cons (pv 0) (pa_cons (pe_bltn (v := .ty "tuple") (by rfl) T.b_tuple (by decide +kernel) rfl) pa_nil))))) (pw_or1 (pt_cmpR op_ne (pe_callB (id := "len") (r := Evl.rLenS K) call_len_seq (by rfl) T.b_len PySem.boot_len (pa_cons (pv 0) pa_nil)) pe_int (nomark _)))))
    (pss_one (ps_ret pe_bl))
    pss_nil)
  (pss_one (ps_ret (pe_and (pe_call (ok_law_whole T) (hr.mono (by decide)) (by rfl) T.h_law_whole.g T.h_law_whole.F.kp T.h_law_whole.b .nil pass0 (pa_cons (pe_ix (r := rIxT K) ix_tup (pv 0) pe_int (fun _ _ => rfl)) pa_nil)) (pe_and (pe_call (ok_law_whole T) (hr.mono (by decide)) (by rfl) T.h_law_whole.g T.h_law_whole.F.kp T.h_law_whole.b .nil pass0 (pa_cons (pe_ix (r := rIxT K) ix_tup (pv 0) pe_int (fun _ _ => rfl)) pa_nil)) (pe_one (pe_call (ok_law_whole T) (hr.mono (by decide)) (by rfl) T.h_law_whole.g T.h_law_whole.F.kp T.h_law_whole.b .nil pass0 (pa_cons (pe_ix (r := rIxT K) ix_tup (pv 0) pe_int (fun _ _ => rfl)) pa_nil)))))))), ?_⟩
    refine q_when (b := !true || !decide (V.int (((tv j).length : Nat) : Int) = V.int 3)) (et_or (et_not (et_B (ev_isi (ev_var rfl) (fun H1 e => .tup (e _ _ ht)) (kit_ty (by decide +kernel)) ev_c))) fun _ => et_test (ev_op (ev_lenU (ev_var rfl) ht) ev_c (rv_ne rfl))) (fun hb H1 e1 => ?_) (fun hb H1 e1 => ?_)
    · exact absurd (show (!true || !decide (V.int (((tv j).length : Nat) : Int) = V.int 3)) = false from rfl) (by rw [hb]; decide)
    have h1 := e1 _ _ ht
    exact s_ret (v := .bl (true && (true && true))) (ev_andV (ev_whole (ea_cons (ev_fld1 (ev_var rfl) h1 ev_c (t3_0 _)) ea_nil)) fun _ => ev_andV (ev_whole (ea_cons (ev_fld1 (ev_var rfl) h1 ev_c (t3_1 _)) ea_nil)) fun _ => ev_whole (ea_cons (ev_fld1 (ev_var rfl) h1 ev_c (t3_2 _)) ea_nil)) fun H2 e2 => q H2 (e1.trans e2)
theorem ev_triple {σ : St} {ta : TA} {E : XK} {t : Addr} {j : T3} (h : EvA ta σ H [.ref t]) (ht : AtT H t j) : Ev (tCall spTriple [] E ta) σ H (.bl true) := ev_call h fun H1 e Q q E => ⟨t, j, rfl, e _ _ ht, q⟩
/-- a way of the run that is never late is walked to its end -/
def spWalk : Sp := fun vs H Q _ => ∃ (p pp : Addr) (js ps : List T3), vs = [.ref p, .ref pp] ∧ TL H p js ∧ TL H pp ps ∧ js.length ≤ 60 ∧ RunOk js ps ∧ NoLate js ps ∧ ∀ H', Ex H H' → Q (.bl true) H'
theorem ok_law_meets (T : TX K mg) : FnOk P w K mg base CX0 3 T.f_law_meets T.d_law_meets ["_law_jobs", "_law_pieces"] spWalk := by
  refine T.h_law_meets.F.ok sc_law_meets (fun vs H Q E h => ?_) (fun cdv A outer s H vs Q E hr h => ?_)
  · obtain ⟨_, _, _, _, rfl, _⟩ := h
    rfl
  · obtain ⟨p, pp, js, ps, rfl, hT, hP, hl, R, N, q⟩ := h
    refine ⟨_, (pss_cons (ps_setLc (i := 2) (own := [("_law_job", 5)]) (g := (gName 5)) (tt := tYes) rfl sc_law_meets.nd rfl rfl (sw_true rfl rfl rfl (by decide +kernel)) (pi_list (pv 0)) (blkOk_by (own := [("_law_job", 5)]) (N := N_law_meets) (sc := defScope s_law_meets) (by decide +kernel)) (fun _ _ _ _ _ => (pg_name (i := 5) sc_law_meets.nd rfl (.inl rfl))) (fun _ _ _ _ _ => pts_nil) (fun _ _ _ _ _ => (pe_ix (r := rIxT K) ix_tup (pv 5) pe_int (fun _ _ => rfl))))
  (pss_cons (ps_set (i := 3) sc_law_meets.nd rfl (.inl rfl) pe_int)
  (pss_cons (ps_if (pt_not (pt_val (pe_callB (id := "isinstance") (r := rIsi K) call_isi (by rfl) T.b_isinstance (by decide +kernel) (pa_cons (pv 1) (pa_cons (pe_bltn (v := .ty "list") (by rfl) T.b_list (by decide +kernel) rfl) pa_nil)))))
    (pss_one (ps_ret pe_bl))
    pss_nil)
  (pss_cons (ps_for PassesOwn.never rfl (pi_list (pv 1)) (pg_name (i := 4) sc_law_meets.nd rfl (.inl rfl))
    (pss_cons (ps_if (PW.pt (pw_or (pt_not (pt_val (pe_call (ok_law_triple T) (hr.mono (by decide)) (by rfl) T.h_law_triple.g T.h_law_triple.F.kp T.h_law_triple.b .nil pass0 (pa_cons (pv 4) pa_nil)))) (pw_or (pt_not (pt_chain op_le op_lt pe_int (pe_ix (r := rIxT K) ix_tup (pv 4) pe_int (fun _ _ => rfl)) (pe_callB (id := "len") (r := Evl.rLenS K) call_len_seq (by rfl) T.b_len PySem.boot_len (pa_cons (pv 0) pa_nil)))) (pw_or1 (pt_not (pt_chain op_le op_lt (pv 3) (pe_ix (r := rIxT K) ix_tup (pv 4) pe_int (fun _ _ => rfl)) (pe_ix (r := rIxT K) ix_tup (pv 4) pe_int (fun _ _ => rfl))))))))
    (pss_one (ps_ret pe_bl))
    pss_nil)
  (pss_cons (ps_if (PW.pt (pw_or (pt_cmpR op_lt (pe_ix (r := rIxT K) ix_tup (pv 4) pe_int (fun _ _ => rfl)) (pe_ix (r := rIxT K) ix_tup (pe_ix (r := rIxL K) ix_list (pv 0) (pe_ix (r := rIxT K) ix_tup (pv 4) pe_int (fun _ _ => rfl)) (fun _ _ => rfl)) pe_int (fun _ _ => rfl)) (nomark _)) (pw_or1 (pt_cmpR op_gt (pe_ix (r := rIxT K) ix_tup (pv 4) pe_int (fun _ _ => rfl)) (pe_ix (r := rIxT K) ix_tup (pe_ix (r := rIxL K) ix_list (pv 0) (pe_ix (r := rIxT K) ix_tup (pv 4) pe_int (fun _ _ => rfl)) (fun _ _ => rfl)) pe_int (fun _ _ => rfl)) (nomark _)))))
    (pss_one (ps_ret pe_bl))
    pss_nil)
  (pss_cons (ps_asg (pe_op op_sub (pe_ix (r := rIxL K) ix_list (pv 2) (pe_ix (r := rIxT K) ix_tup (pv 4) pe_int (fun _ _ => rfl)) (fun _ _ => rfl)) (pe_op op_sub (pe_ix (r := rIxT K) ix_tup (pv 4) pe_int (fun _ _ => rfl)) (pe_ix (r := rIxT K) ix_tup (pv 4) pe_int (fun _ _ => rfl)))) (pg_sub (pv 2) (pe_ix (r := rIxT K) ix_tup (pv 4) pe_int (fun _ _ => rfl)) set_list))
  (pss_one (ps_set (i := 3) sc_law_meets.nd rfl (.inl rfl) (pe_ix (r := rIxT K) ix_tup (pv 4) pe_int (fun _ _ => rfl))))))))
  (pss_one (ps_ret (pe_cmpR (r := rEqD K) (op_eqD hr.units) (pv 2) (pe_op op_rep (pe_lst (pa_cons pe_int pa_nil)) (pe_callB (id := "len") (r := Evl.rLenS K) call_len_seq (by rfl) T.b_len PySem.boot_len (pa_cons (pv 0) pa_nil))) (nomark _)))))))), ?_⟩
    refine q_asgL (xs := (js.map fun (x : T3) => x.2.1).map V.int) (el_intsA (·.2.1) (fun j u => [some (.ref p), some (.ref pp), none, none, none, some (.ref u)]) (ev_var rfl) hT (by omega) (fun j u H1 Q' hu hq => hq) (fun j u => rfl) (fun j u H1 _ _ hu => ev_fld1 (ev_var rfl) hu ev_c (t3_1 j))) fun l H1 nl e1 hL => ?_
    refine q_asg ev_c fun H2 e2 => ?_
    obtain ⟨us, u1, _⟩ := (hP.mono e1).mono e2
    refine q_when (b := !true) (et_not (et_B (ev_isi (ev_var rfl) (fun H1 e => .lst (e _ _ u1)) (kit_ty (by decide +kernel)) ev_c))) (fun hb H3 e3 => by cases hb) (fun hb H3 e3 => ?_)
    have npl : pp ≠ l := by
      obtain ⟨ts, h1, _⟩ := hP
      exact ne_of_none h1 nl
    refine q_forTL (ev_var rfl) ((hP.mono e1).mono (e2.trans e3)) (fun i σ' H' => ∃ x4 : Option V, σ' = [some (.ref p), some (.ref pp), some (.ref l), some (.int (timeAfter (ps.take i))), x4, none] ∧ Ex H H' ∧ IL H' l (leftAfter js (ps.take i)))
      (fun H4 e4 => ⟨none, rfl, ((e1.trans e2).trans e3).trans e4, (e4 _ _ (e3 _ _ (e2 _ _ hL)))⟩) (fun i σ' H' _ ⟨_, _, e, _⟩ => hP.mono e) ?_ ?_
    · rintro i x t σ' H' hi ht ⟨x4, rfl, eH, hI⟩
      have O := R.way i x hi
      have hN := N i x hi
      obtain ⟨pl, b, e⟩ := x
      obtain ⟨n, rfl⟩ : ∃ n : Nat, pl = (n : Int) := ⟨pl.toNat, by have := O.p0; dsimp only at this; omega⟩
      have hn : n < js.length := by have := O.pn; dsimp only at this; rw [Int.toNat_natCast] at this; exact this
      have htb := O.tb
      have hbe := O.be
      have hc := O.come
      dsimp only at htb hbe hc hN
      rw [Int.toNat_natCast] at hc hN
      have hjn := List.getElem?_eq_getElem hn
      obtain ⟨c1, c2, c3⟩ := cm_at hjn
      rw [c1] at hc
      rw [c3] at hN
      have hT0 := hT.mono eH
      have hlen : n < (leftAfter js (ps.take i)).length := by rw [leftAfter_len]; exact hn
      have f0 : ∀ {H9 : Hp} {σ : St}, AtT H9 t ((n : Int), b, e) → σ[4]? = some (some (.ref t)) → Ev (tOp (rIxT K) (tVar 4) (tC (.int 0))) σ H9 (.int (n : Int)) := fun h hs => ev_fld1 (ev_var hs) h ev_c (t3_0 _)
      have f1 : ∀ {H9 : Hp} {σ : St}, AtT H9 t ((n : Int), b, e) → σ[4]? = some (some (.ref t)) → Ev (tOp (rIxT K) (tVar 4) (tC (.int 1))) σ H9 (.int b) := fun h hs => ev_fld1 (ev_var hs) h ev_c (t3_1 _)
      have f2 : ∀ {H9 : Hp} {σ : St}, AtT H9 t ((n : Int), b, e) → σ[4]? = some (some (.ref t)) → Ev (tOp (rIxT K) (tVar 4) (tC (.int 2))) σ H9 (.int e) := fun h hs => ev_fld1 (ev_var hs) h ev_c (t3_2 _)
      refine q_when (b := !true || (!(decide ((0 : Int) ≤ (n : Int)) && decide ((n : Int) < (js.length : Int))) || !(decide (timeAfter (ps.take i) ≤ b) && decide (b < e)))) (et_or (et_not (et_B (ev_triple (ea_cons (ev_var rfl) ea_nil) ht))) fun _ => et_or (et_not (et_test (ev_chain ev_c (f0 ht rfl) rv_I0 (fun _ => ev_lenT (ev_var rfl) hT0) fun _ => rv_I0))) fun _ => et_not (et_test (ev_chain (ev_var rfl) (f1 ht rfl) rv_I0 (fun _ => f2 ht rfl) fun _ => rv_I0))) (fun hb H4 e4 => ?_) (fun hb H4 e4 => ?_)
      · simp only [Bool.or_eq_true, Bool.not_eq_true', Bool.and_eq_false_iff, decide_eq_false_iff_not] at hb
        rcases hb with hb | (hb | hb) | (hb | hb)
        · cases hb
        · exact absurd (Int.natCast_nonneg n) hb
        · omega
        · exact absurd htb hb
        · exact absurd hbe hb
      have h4 := e4 _ _ ht
      have hT4 := hT0.mono e4
      refine q_when (b := decide (b < (js[n]).1) || decide ((js[n]).2.2 < e)) (et_or (et_test (ev_op (f1 h4 rfl) (ev_field hjn (ev_var rfl) (f0 h4 rfl) hT4 ev_c (t3_0 _)) rv_I0)) fun _ => et_test (ev_op (f2 h4 rfl) (ev_field hjn (ev_var rfl) (f0 h4 rfl) hT4 ev_c (t3_2 _)) rv_I0)) (fun hb H5 e5 => ?_) (fun hb H5 e5 => ?_)
      · simp only [Bool.or_eq_true, decide_eq_true_eq] at hb
        omega
      have h5 := e5 _ _ h4
      have hI5 := (hI.mono e4).mono e5
      refine q_setI (i := n) (z := (leftAfter js (ps.take i)).getD n 0 - (e - b)) (ev_op (ev_ixI (ev_var rfl) (f0 h5 rfl) hI5 hlen) (ev_op (f2 h5 rfl) (f1 h5 rfl) rv_I0) rv_I0) (ev_var rfl) (f0 h5 rfl) hI5 hlen fun H6 md h6 => ?_
      have h6t : AtT H6 t ((n : Int), b, e) := md.tup _ _ h5
      refine s_asg (f2 h6t rfl) fun H7 e7 => ⟨some (.ref t), ?_, (md.base ((eH.trans e4).trans e5) nl).trans e7, ?_⟩
      · rw [ta_step hi]
        rfl
      · rw [la_step hi]
        unfold takeOff
        dsimp only
        rw [Int.toNat_natCast]
        exact h6.mono e7
    · rintro σ' H' ⟨x4, rfl, eH, hI⟩
      rw [List.take_length, run_left R] at hI
      refine s_ret (v := .bl (decide (List.replicate js.length 0 = List.replicate js.length 0))) (ev_opL (xs := List.replicate js.length (V.int 0)) (ev_var rfl) (el_rep ev_c (ev_lenT (ev_var rfl) (hT.mono eH)) (by omega)) fun p4 H5 hp e5 => rv_eqN (hI.mono e5) ?_) fun H5 e5 => ?_
      · show H5 p4 = _
        rw [hp]
        congr 2
        show _ = (List.replicate js.length 0).map V.int
        rw [List.map_replicate]
      · rw [decide_eq_true rfl]
        exact q H5 (eH.trans e5)
theorem ev_walk {σ : St} {ta : TA} {E : XK} {p pp : Addr} {js ps : List T3} (h : EvA ta σ H [.ref p, .ref pp]) (hT : TL H p js) (hP : TL H pp ps) (hl : js.length ≤ 60) (R : RunOk js ps) (N : NoLate js ps) : Ev (tCall spWalk [] E ta) σ H (.bl true) :=
  ev_call h fun H1 e Q q E => ⟨p, pp, js, ps, rfl, hT.mono e, hP.mono e, hl, R, N, q⟩
def spCrowded : Sp := fun vs H Q _ => ∃ (a : Addr) (js : List T3) (p : Nat) (b : Int), vs = [.ref a, .int (p : Int), .int b, .int (du js p)] ∧ TL H a js ∧ js.length ≤ 60 ∧ p < js.length ∧ 0 ≤ b ∧ b ≤ cm js p ∧ du js p - b < loadJ js b (du js p) ∧ ∀ H', Ex H H' → Q (.bl true) H'
theorem ok_law_crowded (T : TX K mg) : FnOk P w K mg base CX0 2 T.f_law_crowded T.d_law_crowded ["_law_jobs", "_law_place", "_law_begin", "_law_end"] spCrowded := by
  refine T.h_law_crowded.F.ok sc_law_crowded (fun vs H Q E h => ?_) (fun cdv A outer s H vs Q E hr h => ?_)
  · obtain ⟨_, _, _, _, rfl, _⟩ := h
    rfl
  · obtain ⟨a, js, p, b, rfl, hT, hl, hp, hb0, hbc, hld, q⟩ := h
    refine ⟨_, (pss_cons (ps_if (PW.pt (pw_or (pt_not (pt_val (pe_call (ok_law_whole T) (hr.mono (by decide)) (by rfl) T.h_law_whole.g T.h_law_whole.F.kp T.h_law_whole.b .nil pass0 (pa_cons (pv 1) pa_nil)))) (pw_or (pt_not (pt_val (pe_call (ok_law_whole T) (hr.mono (by decide)) (by rfl) T.h_law_whole.g T.h_law_whole.F.kp T.h_law_whole.b .nil pass0 (pa_cons (pv 2) pa_nil)))) (pw_or1 (pt_not (pt_val (pe_call (ok_law_whole T) (hr.mono (by decide)) (by rfl) T.h_law_whole.g T.h_law_whole.F.kp T.h_law_whole.b .nil pass0 (pa_cons (pv 3) pa_nil))))))))
    (pss_one (ps_ret pe_bl))
    pss_nil)
  (pss_cons (ps_if (PW.pt (pw_or (pt_not (pt_chain op_le op_lt pe_int (pv 1) (pe_callB (id := "len") (r := Evl.rLenS K) call_len_seq (by rfl) T.b_len PySem.boot_len (pa_cons (pv 0) pa_nil)))) (pw_or (pt_not (pt_chain op_le op_le pe_int (pv 2) (pe_ix (r := rIxT K) ix_tup (pe_ix (r := rIxL K) ix_list (pv 0) (pv 1) (fun _ _ => rfl)) pe_int (fun _ _ => rfl)))) (pw_or1 (pt_cmpR op_ne (pv 3) (pe_ix (r := rIxT K) ix_tup (pe_ix (r := rIxL K) ix_list (pv 0) (pv 1) (fun _ _ => rfl)) pe_int (fun _ _ => rfl)) (nomark _))))))
    (pss_one (ps_ret pe_bl))
    pss_nil)
  (pss_one (ps_ret (pe_cmpR op_gt (pe_call (ok_law_load T) (hr.mono (by decide)) (by rfl) T.h_law_load.g T.h_law_load.F.kp T.h_law_load.b .nil pass0 (pa_cons (pv 0) (pa_cons (pv 2) (pa_cons (pv 3) pa_nil)))) (pe_op op_sub (pv 3) (pv 2)) (nomark _)))))), ?_⟩
    refine q_when (b := !true || (!true || !true)) (et_or (et_not (et_B (ev_whole (ea_cons (ev_var rfl) ea_nil)))) fun _ => et_or (et_not (et_B (ev_whole (ea_cons (ev_var rfl) ea_nil)))) fun _ => et_not (et_B (ev_whole (ea_cons (ev_var rfl) ea_nil)))) (fun hb H1 e1 => by cases hb) (fun hb H1 e1 => ?_)
    have hT1 := hT.mono e1
    have hjn := List.getElem?_eq_getElem hp
    obtain ⟨c1, c2, c3⟩ := cm_at hjn
    rw [c1] at hbc
    refine q_when (b := !(decide ((0 : Int) ≤ (p : Int)) && decide ((p : Int) < (js.length : Int))) || (!(decide ((0 : Int) ≤ b) && decide (b ≤ (js[p]).1)) || !decide (V.int (du js p) = V.int (js[p]).2.2))) (et_or (et_not (et_test (ev_chain ev_c (ev_var rfl) rv_I0 (fun _ => ev_lenT (ev_var rfl) hT1) fun _ => rv_I0))) fun _ => et_or (et_not (et_test (ev_chain ev_c (ev_var rfl) rv_I0 (fun _ => ev_field hjn (ev_var rfl) (ev_var rfl) hT1 ev_c (t3_0 _)) fun _ => rv_I0))) fun _ => et_test (ev_op (ev_var rfl) (ev_field hjn (ev_var rfl) (ev_var rfl) hT1 ev_c (t3_2 _)) (rv_ne rfl))) (fun hb H2 e2 => ?_) (fun hb H2 e2 => ?_)
    · rw [c3] at hb
      simp only [Bool.or_eq_true, Bool.not_eq_true', Bool.and_eq_false_iff, decide_eq_false_iff_not] at hb
      rcases hb with (hb | hb) | (hb | hb) | hb
      · exact absurd (Int.natCast_nonneg p) hb
      · omega
      · exact absurd hb0 hb
      · exact absurd hbc hb
      · exact absurd trivial hb
    refine s_ret (v := .bl (decide (du js p - b < loadJ js b (du js p)))) (ev_op (ev_load (ea_cons (ev_var rfl) (ea_cons (ev_var rfl) (ea_cons (ev_var rfl) ea_nil))) (hT1.mono e2) hl) (by walk_at "ev") rv_I0) fun H3 e3 => ?_
    rw [decide_eq_true hld]
    exact q H3 ((e1.trans e2).trans e3)
theorem ev_crowded {σ : St} {ta : TA} {E : XK} {a : Addr} {js : List T3} {p : Nat} {b : Int} (h : EvA ta σ H [.ref a, .int (p : Int), .int b, .int (du js p)]) (hT : TL H a js) (hl : js.length ≤ 60) (hp : p < js.length) (h0 : 0 ≤ b) (hc : b ≤ cm js p) (hd : du js p - b < loadJ js b (du js p)) : Ev (tCall spCrowded [] E ta) σ H (.bl true) :=
  ev_call h fun H1 e Q q E => ⟨a, js, p, b, rfl, hT.mono e, hl, hp, h0, hc, hd, q⟩
end
end DLL
namespace DLL
open PySem PySem.Spec PyProof.Rows L2 Evl DL
/-! ### what the list of the late ones tells -/
theorem mem_rows {js : List T3} {es : List Int} {n : Nat} {z : Int × Int} : z ∈ rowsUpto js es n ↔ ∃ k : Nat, k < n ∧ lateB js es k = true ∧ z = (du js k, (k : Int)) := by
  unfold rowsUpto
  rw [List.mem_map]
  constructor
  · rintro ⟨k, hk, rfl⟩
    obtain ⟨h1, h2⟩ := List.mem_filter.mp hk
    exact ⟨k, List.mem_range.mp h1, h2, rfl⟩
  · rintro ⟨k, h1, h2, rfl⟩
    exact ⟨k, List.mem_filter.mpr ⟨List.mem_range.mpr h1, h2⟩, rfl⟩
theorem lateB_iff {js : List T3} {es : List Int} {k : Nat} : lateB js es k = true ↔ du js k < es.getD k 0 := decide_eq_true_iff
theorem lateOk_nil {js : List T3} (S : Sound js) {L : List Int} (h : LateOk js (endsM js) L) : L = [] ↔ NoLate js (runM js) := by
  obtain ⟨zs, rfl, hp, _⟩ := h
  rw [noLate_ends S (run_ok S), List.map_eq_nil_iff]
  constructor
  · rintro rfl i hi
    refine Classical.byContradiction fun c => ?_
    have : (du js i, (i : Int)) ∈ ([] : List (Int × Int)) := hp.mem_iff.mpr (mem_rows.mpr ⟨i, hi, lateB_iff.mpr (by show _ < (endsAfter js.length (runM js)).getD i 0; omega), rfl⟩)
    simp at this
  · intro h
    cases zs with
    | nil => rfl
    | cons z r =>
      obtain ⟨k, h1, h2, _⟩ := mem_rows.mp (hp.mem_iff.mp List.mem_cons_self)
      have h3 := lateB_iff.mp h2
      have h4 := h k h1
      have h5 : du js k < (endsAfter js.length (runM js)).getD k 0 := h3
      omega
theorem lateOk_head {js : List T3} {x : Int} {r : List Int} (h : LateOk js (endsM js) (x :: r)) : ∃ p : Nat, x = (p : Int) ∧ Pick js p := by
  obtain ⟨zs, e, hp, hs⟩ := h
  cases zs with
  | nil => cases e
  | cons z s =>
    obtain ⟨k, h1, h2, rfl⟩ := mem_rows.mp (hp.mem_iff.mp List.mem_cons_self)
    rw [List.map_cons] at e
    refine ⟨k, (List.cons.inj e).1, h1, lateB_iff.mp h2, fun o ho hl => ?_⟩
    have hm := hp.mem_iff.mpr (mem_rows.mpr ⟨o, ho, lateB_iff.mpr hl, rfl⟩)
    rcases List.mem_cons.mp hm with q | q
    · have := (Prod.mk.inj q).2
      have : o = k := by omega
      subst this
      exact first_refl _ _
    · have := (List.pairwise_cons.mp hs).1 _ q
      unfold lexLe at this
      unfold first
      dsimp only at this
      omega
end DLL
namespace DLL
open PySem PySem.Spec PyProof.Rows L2 Evl DL
section
variable {P : Program} {w : World} {K : PySem.W.Frag} {mg : Str → Option Value} {base : Heap} {H : Hp}
def spBegin : Sp := fun vs H Q _ => ∃ (p pp : Addr) (js : List T3) (c : Nat), vs = [.ref p, .ref pp, .int (du js c)] ∧ TL H p js ∧ TL H pp (runM js) ∧ Sound js ∧ Pick js c ∧ ∀ H', Ex H H' → Q (.int (beginM js c)) H'
theorem ok_begin_of_stretch (T : TX K mg) : FnOk P w K mg base CX0 1 T.f_begin_of_stretch T.d_begin_of_stretch ["jobs", "pieces", "end"] spBegin := by
  refine T.h_begin_of_stretch.F.ok sc_begin_of_stretch (fun vs H Q E h => ?_) (fun cdv A outer s H vs Q E hr h => ?_)
  · obtain ⟨_, _, _, _, rfl, _⟩ := h
    rfl
  · obtain ⟨p, pp, js, c, rfl, hT, hP, hS, hp, q⟩ := h
    refine ⟨_, (pss_cons (ps_set (i := 3) sc_begin_of_stretch.nd rfl (.inl rfl) (pv 2))
  (pss_cons (ps_for PassesOwn.never rfl (pi_reversed (by rfl) T.b_reversed (pa_cons (pv 1) pa_nil)) (pg_tup rfl (pgs_cons (pg_name (i := 4) sc_begin_of_stretch.nd rfl (.inl rfl)) (pgs_cons (pg_name (i := 5) sc_begin_of_stretch.nd rfl (.inl rfl)) (pgs_cons (pg_name (i := 6) sc_begin_of_stretch.nd rfl (.inl rfl)) pgs_nil))))
    (pss_cons (ps_if (pt_cmpR op_ge (pv 5) (pv 2) (nomark _))
    (pss_one ps_continue)
    pss_nil)
  (pss_cons (ps_if (PW.pt (pw_or (pt_cmpR op_lt (pv 6) (pv 3) (nomark _)) (pw_or1 (pt_cmpR op_gt (pe_ix (r := rIxT K) ix_tup (pe_ix (r := rIxL K) ix_list (pv 0) (pv 4) (fun _ _ => rfl)) pe_int (fun _ _ => rfl)) (pv 2) (nomark _)))))
    (pss_one ps_break)
    pss_nil)
  (pss_one (ps_set (i := 3) sc_begin_of_stretch.nd rfl (.inl rfl) (pv 5))))))
  (pss_one (ps_ret (pv 3))))), ?_⟩
    have R := run_ok hS
    obtain ⟨M, z, L⟩ := late_of_end hS R hp.1 hp.2.1
    obtain ⟨m, x, hm, hx, hxb, hxe, hxd⟩ := cover hS R.way L
    have fin : ∀ b H', Ex H H' → (∃ (k : Nat) (r : T3), (runM js)[k]? = some r ∧ r.2.1 = b ∧ Bk js (runM js) (du js c) k m) → Q (.int b) H' := fun b H' e I => by
      obtain ⟨k, r, hr, hb, B⟩ := I
      have := beginM_of hS (p := c) (b := b) ⟨k, m, x, r, hx, hxb, hxe, B, hr, hb⟩
      rw [← this]
      exact q H' e
    clear q
    generalize hps : runM js = ps at *
    have hml : m < ps.length := (List.getElem?_eq_some_iff.mp hx).1
    refine q_asg (ev_var rfl) fun H1 e1 => ?_
    -- what is left is the return
    refine q_forRvTL (ea_cons (ev_var rfl) ea_nil) (hP.mono e1) (fun i σ' H' => ∃ (b : Int) (x4 x5 x6 : Option V), σ' = [some (.ref p), some (.ref pp), some (.int (du js c)), some (.int b), x4, x5, x6] ∧ Ex H H' ∧ Rv js ps (du js c) m (ps.length - i) b)
      (fun H3 e3 => ⟨_, none, none, none, rfl, e1.trans e3, .inl ⟨by omega, rfl⟩⟩) (fun i σ' H' ⟨_, _, _, _, _, e, _⟩ => hP.mono e) ?_ ?_
    · rintro i y t σ' H' hi hy ht ⟨b, x4, x5, x6, rfl, eH, I⟩
      obtain ⟨k, hk⟩ : ∃ k, k = ps.length - 1 - i := ⟨_, rfl⟩
      rw [← hk] at hy
      have hk1 : ps.length - (i + 1) = k := by omega
      rw [show ps.length - i = k + 1 by omega] at I
      have O := R.way k y hy
      have hskip := fun hq => Rv.skip R.way hx hxb hxe I hy hq
      have hstep := fun hq => Rv.step R.way hx hxb hxe I hy hq
      have hstop := fun hq => Rv.stop R.way hx hxb hxe hxd I hy hq
      obtain ⟨pl, s, e⟩ := y
      obtain ⟨n, rfl⟩ : ∃ n : Nat, pl = (n : Int) := ⟨pl.toNat, by have := O.p0; dsimp only at this; omega⟩
      have hn : n < js.length := by have := O.pn; dsimp only at this; rw [Int.toNat_natCast] at this; exact this
      have hjn := List.getElem?_eq_getElem hn
      have c3 := (cm_at hjn).2.2
      dsimp only at hskip hstep hstop
      rw [Int.toNat_natCast] at hstep hstop
      refine g_three ht ?_
      refine q_when (b := decide (du js c ≤ s)) (by walk_at "evt") (fun hb H3 e3 => ?_) (fun hb H3 e3 => ?_)
      · exact ⟨b, _, _, _, rfl, eH.trans e3, by rw [hk1]; exact hskip (of_decide_eq_true hb)⟩
      · have hb := of_decide_eq_false hb
        have hT3 := hT.mono (eH.trans e3)
        refine q_when (b := decide (e < b) || decide (du js c < (js[n]).2.2)) (et_or (by walk_at "evt") fun _ => et_test (ev_op (ev_field hjn (ev_var rfl) (ev_var rfl) hT3 ev_c (t3_2 _)) (ev_var rfl) rv_I0)) (fun hc H4 e4 => ?_) (fun hc H4 e4 => ?_)
        · refine s_ret (ev_var rfl) fun H5 e5 => fin b H5 (((eH.trans e3).trans e4).trans e5) (hstop hb ?_)
          rw [c3]
          simpa using hc
        · rw [Bool.or_eq_false_iff] at hc
          refine s_asg (ev_var rfl) fun H5 e5 => ⟨s, _, _, _, rfl, ((eH.trans e3).trans e4).trans e5, ?_⟩
          rw [hk1]
          exact hstep hb (of_decide_eq_false hc.1) (by rw [c3]; exact of_decide_eq_false hc.2)
    · rintro σ' H' ⟨b, x4, x5, x6, rfl, eH, I⟩
      rw [Nat.sub_self] at I
      exact s_ret (ev_var rfl) fun H3 e3 => fin b H3 (eH.trans e3) I.first
theorem ev_begin {σ : St} {ta : TA} {E : XK} {p pp : Addr} {js : List T3} {c : Nat} (h : EvA ta σ H [.ref p, .ref pp, .int (du js c)]) (hT : TL H p js) (hP : TL H pp (runM js)) (hS : Sound js) (hp : Pick js c) : Ev (tCall spBegin [] E ta) σ H (.int (beginM js c)) :=
  ev_call h fun H1 e Q q E => ⟨p, pp, js, c, rfl, hT.mono e, hP.mono e, hS, hp, q⟩
def spAnswer : Sp := fun vs H Q _ => ∃ (p : Addr) (js : List T3), vs = [.ref p] ∧ TL H p js ∧ js.length ≤ 60 ∧ Sound js ∧ ∀ t H', H t = none → Ex H H' → AnsV H' t js → Q (.ref t) H'
theorem ok_answer (T : TX K mg) : FnOk P w K mg base CX0 6 T.f_answer T.d_answer ["jobs"] spAnswer := by
  refine T.h_answer.F.ok sc_answer (fun vs H Q E h => ?_) (fun cdv A outer s H vs Q E hr h => ?_)
  · obtain ⟨_, _, rfl, _⟩ := h
    rfl
  · obtain ⟨p, js, rfl, hT, hl, hS, q⟩ := h
    refine ⟨_, (pss_cons (ps_set (i := 1) sc_answer.nd rfl (.inl rfl) (pe_call (ok_late T) (hr.mono (by decide)) (by rfl) T.h_late.g T.h_late.F.kp T.h_late.b .nil pass0 (pa_cons (pv 0) pa_nil)))
  (pss_cons (ps_set (i := 2) sc_answer.nd rfl (.inl rfl) (pe_call (ok_run T) (hr.mono (by decide)) (by rfl) T.h_run.g T.h_run.F.kp T.h_run.b .nil pass0 (pa_cons (pv 0) pa_nil)))
  (pss_cons (ps_if (pt_not (pt_truth (pv 1) (by intro _; rfl)))
    (pss_one (ps_ret (pe_tup (pa_cons pe_str (pa_cons (pv 2) pa_nil)))))
    pss_nil)
  (pss_cons (ps_set (i := 3) sc_answer.nd rfl (.inl rfl) (pe_ix (r := rIxL K) ix_list (pv 1) pe_int (fun _ _ => rfl)))
  (pss_cons (ps_set (i := 4) sc_answer.nd rfl (.inl rfl) (pe_ix (r := rIxT K) ix_tup (pe_ix (r := rIxL K) ix_list (pv 0) (pv 3) (fun _ _ => rfl)) pe_int (fun _ _ => rfl)))
  (pss_one (ps_ret (pe_tup (pa_cons pe_str (pa_cons (pv 3) (pa_cons (pe_call (ok_begin_of_stretch T) (hr.mono (by decide)) (by rfl) T.h_begin_of_stretch.g T.h_begin_of_stretch.F.kp T.h_begin_of_stretch.b .nil pass0 (pa_cons (pv 0) (pa_cons (pv 2) (pa_cons (pv 4) pa_nil)))) (pa_cons (pv 4) pa_nil)))))))))))), ?_⟩
    refine q_asgC (ea_cons (ev_var rfl) ea_nil) fun H1 e1 => ⟨p, js, rfl, hT.mono e1, hl, hS, fun pl H2 L nl e2 hL2 hLt => ?_⟩
    refine q_asgTL (etl_runR (ea_cons (ev_var rfl) ea_nil) ((hT.mono e1).mono e2) hl hS) fun pp H3 np e3 hP => ?_
    have hL := hL2.mono e3
    have e13 := (e1.trans e2).trans e3
    refine q_when (b := !(!L.isEmpty)) (et_not (et_truI (ev_var rfl) hL)) (fun hb H4 e4 => ?_) (fun hb H4 e4 => ?_)
    · have hn : L = [] := by simpa using hb
      have N := (lateOk_nil hS hLt).mp hn
      refine s_retU (eu_tup (ea_cons ev_c (ea_cons (ev_var rfl) ea_nil)) (show 2 ≤ 100000 by decide)) fun t H5 nt e5 ht => q t H5 (fresh_back (e13.trans e4) nt) ((e13.trans e4).trans e5) (.inl ⟨N, pp, ht, (hP.mono e4).mono e5⟩)
    · cases L with
      | nil => simp at hb
      | cons c0 r =>
        have hnn : ¬ NoLate js (runM js) := fun N => by
          have := (lateOk_nil hS hLt).mpr N
          cases this
        obtain ⟨c, rfl, hp⟩ := lateOk_head hLt
        have hL4 := hL.mono e4
        have hT4 := hT.mono (e13.trans e4)
        have hjn := List.getElem?_eq_getElem hp.1
        have c3 := (cm_at hjn).2.2
        refine q_asg (v := .int (c : Int)) (ev_is (ev_ixI (i := 0) (ev_var rfl) ev_c hL4 (Nat.zero_lt_succ _)) rfl) fun H5 e5 => ?_
        refine q_asg (v := .int (du js c)) (ev_is (ev_field hjn (ev_var rfl) (ev_var rfl) (hT4.mono e5) ev_c (t3_2 _)) (congrArg V.int c3.symm)) fun H6 e6 => ?_
        have e46 := (e4.trans e5).trans e6
        have hP6 := hP.mono e46
        exact s_retU (eu_tup (ea_cons ev_c (ea_cons (ev_var rfl) (ea_cons (ev_begin (ea_cons (ev_var rfl) (ea_cons (ev_var rfl) (ea_cons (ev_var rfl) ea_nil))) ((hT4.mono e5).mono e6) hP6 hS hp) (ea_cons (ev_var rfl) ea_nil)))) (show 4 ≤ 100000 by decide)) fun t H7 nt e7 ht => q t H7 (fresh_back (e13.trans e46) nt) ((e13.trans e46).trans e7) (.inr ⟨hnn, c, ht, hp⟩)
end
end DLL
namespace DLL
open PySem PySem.Spec PyProof.Rows L2 Evl DL
/-! ### how much later the dues must be -/
def needUpto (js : List T3) (i : Nat) : Int := lmax 0 ((List.range i).map fun k => (endsM js).getD k 0 - du js k)
def needM (js : List T3) : Int := needUpto js js.length
theorem needUpto_step (js : List T3) (i : Nat) : needUpto js (i + 1) = max (needUpto js i) ((endsM js).getD i 0 - du js i) := by
  unfold needUpto lmax
  rw [List.range_succ, List.map_append, List.foldl_append]
  rfl
theorem needM_nn (js : List T3) : 0 ≤ needM js := (lmax_ge _ _).1
theorem needM_ge {js : List T3} {i : Nat} (h : i < js.length) : (endsM js).getD i 0 ≤ du js i + needM js := by
  have := (lmax_ge ((List.range js.length).map fun k => (endsM js).getD k 0 - du js k) 0).2 _ (List.mem_map.mpr ⟨i, List.mem_range.mpr h, rfl⟩)
  unfold needM needUpto
  omega
theorem needM_at (js : List T3) : needM js = 0 ∨ ∃ i, i < js.length ∧ (endsM js).getD i 0 = du js i + needM js := by
  rcases lmax_mem ((List.range js.length).map fun k => (endsM js).getD k 0 - du js k) 0 with h | h
  · exact .inl h
  · obtain ⟨i, hi, e⟩ := List.mem_map.mp h
    refine .inr ⟨i, List.mem_range.mp hi, ?_⟩
    unfold needM needUpto
    rw [← e]
    omega
theorem need_plan {js : List T3} (S : Sound js) : NoLate (shiftJs js (needM js)) (runM (shiftJs js (needM js))) := by
  rw [runM_shift, noLate_shift S]
  exact fun i hi => needM_ge hi
theorem need_late {js : List T3} (S : Sound js) (h : needM js ≠ 0) : ¬ NoLate (shiftJs js (needM js - 1)) (runM (shiftJs js (needM js - 1))) := by
  rw [runM_shift, noLate_shift S]
  intro z
  rcases needM_at js with c | ⟨i, hi, e⟩
  · exact h c
  · have := z i hi
    omega
theorem AnsV.plan {H : Hp} {t : Addr} {js : List T3} (h : AnsV H t js) (N : NoLate js (runM js)) : ∃ pp, H t = some (.tup [.str "plan", .ref pp]) ∧ TL H pp (runM js) := by
  rcases h with ⟨_, h⟩ | ⟨n, _⟩
  · exact h
  · exact absurd N n
theorem AnsV.late {H : Hp} {t : Addr} {js : List T3} (h : AnsV H t js) (N : ¬ NoLate js (runM js)) : ∃ p : Nat, H t = some (.tup [.str "late", .int (p : Int), .int (beginM js p), .int (du js p)]) ∧ Pick js p := by
  rcases h with ⟨n, _⟩ | ⟨_, h⟩
  · exact absurd n N
  · exact h
section
variable {σ : St} {H : Hp} {D : Ends} {te : TE} {tz : TS}
/-- a name for the answer of a call whose one argument is a new list -/
theorem s_asgCX {i : Nat} {sp : Sp} {E : XK} {js : List T3} (h : EvTL te σ H js) (k : ∀ p H1, H p = none → Ex H H1 → TL H1 p js → sp [.ref p] H1 (fun x H2 => D.nx (σ.set i (some x)) H2) E) : tAsg (tCall sp [] E (tCons te tNil)) (gName i) D σ H :=
  h H (Ex.refl H) _ fun p H1 np e1 h1 => k p H1 np e1 h1
theorem q_asgCX {i : Nat} {sp : Sp} {E : XK} {js : List T3} (h : EvTL te σ H js) (k : ∀ p H1, H p = none → Ex H H1 → TL H1 p js → sp [.ref p] H1 (fun x H2 => tz D (σ.set i (some x)) H2) E) : tSeq (tAsg (tCall sp [] E (tCons te tNil)) (gName i)) tz D σ H :=
  s_asgCX (D := { D with nx := tz D }) h k
end
section
variable {P : Program} {w : World} {K : PySem.W.Frag} {mg : Str → Option Value} {base : Heap} {H : Hp}
end
end DLL
namespace DLL
open PySem PySem.Spec PyProof.Rows L2 Evl DL
section
variable {P : Program} {w : World} {K : PySem.W.Frag} {mg : Str → Option Value} {base : Heap} {H : Hp}
/-! ### what room refuses, and how that is told -/
def Kind (K : PySem.W.Frag) (H : Hp) (x : V) : Prop := ∃ T, SmallTy T ∧ TyB K H x T
theorem Kind.mono {H H' : Hp} {x : V} (e : Ex H H') (h : Kind K H x) : Kind K H' x := by
  obtain ⟨T, h1, h2⟩ := h
  exact ⟨T, h1, TyB.mono e h2⟩
theorem kind_int (n : Int) : Kind K H (.int n) := ⟨"int", st_int, .int n⟩
def spRoomX (T : TX K mg) : Sp := fun vs H _ E => ∃ (p : Addr) (x y : V), vs = [.ref p, x, y] ∧
  ((∃ cls, Refused K T H p cls ∧ ∀ H', Ex H H' → E cls none H') ∨
   (∃ js, TL H p js ∧ js.length ≤ 60 ∧ Sound js ∧ Kind K H x ∧ Kind K H y ∧ thB (tripOf [x, .int 1, y]) = false ∧ ∀ H', Ex H H' → E (.ref T.c_BadJob) none H'))
theorem refused_many {T : TX K mg} {p : Addr} {js : List T3} (hT : TL H p js) (h : 60 < js.length) (hl : js.length ≤ 1000) : Refused K T H p (.ref T.c_TooMany) := by
  obtain ⟨ts, h1, h2⟩ := hT
  have hn : (ts.map V.ref).length = js.length := by rw [List.length_map, h2.len]
  exact ⟨_, _, SqL.of h1, things_of h2, by omega, .inl ⟨by omega, rfl⟩⟩
def spTold : Sp := fun vs H Q _ => ∃ (p : Addr) (js : List T3) (x y : V), vs = [.ref p, x, y] ∧ TL H p js ∧
  ((60 < js.length ∧ js.length ≤ 1000 ∧ ∀ H', Ex H H' → Q (.str "many") H') ∨
   (js.length ≤ 60 ∧ Sound js ∧ Kind K H x ∧ Kind K H y ∧ thB (tripOf [x, .int 1, y]) = false ∧ ∀ H', Ex H H' → Q (.str "job") H'))
end
end DLL
namespace DLL
open PySem PySem.Spec PyProof.Rows L2 Evl DL
/-! ### the book -/
theorem runM_nil : runM [] = [] := rfl
theorem noLate_nil (js : List T3) : NoLate js [] := fun i q h => by simp at h
theorem sum_sub {xs ys : List Int} (h : xs.Sublist ys) (hn : ∀ y ∈ ys, 0 ≤ y) : xs.sum ≤ ys.sum := by
  induction h with
  | slnil => exact Int.le_refl _
  | @cons l1 l2 a _ ih =>
    rw [List.sum_cons]
    have := ih fun y hy => hn y (List.mem_cons_of_mem _ hy)
    have := hn a List.mem_cons_self
    omega
  | @cons_cons l1 l2 a _ ih =>
    rw [List.sum_cons, List.sum_cons]
    have := ih fun y hy => hn y (List.mem_cons_of_mem _ hy)
    omega
theorem load_sub {xs ys : List T3} (h : xs.Sublist ys) (S : Sound ys) (b e : Int) : loadJ xs b e ≤ loadJ ys b e := by
  unfold loadJ
  refine sum_sub ((h.filter _).map _) fun y hy => ?_
  obtain ⟨j, hj, rfl⟩ := List.mem_map.mp hy
  have := (S j (List.mem_filter.mp hj).1).2.1
  omega
theorem sound_sub {xs ys : List T3} (h : xs.Sublist ys) (S : Sound ys) : Sound xs := fun j hj => S j (h.subset hj)
theorem noLate_sub {xs ys : List T3} (h : xs.Sublist ys) (S : Sound ys) (N : NoLate ys (runM ys)) : NoLate xs (runM xs) := by
  have S2 := sound_sub h S
  rw [noLate_iff S2 (run_ok S2)]
  intro b e hbe
  have := load_sub h S b e
  have := load_le (run_ok S) N hbe
  omega
theorem tps_erase {H : Hp} {ts : List Addr} {js : List T3} (h : Tps H ts js) (i : Nat) : Tps H (ts.eraseIdx i) (js.eraseIdx i) := by
  rw [List.eraseIdx_eq_take_drop_succ, List.eraseIdx_eq_take_drop_succ]
  exact (h.take i).append (h.drop (i + 1))
section
variable {P : Program} {w : World} {K : PySem.W.Frag} {mg : Str → Option Value} {base : Heap} {H : Hp}
def spInitB (C : Addr) : Sp := fun vs H Q _ => ∃ (p dx : Addr), vs = [.ref p] ∧ H p = some (.ins C dx []) ∧ ∀ l H', H l = none → H' p = some (.ins C dx (jf l)) → H' l = some (.lst []) → (∀ b o, b ≠ p → H b = some o → H' b = some o) → Q .non H'
theorem ok_Book___init__ (T : TX K mg) : FnOk P w K mg base CX0 1 T.f_Book___init__ T.d_Book___init__ ["self"] (spInitB T.c_Book) := by
  refine T.h_Book___init__.F.ok sc_Book___init__ (fun vs H Q E h => ?_) (fun cdv A outer s H vs Q E hr h => ?_)
  · obtain ⟨_, _, rfl, _⟩ := h
    rfl
  · obtain ⟨p, dx, rfl, hp, q⟩ := h
    refine ⟨_, (pss_one (ps_fld (pv 0) (pe_lst pa_nil) rfl)), ?_⟩
    refine ⟨sz_of (show 0 ≤ 100000 by decide), fun l nl => ?_⟩
    have ne : p ≠ l := ne_of_none hp nl
    refine ⟨_, rfl, p, T.c_Book, dx, [], rfl, by rw [upd_ne ne]; exact hp, T.cl_Book, T.na_Book__jobs, (by show 0 < 1000; decide), ?_⟩
    refine q l _ nl upd_same (by rw [upd_ne ne.symm]; exact upd_same) fun b o hb e => ?_
    rw [upd_ne hb, upd_ne (ne_of_none e nl)]
    exact e
/-- a new book -/
def EvB (C : Addr) (te : TE) (σ : St) (H : Hp) : Prop := ∀ H1, Ex H H1 → ∀ Q : VK, (∀ b l H2, H1 b = none → H1 l = none → Ex H1 H2 → BookAt C H2 b l [] → Q (.ref b) H2) → te σ H1 Q
theorem eb_make {σ : St} {C : Addr} {E : XK} : EvB C (tMake C (spInitB C) [] E tNil) σ H := fun H1 e Q k => by
  intro x dx nx ndx ne
  refine ⟨x, dx, rfl, upd_same, fun l H' nl h1 h2 h3 => ⟨rfl, ?_⟩⟩
  have nlx : l ≠ x := fun z => by rw [z, upd_same] at nl; cases nl
  have nld : l ≠ dx := fun z => by rw [z, upd_ne ne, upd_same] at nl; cases nl
  have nl0 : H1 l = none := by rw [upd_ne nlx, upd_ne nld] at nl; exact nl
  refine k x l H' nx nl0 (fun b o hb => h3 b o (ne_of_none hb nx) ?_) ⟨⟨dx, h1⟩, ⟨[], h2, .nil⟩, Nat.zero_le _, fun j hj => absurd hj List.not_mem_nil, noLate_nil _⟩
  rw [upd_ne (ne_of_none hb nx), upd_ne (ne_of_none hb ndx)]
  exact hb
def spListed (C : Addr) : Sp := fun vs H Q _ => ∃ (b l : Addr) (js : List T3), vs = [.ref b] ∧ BookAt C H b l js ∧ ∀ q H', H q = none → Ex H H' → TL H' q js → Q (.ref q) H'
theorem ok_Book_listed (T : TX K mg) : FnOk P w K mg base CX0 1 T.f_Book_listed T.d_Book_listed ["self"] (spListed T.c_Book) := by
  refine T.h_Book_listed.F.ok sc_Book_listed (fun vs H Q E h => ?_) (fun cdv A outer s H vs Q E hr h => ?_)
  · obtain ⟨_, _, _, rfl, _⟩ := h
    rfl
  · obtain ⟨b, l, js, rfl, hB, q⟩ := h
    refine ⟨_, (pss_one (ps_ret (pe_callTy (T := "list") (r := Evl.rListS K) call_list_of (by rfl) T.b_list (by decide +kernel) (pa_cons (pe_fld (pv 0) rfl) pa_nil)))), ?_⟩
    exact s_retTL (etl_list (ev_fldB T.cl_Book T.na_Book__jobs (ev_var rfl) hB) hB.tl) fun d H1 nd e1 hd => q d H1 nd e1 hd
def spPlan (C : Addr) : Sp := fun vs H Q _ => ∃ (b l : Addr) (js : List T3), vs = [.ref b] ∧ BookAt C H b l js ∧ ∀ q H', H q = none → Ex H H' → TL H' q (runM js) → Q (.ref q) H'
theorem ok_Book_plan (T : TX K mg) : FnOk P w K mg base CX0 4 T.f_Book_plan T.d_Book_plan ["self"] (spPlan T.c_Book) := by
  refine T.h_Book_plan.F.ok sc_Book_plan (fun vs H Q E h => ?_) (fun cdv A outer s H vs Q E hr h => ?_)
  · obtain ⟨_, _, _, rfl, _⟩ := h
    rfl
  · obtain ⟨b, l, js, rfl, hB, q⟩ := h
    refine ⟨_, (pss_one (ps_ret (pe_call (ok_run T) (hr.mono (by decide)) (by rfl) T.h_run.g T.h_run.F.kp T.h_run.b .nil pass0 (pa_cons (pe_fld (pv 0) rfl) pa_nil)))), ?_⟩
    exact s_retTL (etl_runR (ea_cons (ev_fldB T.cl_Book T.na_Book__jobs (ev_var rfl) hB) ea_nil) hB.tl hB.len hB.snd) fun d H1 nd e1 hd => q d H1 nd e1 hd
theorem etl_listed {σ : St} {te : TE} {E : XK} {C b l : Addr} {js : List T3} (h : Ev te σ H (.ref b)) (hB : BookAt C H b l js) : EvTL (tMeth C "listed" (spListed C) [] E te tNil) σ H js := fun H1 e Q k =>
  r_meth (by decide) (h.mono e) (hB.mono e) ea_nil fun H2 e2 => ⟨b, l, js, rfl, hB.mono (e.trans e2), fun q H' nq e3 hq => k q H' (fresh_back e2 nq) (e2.trans e3) hq⟩
theorem etl_plan {σ : St} {te : TE} {E : XK} {C b l : Addr} {js : List T3} (h : Ev te σ H (.ref b)) (hB : BookAt C H b l js) : EvTL (tMeth C "plan" (spPlan C) [] E te tNil) σ H (runM js) := fun H1 e Q k =>
  r_meth (by decide) (h.mono e) (hB.mono e) ea_nil fun H2 e2 => ⟨b, l, js, rfl, hB.mono (e.trans e2), fun q H' nq e3 hq => k q H' (fresh_back e2 nq) (e2.trans e3) hq⟩
/-! ### one job more, one less -/
def spTake (C : Addr) : Sp := fun vs H Q _ => ∃ (b t l : Addr) (js : List T3) (j : T3), vs = [.ref b, .ref t] ∧ BookAt C H b l js ∧ AtT H t j ∧ SoundJ j ∧ js.length < 60 ∧
  (NoLate (js ++ [j]) (runM (js ++ [j])) → ∀ H', Mod l H H' → BookAt C H' b l (js ++ [j]) → Q .non H') ∧
  (¬ NoLate (js ++ [j]) (runM (js ++ [j])) → ∀ (u : Addr) (p : Nat) H', H u = none → Ex H H' → H' u = some (.tup [.int (p : Int), .int (beginM (js ++ [j]) p), .int (du (js ++ [j]) p)]) → Pick (js ++ [j]) p → Q (.ref u) H')
theorem eu_tail {σ : St} {te ti : TE} {t : Addr} {x y : V} {xs : List V} (h : Ev te σ H (.ref t)) (hi : Ev ti σ H (.int 1)) (ht : H t = some (.tup (x :: y :: xs))) : EvU (tSl (rSlT K) te (tPart ti) tNoPart) σ H (y :: xs) := fun H1 e Q k =>
  h H1 e _ fun H2 e2 => eo_some hi H2 (e.trans e2) _ fun H3 e3 => eo_none (H := H) H3 ((e.trans e2).trans e3) _ fun H4 e4 => by
    have e24 := (e2.trans e3).trans e4
    refine ⟨t, _, rfl, SqT.of (e24 _ _ (e _ _ ht)), fun z => ?_, fun p np => ?_⟩
    · have := z.1
      rw [show HT.sIx (x :: y :: xs).length 0 (some (1 : Int)) = 1 from by rw [show (1 : Int) = ((1 : Nat) : Int) from rfl, HT.sIx_nat]; show min 1 (xs.length + 1 + 1) = 1; omega] at this
      cases this
    · refine k p _ (fresh_back e24 np) (e24.trans (Ex.new np)) ?_
      rw [upd_same]
      congr 2
      exact cut_drop (x :: y :: xs) 1
theorem q_appR {σ : St} {D : Ends} {tz : TS} {ta te : TE} {l t : Addr} {js : List T3} {j : T3} (hl : TL H l js) (ha : Ev ta σ H (.ref l)) (h : Ev te σ H (.ref t)) (ht : AtT H t j) (hz : js.length < 100000) (k : ∀ H1, Mod l H H1 → TL H1 l (js ++ [j]) → tz D σ H1) :
    tSeq (tDrop (tBM K "list" rAppend ta (tCons te tNil))) tz D σ H := by
  obtain ⟨ts, h1, h2⟩ := hl
  refine q_app (K := K) h1 ha h (by rw [List.length_map, h2.len]; exact hz) fun H1 e1 => ?_
  have m : Mod l H (upd H1 l (.lst (ts.map V.ref ++ [.ref t]))) := (Mod.ex e1).trans (Mod.upd (e1 _ _ h1))
  refine k _ m ⟨ts ++ [t], ?_, (m.tps h2).append (.cons (m.tup _ _ ht) .nil)⟩
  rw [upd_same, List.map_append]
  rfl
theorem ok_Book_take (T : TX K mg) : FnOk P w K mg base CX0 7 T.f_Book_take T.d_Book_take ["self", "job"] (spTake T.c_Book) := by
  refine T.h_Book_take.F.ok sc_Book_take (fun vs H Q E h => ?_) (fun cdv A outer s H vs Q E hr h => ?_)
  · obtain ⟨_, _, _, _, _, rfl, _⟩ := h
    rfl
  · obtain ⟨b, t, l, js, j, rfl, hB, ht, hj, hlt, q1, q2⟩ := h
    refine ⟨_, (pss_cons (ps_if (pt_not (pt_val (pe_call (ok_sound T) (hr.mono (by decide)) (by rfl) T.h_sound.g T.h_sound.F.kp T.h_sound.b .nil pass0 (pa_cons (pv 1) pa_nil))))
    (pss_one ps_never)
    pss_nil)
  (pss_cons (ps_if (pt_cmpR op_ge (pe_callB (id := "len") (r := Evl.rLenS K) call_len_seq (by rfl) T.b_len PySem.boot_len (pa_cons (pe_fld (pv 0) rfl) pa_nil)) (pe_glob (v := .int 60) (by rfl) T.c_LIMIT ⟨_, rfl⟩) (nomark _))
    (pss_one ps_never)
    pss_nil)
  (pss_cons (ps_set (i := 2) sc_Book_take.nd rfl (.inl rfl) (pe_call (ok_answer T) (hr.mono (by decide)) (by rfl) T.h_answer.g T.h_answer.F.kp T.h_answer.b .nil pass0 (pa_cons (pe_op op_cat (pe_fld (pv 0) rfl) (pe_lst (pa_cons (pv 1) pa_nil))) pa_nil)))
  (pss_cons (ps_if (pt_cmpR op_eq (pe_ix (r := rIxT K) ix_tup (pv 2) pe_int (fun _ _ => rfl)) pe_str (nomark _))
    (pss_one (ps_ret (pe_slice (r := rSlT K) sl_tup (pv 2) (po_some pe_int) po_none)))
    pss_nil)
  (pss_cons (ps_expr (pe_bm PySem.F.plainAttrs_list PySem.F.slot_list_append PySem.F.type_list_append mt_append (pe_fld (pv 0) rfl) (pa_cons (pv 1) pa_nil)))
  (pss_one (ps_ret pe_non))))))), ?_⟩
    have hsd : soundB j = true := soundB_iff.mpr hj
    refine q_when (b := !soundB j) (et_not (et_B (ev_sound (ea_cons (ev_var rfl) ea_nil) ht))) (fun hb H1 e1 => by rw [hsd] at hb; cases hb) (fun hb H1 e1 => ?_)
    have hB1 := hB.mono e1
    refine q_when (b := decide ((60 : Int) ≤ (js.length : Int))) (et_test (ev_op (ev_lenT (ev_fldB T.cl_Book T.na_Book__jobs (ev_var rfl) hB1) hB1.tl) ev_c rv_I0)) (fun hb H2 e2 => by have := of_decide_eq_true hb; omega) (fun hb H2 e2 => ?_)
    have hB2 := hB1.mono e2
    have ht2 := e2 _ _ (e1 _ _ ht)
    have hSd : Sound (js ++ [j]) := fun x hx => by
      rcases List.mem_append.mp hx with z | z
      · exact hB.snd x z
      · rw [List.mem_singleton.mp z]; exact hj
    have hln : (js ++ [j]).length ≤ 60 := by rw [List.length_append, List.length_singleton]; omega
    refine q_asgCX (etl_catV (ev_fldB T.cl_Book T.na_Book__jobs (ev_var rfl) hB2) hB2.tl (etl_oneR (ev_var rfl) ht2) (by show _ + 1 ≤ _; omega)) fun p H3 np e3 hp => ⟨p, _, rfl, hp, hln, hSd, fun u H4 nu e4 hA => ?_⟩
    have e14 := ((e1.trans e2).trans e3).trans e4
    by_cases N : NoLate (js ++ [j]) (runM (js ++ [j]))
    · obtain ⟨pp, hu, _⟩ := hA.plan N
      have hne : decide (V.str "plan" = V.str "late") = false := decide_eq_false (by intro z; injection z with z; exact absurd z (by decide))
      refine q_when (b := decide (V.str "plan" = V.str "late")) (et_test (ev_op (ev_op (ev_var rfl) ev_c (rv_ixT (SqT.of hu) (atI_nat (j := 0) rfl))) ev_c (rv_eq rfl))) (fun hb H5 e5 => by rw [hne] at hb; cases hb) (fun hb H5 e5 => ?_)
      have hB5 := hB.mono (e14.trans e5)
      refine q_appR hB5.tl (ev_fldB T.cl_Book T.na_Book__jobs (ev_var rfl) hB5) (ev_var rfl) (e5 _ _ (e4 _ _ (e3 _ _ ht2))) (by omega) fun H6 m hT => ?_
      have mH : Mod l H H6 := (Mod.ex (e14.trans e5)).trans m
      refine q1 N _ mH ⟨?_, hT, hln, hSd, N⟩
      obtain ⟨dx, hd⟩ := hB.ob
      obtain ⟨xs, hl⟩ : ∃ xs, H l = some (.lst xs) := by obtain ⟨us, h1, _⟩ := hB.tl; exact ⟨_, h1⟩
      exact ⟨dx, mH.but _ _ (ne_of hd hl (by intro z; cases z)) hd⟩
    · obtain ⟨c, hu, hpk⟩ := hA.late N
      have hye : decide (V.str "late" = V.str "late") = true := decide_eq_true rfl
      refine q_when (b := decide (V.str "late" = V.str "late")) (et_test (ev_op (ev_op (ev_var rfl) ev_c (rv_ixT (SqT.of hu) (atI_nat (j := 0) rfl))) ev_c (rv_eq rfl))) (fun hb H5 e5 => ?_) (fun hb H5 e5 => by rw [hye] at hb; cases hb)
      exact s_retU (eu_tail (K := K) (ev_var rfl) ev_c (e5 _ _ hu)) fun v H6 nv e6 hv => q2 N v c H6 (fresh_back (e14.trans e5) nv) ((e14.trans e5).trans e6) hv hpk
def spTakeX (T : TX K mg) : Sp := fun vs H _ E => ∃ (b l : Addr) (x : V) (js : List T3) (r : Option T3), vs = [.ref b, x] ∧ BookAt T.c_Book H b l js ∧ ThingV K H x r ∧
  ((thB r = false ∧ ∀ H', Ex H H' → E (.ref T.c_BadJob) none H') ∨ (thB r = true ∧ 60 ≤ js.length ∧ ∀ H', Ex H H' → E (.ref T.c_TooMany) none H'))
theorem okx_Book_take (T : TX K mg) : FnOk P w K mg base (L2.CX P w) 7 T.f_Book_take T.d_Book_take ["self", "job"] (spTakeX T) := by
  refine T.h_Book_take.F.okX sc_Book_take (fun vs H Q E h => ?_) (fun cdv A outer s H vs Q E hr h => ?_)
  · obtain ⟨_, _, _, _, _, rfl, _⟩ := h
    rfl
  · obtain ⟨b, l, x, js, r, rfl, hB, hx, hc⟩ := h
    refine ⟨_, (pss_cons (ps_if (pt_not (pt_val (pe_call (okg_sound T) (hr.mono (by decide)) (by rfl) T.h_sound.g T.h_sound.F.kp T.h_sound.b .nil pass0 (pa_cons (pv 1) pa_nil))))
    (pss_one (ps_raise rfl (takes_of rfl rfl rfl rfl) (pmk_own PySem.F.excBase_ValueError T.x_BadJob T.g_BadJob T.k_BadJob (raises_own T.s_BadJob T.t_BadJob) (by exact rfl))))
    pss_nil)
  (pss_cons (ps_if (pt_cmpR op_ge (pe_callB (id := "len") (r := Evl.rLenS K) call_len_seq (by rfl) T.b_len PySem.boot_len (pa_cons (pe_fld (pv 0) rfl) pa_nil)) (pe_glob (v := .int 60) (by rfl) T.c_LIMIT ⟨_, rfl⟩) (nomark _))
    (pss_one (ps_raise rfl (takes_of rfl rfl rfl rfl) (SkE.pmk_own1 PySem.F.excBase_ValueError T.x_TooMany T.g_TooMany T.k_TooMany (raises_own T.s_TooMany T.t_TooMany) (by exact rfl) (pe_joined (.cons pe_str (.cons (pe_fmt (pe_glob (v := .int 60) (by rfl) T.c_LIMIT ⟨_, rfl⟩)) (.cons pe_str .nil)))))))
    pss_nil)
  pss_never)), ?_⟩
    refine q_when (b := !thB r) (et_not (et_B (ev_soundG (ea_cons (ev_var rfl) ea_nil) hx))) (fun hb H1 e1 => ?_) (fun hb H1 e1 => ?_)
    · rcases hc with ⟨_, q⟩ | ⟨z, _⟩
      · exact q H1 e1
      · rw [z] at hb; cases hb
    · rcases hc with ⟨z, _⟩ | ⟨_, hl, q⟩
      · rw [z] at hb; cases hb
      have hB1 := hB.mono e1
      refine q_when (b := decide ((60 : Int) ≤ (js.length : Int))) (et_test (ev_op (ev_lenT (ev_fldB T.cl_Book T.na_Book__jobs (ev_var rfl) hB1) hB1.tl) ev_c rv_I0)) (fun hb H2 e2 => ?_) (fun hb H2 e2 => by have := of_decide_eq_false hb; omega)
      exact ⟨_, rfl, by decide +kernel, .inr ⟨60, rfl, by decide +kernel, _, rfl, by decide +kernel, _, rfl, by decide +kernel, q _ (e1.trans e2)⟩⟩
/-- the pop of a drop -/
theorem r_pop {σ : St} {te ti : TE} {D : Ends} {l : Addr} {js : List T3} {i : Nat} {Q : VK} (h : Ev te σ H (.ref l)) (hT : TL H l js) (hi : Ev ti σ H (.int (i : Int))) (hl : i < js.length) (hz : js.length ≤ 60)
    (k : ∀ t H', Mod l H H' → TL H' l (js.eraseIdx i) → AtT H' t js[i] → Q (.ref t) H') : tBM K "list" rPopAt te (tCons ti tNil) σ H Q :=
  h H (Ex.refl H) _ fun H1 e1 => by
    obtain ⟨ts, g1, g2⟩ := hT.mono e1
    refine ⟨Or.inl ⟨rfl, _, SqL.of g1⟩, hi H1 e1 _ fun H2 e2 => ?_⟩
    have hn := g2.len
    obtain ⟨t, et, at_⟩ := g2.get (List.getElem?_eq_getElem hl)
    refine ⟨l, _, (i : Int), i, .ref t, rfl, rfl, e2 _ _ g1, by omega, by omega, ?_, by rw [List.getElem?_map, et]; rfl, ?_⟩
    · rw [PySem.seqIndex_of (by omega) (by rw [List.length_map]; omega), Int.toNat_natCast]
    · have m : Mod l H2 (upd H2 l (.lst ((ts.map V.ref).eraseIdx i))) := Mod.upd (e2 _ _ g1)
      refine k t _ ((Mod.ex (e1.trans e2)).trans m) ⟨ts.eraseIdx i, ?_, m.tps (tps_erase (g2.mono e2) i)⟩ (m.tup _ _ (e2 _ _ at_))
      rw [upd_same, List.eraseIdx_eq_take_drop_succ, List.eraseIdx_eq_take_drop_succ, List.map_append, List.map_take, List.map_drop]
theorem book_less {C b l : Addr} {js : List T3} {H' : Hp} (hB : BookAt C H b l js) (i : Nat) (m : Mod l H H') (hT : TL H' l (js.eraseIdx i)) : BookAt C H' b l (js.eraseIdx i) := by
  have hs : (js.eraseIdx i).Sublist js := List.eraseIdx_sublist js i
  refine ⟨?_, hT, by have := hs.length_le; have := hB.len; omega, sound_sub hs hB.snd, noLate_sub hs hB.snd hB.fit⟩
  obtain ⟨dx, hd⟩ := hB.ob
  obtain ⟨xs, hl⟩ : ∃ xs, H l = some (.lst xs) := by obtain ⟨us, h1, _⟩ := hB.tl; exact ⟨_, h1⟩
  exact ⟨dx, m.but _ _ (ne_of hd hl (by intro z; cases z)) hd⟩
def spDrop (C : Addr) : Sp := fun vs H Q _ => ∃ (b l : Addr) (js : List T3) (i : Nat) (hi : i < js.length), vs = [.ref b, .int (i : Int)] ∧ BookAt C H b l js ∧ ∀ t H', Mod l H H' → BookAt C H' b l (js.eraseIdx i) → AtT H' t js[i] → Q (.ref t) H'
theorem ok_Book_drop (T : TX K mg) : FnOk P w K mg base CX0 1 T.f_Book_drop T.d_Book_drop ["self", "place"] (spDrop T.c_Book) := by
  refine T.h_Book_drop.F.ok sc_Book_drop (fun vs H Q E h => ?_) (fun cdv A outer s H vs Q E hr h => ?_)
  · obtain ⟨_, _, _, _, _, rfl, _⟩ := h
    rfl
  · obtain ⟨b, l, js, i, hi, rfl, hB, q⟩ := h
    refine ⟨_, (pss_cons (ps_if (pt_not (pt_chain op_le op_lt pe_int (pv 1) (pe_callB (id := "len") (r := Evl.rLenS K) call_len_seq (by rfl) T.b_len PySem.boot_len (pa_cons (pe_fld (pv 0) rfl) pa_nil))))
    (pss_one ps_never)
    pss_nil)
  (pss_one (ps_ret (pe_bm PySem.F.plainAttrs_list PySem.F.slot_list_pop PySem.F.type_list_pop mt_popAt (pe_fld (pv 0) rfl) (pa_cons (pv 1) pa_nil))))), ?_⟩
    refine q_when (b := !(decide ((0 : Int) ≤ (i : Int)) && decide ((i : Int) < (js.length : Int)))) (et_not (et_test (ev_chain ev_c (ev_var rfl) rv_I0 (fun _ => ev_lenT (ev_fldB T.cl_Book T.na_Book__jobs (ev_var rfl) hB) hB.tl) fun _ => rv_I0))) (fun hb H1 e1 => ?_) (fun hb H1 e1 => ?_)
    · simp only [Bool.not_eq_true', Bool.and_eq_false_iff, decide_eq_false_iff_not] at hb
      omega
    have hB1 := hB.mono e1
    exact r_pop (D := { nx := fun _ _ => True, rt := Q }) (ev_fldB T.cl_Book T.na_Book__jobs (ev_var rfl) hB1) hB1.tl (ev_var rfl) hi hB.len fun t H2 m hT ha => q t H2 ((Mod.ex e1).trans m) (book_less hB i ((Mod.ex e1).trans m) hT) ha
def spDropX (T : TX K mg) : Sp := fun vs H Q E => ∃ (b l : Addr) (js : List T3) (z : Int), vs = [.ref b, .int z] ∧ BookAt T.c_Book H b l js ∧
  (∀ (i : Nat) (hi : i < js.length), z = (i : Int) → ∀ t H', Mod l H H' → BookAt T.c_Book H' b l (js.eraseIdx i) → AtT H' t js[i] → Q (.ref t) H') ∧ (¬ (0 ≤ z ∧ z < (js.length : Int)) → ∀ H', Ex H H' → E (.ref T.c_OutOfPlace) none H')
theorem okx_Book_drop (T : TX K mg) : FnOk P w K mg base (L2.CX P w) 1 T.f_Book_drop T.d_Book_drop ["self", "place"] (spDropX T) := by
  refine T.h_Book_drop.F.okX sc_Book_drop (fun vs H Q E h => ?_) (fun cdv A outer s H vs Q E hr h => ?_)
  · obtain ⟨_, _, _, _, rfl, _⟩ := h
    rfl
  · obtain ⟨b, l, js, z, rfl, hB, q1, q2⟩ := h
    refine ⟨_, (pss_cons (ps_if (pt_not (pt_chain op_le op_lt pe_int (pv 1) (pe_callB (id := "len") (r := Evl.rLenS K) call_len_seq (by rfl) T.b_len PySem.boot_len (pa_cons (pe_fld (pv 0) rfl) pa_nil))))
    (pss_one (ps_raise rfl (takes_of rfl rfl rfl rfl) (pmk_own PySem.F.excBase_ValueError T.x_OutOfPlace T.g_OutOfPlace T.k_OutOfPlace (raises_own T.s_OutOfPlace T.t_OutOfPlace) (by exact rfl))))
    pss_nil)
  (pss_one (ps_ret (pe_bm PySem.F.plainAttrs_list PySem.F.slot_list_pop PySem.F.type_list_pop mt_popAt (pe_fld (pv 0) rfl) (pa_cons (pv 1) pa_nil))))), ?_⟩
    refine q_when (b := !(decide ((0 : Int) ≤ z) && decide (z < (js.length : Int)))) (et_not (et_test (ev_chain ev_c (ev_var rfl) rv_I0 (fun _ => ev_lenT (ev_fldB T.cl_Book T.na_Book__jobs (ev_var rfl) hB) hB.tl) fun _ => rv_I0))) (fun hb H1 e1 => ?_) (fun hb H1 e1 => ?_)
    · refine q2 (fun c => ?_) H1 e1
      simp only [Bool.not_eq_true', Bool.and_eq_false_iff, decide_eq_false_iff_not] at hb
      omega
    · simp only [Bool.not_eq_false', Bool.and_eq_true, decide_eq_true_eq] at hb
      obtain ⟨i, rfl⟩ : ∃ i : Nat, z = (i : Int) := ⟨z.toNat, by omega⟩
      have hi : i < js.length := by omega
      have hB1 := hB.mono e1
      exact r_pop (D := { nx := fun _ _ => True, rt := Q }) (ev_fldB T.cl_Book T.na_Book__jobs (ev_var rfl) hB1) hB1.tl (ev_var rfl) hi hB.len fun t H2 m hT ha => q1 i hi rfl t H2 ((Mod.ex e1).trans m) (book_less hB i ((Mod.ex e1).trans m) hT) ha
end
end DLL
namespace DLL
open PySem PySem.Spec PyProof.Rows L2 Evl DL
/-! ### jobs taken and dropped, as the law does it -/
theorem Mod.back {l p : Addr} {H H1 : Hp} (m : Mod l H H1) (hl : ∃ o, H1 l = some o) (h : H1 p = none) : H p = none := by
  cases e : H p with
  | none => rfl
  | some o =>
    by_cases z : p = l
    · subst z
      obtain ⟨o, ho⟩ := hl
      rw [ho] at h
      cases h
    · rw [m.but _ _ z e] at h
      cases h
theorem tl_some {H : Hp} {p : Addr} {js : List T3} (h : TL H p js) : ∃ o, H p = some o := by
  obtain ⟨ts, h1, _⟩ := h
  exact ⟨_, h1⟩
theorem tl_lst {H : Hp} {p : Addr} {js : List T3} (h : TL H p js) : ∃ xs, H p = some (.lst xs) := by
  obtain ⟨ts, h1, _⟩ := h
  exact ⟨_, h1⟩
theorem pick_one {js : List T3} {a b : Nat} (h : Pick js a) (k : Pick js b) : a = b := by
  have h1 := h.2.2 b k.1 k.2.1
  have h2 := k.2.2 a h.1 h.2.1
  unfold first at h1 h2
  omega
section
variable {P : Program} {w : World} {K : PySem.W.Frag} {mg : Str → Option Value} {base : Heap} {H : Hp}
def lateD (a b c : Int) : PyData := .tuple [.str "late", .int a, .int b, .int c]
theorem dp_late {t : Addr} {a b c : Int} (h : H t = some (.tup [.str "late", .int a, .int b, .int c])) : Dp K H (.ref t) (lateD a b c) := .tup (SqT.of h) (.cons (.str _) (.cons (.int _) (.cons (.int _) (.cons (.int _) .nil))))
theorem lay_late (a b c : Int) : PyData.canLay0 (lateD a b c) = true := by
  show (PyData.canLay0 (.str "late") && true) = true
  rw [show PyData.canLay0 (.str "late") = true by decide +kernel]
  rfl
theorem sh_late (a b c : Int) : SeqAt.shaped (lateD a b c) = true := by
  unfold SeqAt.shaped
  rw [Bool.and_eq_true]
  exact ⟨lay_late a b c, rfl⟩
theorem rv_neLate {t u : Addr} {a b c : Int} (h : H t = some (.tup [.str "late", .int a, .int b, .int c])) (h' : H u = some (.tup [.str "late", .int a, .int b, .int c])) : RV (rNeD K) (.ref t) (.ref u) H (.bl false) := fun H1 e Q k =>
  ⟨_, _, dp_late (e _ _ h), dp_late (e _ _ h'), sh_late a b c, sh_late a b c, by
    rw [SeqAt.eqv_refl _ (lay_late a b c)]
    exact k H1 (Ex.refl H1)⟩
theorem sh_tD (j : T3) : SeqAt.shaped (tD j) = true := by
  unfold SeqAt.shaped
  rw [Bool.and_eq_true]
  exact ⟨rfl, rfl⟩
theorem rv_neJ {t u : Addr} {j k : T3} (h : AtT H t j) (h' : AtT H u k) : RV (rNeD K) (.ref t) (.ref u) H (.bl (!decide (j = k))) := fun H1 e Q q =>
  ⟨_, _, dp_tup (e _ _ h), dp_tup (e _ _ h'), sh_tD j, sh_tD k, by
    rw [eqv_tD]
    exact q H1 (Ex.refl H1)⟩
theorem ev_crowdedL {σ : St} {ta tb tc td : TE} {E : XK} {js : List T3} {p : Nat} {b : Int} (h : EvTL ta σ H js) (h1 : Ev tb σ H (.int (p : Int))) (h2 : Ev tc σ H (.int b)) (h3 : Ev td σ H (.int (du js p))) (hl : js.length ≤ 60) (hp : p < js.length) (h0 : 0 ≤ b) (hc : b ≤ cm js p) (hd : du js p - b < loadJ js b (du js p)) :
    Ev (tCall spCrowded [] E (tCons ta (tCons tb (tCons tc (tCons td tNil))))) σ H (.bl true) := fun H1 e Q k =>
  h H1 e _ fun a H2 _ e2 ha => (ea_cons (h1.mono (e.trans e2)) (ea_cons (h2.mono (e.trans e2)) (ea_cons (h3.mono (e.trans e2)) ea_nil)) : EvA _ σ H2 _) H2 (Ex.refl _) _ fun H3 e3 => ⟨a, js, p, b, rfl, ha.mono e3, hl, hp, h0, hc, hd, fun H4 e4 => k H4 ((e2.trans e3).trans e4)⟩
theorem et_answerNe {σ : St} {ta tb : TE} {E : XK} {js : List T3} {p : Nat} (h : EvTL ta σ H js) (hl : js.length ≤ 60) (S : Sound js) (N : ¬ NoLate js (runM js)) (hp : Pick js p) (hb : ∀ H1, Ex H H1 → EvU tb σ H1 [.str "late", .int (p : Int), .int (beginM js p), .int (du js p)]) :
    EvT (tTest (tOp (rNeD K) (tCall spAnswer [] E (tCons ta tNil)) tb)) σ H false := fun H1 e Q k =>
  h H1 e _ fun a H2 _ e2 ha => ⟨a, js, rfl, ha, hl, S, fun t H3 _ e3 hA => by
    obtain ⟨c, ht, hc⟩ := hA.late N
    have := pick_one hc hp
    subst this
    refine hb H3 ((e.trans e2).trans e3) H3 (Ex.refl _) _ fun u H4 _ e4 hu => rv_neLate (e4 _ _ ht) hu H4 (Ex.refl _) _ fun H5 e5 => ⟨false, rfl, k H5 (((e2.trans e3).trans e4).trans e5)⟩⟩
def spTaken (C : Addr) : Sp := fun vs H Q _ => ∃ (b ph t l : Addr) (js : List T3) (j : T3), vs = [.ref b, .ref ph, .ref t] ∧ BookAt C H b l js ∧ TL H ph js ∧ ph ≠ l ∧ AtT H t j ∧ SoundJ j ∧ js.length < 60 ∧
  (NoLate (js ++ [j]) (runM (js ++ [j])) → ∀ q H', H q = none → Mod l H H' → BookAt C H' b l (js ++ [j]) → TL H' q (js ++ [j]) → Q (.ref q) H') ∧
  (¬ NoLate (js ++ [j]) (runM (js ++ [j])) → ∀ H', Ex H H' → Q (.ref ph) H')
theorem sound_snoc {js : List T3} {j : T3} (S : Sound js) (hj : SoundJ j) : Sound (js ++ [j]) := fun x hx => by
  rcases List.mem_append.mp hx with z | z
  · exact S x z
  · rw [List.mem_singleton.mp z]; exact hj
theorem ok_law_taken (T : TX K mg) : FnOk P w K mg base CX0 8 T.f_law_taken T.d_law_taken ["_law_book", "_law_held", "_law_job"] (spTaken T.c_Book) := by
  refine T.h_law_taken.F.ok sc_law_taken (fun vs H Q E h => ?_) (fun cdv A outer s H vs Q E hr h => ?_)
  · obtain ⟨_, _, _, _, _, _, rfl, _⟩ := h
    rfl
  · obtain ⟨b, ph, t, l, js, j, rfl, hB, hT, hne, ht, hj, hlt, q1, q2⟩ := h
    refine ⟨_, (pss_cons (ps_set (i := 3) sc_law_taken.nd rfl (.inl rfl) (pe_meth (pv 0) T.cl_Book T.me_Book_take (ok_Book_take T) (hr.mono (by decide)) T.h_Book_take.b .nil pass0 (pa_cons (pv 2) pa_nil)))
  (pss_cons (ps_if (pt_cmpR op_isN (pv 3) pe_non (nomark _))
    (pss_one (ps_ret (pe_op op_cat (pv 1) (pe_lst (pa_cons (pv 2) pa_nil)))))
    pss_nil)
  (pss_cons (ps_if (PW.pt (pw_or (pt_not (pt_val (pe_callB (id := "isinstance") (r := rIsi K) call_isi (by rfl) T.b_isinstance (by decide +kernel) (pa_cons (pv 3) (pa_cons (pe_bltn (v := .ty "tuple") (by rfl) T.b_tuple (by decide +kernel) rfl) pa_nil))))) (pw_or1 (pt_cmpR op_ne (pe_callB (id := "len") (r := Evl.rLenS K) call_len_seq (by rfl) T.b_len PySem.boot_len (pa_cons (pv 3) pa_nil)) pe_int (nomark _)))))
    (pss_one (ps_ret pe_non))
    pss_nil)
  (pss_cons (ps_if (pt_cmpR (r := rNeD K) (op_neD hr.units) (pe_call (ok_answer T) (hr.mono (by decide)) (by rfl) T.h_answer.g T.h_answer.F.kp T.h_answer.b .nil pass0 (pa_cons (pe_op op_cat (pv 1) (pe_lst (pa_cons (pv 2) pa_nil))) pa_nil)) (pe_tup (pa_cons pe_str (pa_cons (pe_ix (r := rIxT K) ix_tup (pv 3) pe_int (fun _ _ => rfl)) (pa_cons (pe_ix (r := rIxT K) ix_tup (pv 3) pe_int (fun _ _ => rfl)) (pa_cons (pe_ix (r := rIxT K) ix_tup (pv 3) pe_int (fun _ _ => rfl)) pa_nil))))) (nomark _))
    (pss_one (ps_ret pe_non))
    pss_nil)
  (pss_one (ps_ret (pe_ifExp (pt_val (pe_call (ok_law_crowded T) (hr.mono (by decide)) (by rfl) T.h_law_crowded.g T.h_law_crowded.F.kp T.h_law_crowded.b .nil pass0 (pa_cons (pe_op op_cat (pv 1) (pe_lst (pa_cons (pv 2) pa_nil))) (pa_cons (pe_ix (r := rIxT K) ix_tup (pv 3) pe_int (fun _ _ => rfl)) (pa_cons (pe_ix (r := rIxT K) ix_tup (pv 3) pe_int (fun _ _ => rfl)) (pa_cons (pe_ix (r := rIxT K) ix_tup (pv 3) pe_int (fun _ _ => rfl)) pa_nil)))))) (pv 1) pe_non))))))), ?_⟩
    have hln : (js ++ [j]).length ≤ 60 := by rw [List.length_append, List.length_singleton]; omega
    have hSd := sound_snoc hB.snd hj
    refine r_meth (by decide) (ev_var rfl) hB (ea_cons (ev_var rfl) ea_nil) fun H1 e1 => ⟨b, t, l, js, j, rfl, hB.mono e1, e1 _ _ ht, hj, hlt, fun N H2 m2 hB2 => ?_, fun N u c H2 nu e2 hu hpk => ?_⟩
    · have mH := (Mod.ex e1).trans m2
      refine q_when (b := decide (V.non = V.non)) (et_test (ev_op (ev_var rfl) ev_c rv_isN)) (fun hb H3 e3 => ?_) (fun hb H3 e3 => absurd rfl (of_decide_eq_false hb))
      have hT3 := (mH.tl hT hne).mono e3
      refine s_retTL (etl_catV (ev_var rfl) hT3 (etl_oneR (ev_var rfl) (e3 _ _ (mH.tup _ _ ht))) (by show _ + 1 ≤ _; omega)) fun d H4 nd e4 hd => ?_
      have m4 := (mH.trans (Mod.ex e3)).trans (Mod.ex e4)
      exact q1 N d H4 (Mod.back (mH.trans (Mod.ex e3)) (tl_some (hB2.tl.mono e3)) nd) m4 ((hB2.mono e3).mono e4) hd
    · have e12 := e1.trans e2
      refine q_when (b := decide (V.ref u = V.non)) (et_test (ev_op (ev_var rfl) ev_c rv_isN)) (fun hb H3 e3 => absurd (of_decide_eq_true hb) (by intro z; cases z)) (fun hb H3 e3 => ?_)
      have hu3 := e3 _ _ hu
      refine q_when (b := !true || !decide (V.int ((([V.int (c : Int), V.int (beginM (js ++ [j]) c), V.int (du (js ++ [j]) c)] : List V).length : Nat) : Int) = V.int 3)) (et_or (et_not (et_B (ev_isi (ev_var rfl) (fun H1 e => .tup (e _ _ hu3)) (kit_ty (by decide +kernel)) ev_c))) fun _ => et_test (ev_op (ev_lenU (ev_var rfl) hu3) ev_c (rv_ne rfl))) (fun hb H4 e4 => ?_) (fun hb H4 e4 => ?_)
      · exact absurd (show (!true || !decide (V.int ((([V.int (c : Int), V.int (beginM (js ++ [j]) c), V.int (du (js ++ [j]) c)] : List V).length : Nat) : Int) = V.int 3)) = false from rfl) (by rw [hb]; decide)
      have hu4 : AtT H4 u ((c : Int), beginM (js ++ [j]) c, du (js ++ [j]) c) := e4 _ _ hu3
      have e14 := (e12.trans e3).trans e4
      have cat : ∀ {H9 : Hp} {σ : St}, Ex H H9 → σ[1]? = some (some (.ref ph)) → σ[2]? = some (some (.ref t)) → EvTL (tOp rCat (tVar 1) (tLst (tCons (tVar 2) tNil))) σ H9 (js ++ [j]) := fun e h1 h2 => etl_catV (ev_var h1) (hT.mono e) (etl_oneR (ev_var h2) (e _ _ ht)) (by show _ + 1 ≤ _; omega)
      have f0 : ∀ {H9 : Hp} {σ : St}, Ex H4 H9 → σ[3]? = some (some (.ref u)) → Ev (tOp (rIxT K) (tVar 3) (tC (.int 0))) σ H9 (.int (c : Int)) := fun e hs => ev_fld1 (ev_var hs) (e _ _ hu4) ev_c (t3_0 _)
      have f1 : ∀ {H9 : Hp} {σ : St}, Ex H4 H9 → σ[3]? = some (some (.ref u)) → Ev (tOp (rIxT K) (tVar 3) (tC (.int 1))) σ H9 (.int (beginM (js ++ [j]) c)) := fun e hs => ev_fld1 (ev_var hs) (e _ _ hu4) ev_c (t3_1 _)
      have f2 : ∀ {H9 : Hp} {σ : St}, Ex H4 H9 → σ[3]? = some (some (.ref u)) → Ev (tOp (rIxT K) (tVar 3) (tC (.int 2))) σ H9 (.int (du (js ++ [j]) c)) := fun e hs => ev_fld1 (ev_var hs) (e _ _ hu4) ev_c (t3_2 _)
      refine q_when (b := false) (et_answerNe (cat e14 rfl rfl) hln hSd N hpk fun H5 e5 => eu_tup (ea_cons ev_c (ea_cons (f0 e5 rfl) (ea_cons (f1 e5 rfl) (ea_cons (f2 e5 rfl) ea_nil)))) (show 4 ≤ 100000 by decide)) (fun hb H5 e5 => by cases hb) (fun hb H5 e5 => ?_)
      obtain ⟨B⟩ := beginM_spec hSd hpk
      have hcr := begin_crowded hSd hpk B
      have e15 := e14.trans e5
      exact s_ret (v := .ref ph) (ev_if (b := true) (et_B (ev_crowdedL (cat e15 rfl rfl) (f0 e5 rfl) (f1 e5 rfl) (f2 e5 rfl) hln hpk.1 hcr.1 hcr.2.1 hcr.2.2.2)) (fun _ => ev_var rfl) (fun z => by cases z)) fun H6 e6 => q2 N H6 (e15.trans e6)
/-- what is no job -/
def PNo (K : PySem.W.Frag) : Pr := fun H y => ∃ r, ThingV K H y r ∧ thB r = false
theorem st_PNo : Steady (PNo K) := fun _ _ _ e ⟨r, h, hb⟩ => ⟨r, h.mono e, hb⟩
theorem no_tup {σ : St} {tA : TA} {xs : List V} (h : EvA tA σ H xs) (hl : xs.length ≤ 10) (hk : ∀ y ∈ xs, ∀ H1 : Hp, ∃ T, SmallTy T ∧ TyB K H1 y T) (hb : thB (tripOf xs) = false) : EvP (tTup tA) σ H (PNo K) :=
  ep_u (eu_tup h (by omega)) fun t H1 ht => ⟨_, .inr ⟨t, xs, rfl, ht, by omega, fun y hy => hk y hy H1, rfl⟩, hb⟩
theorem kd_int (n : Int) : ∀ H1 : Hp, ∃ T, SmallTy T ∧ TyB K H1 (.int n) T := fun _ => ⟨_, st_int, .int n⟩
theorem kd_bl (b : Bool) : ∀ H1 : Hp, ∃ T, SmallTy T ∧ TyB K H1 (.bl b) T := fun _ => ⟨_, st_bool, .bl b⟩
/-- held[:i] + held[i + 1:] -/
theorem etl_less {σ : St} {ta tb tc td : TE} {p : Addr} {js : List T3} {i : Nat} (h1 : Ev ta σ H (.ref p)) (h2 : Ev tb σ H (.int (i : Int))) (h3 : Ev tc σ H (.ref p)) (h4 : Ev td σ H (.int (((i + 1 : Nat) : Int)))) (hT : TL H p js) (hz : js.length ≤ 1000) :
    EvTL (tOp rCat (tSl (rSlL K) ta tNoPart (tPart tb)) (tSl (rSlL K) tc (tPart td) tNoPart)) σ H (js.eraseIdx i) := by
  rw [List.eraseIdx_eq_take_drop_succ]
  exact etl_cat (etl_take h1 h2 hT) (etl_drop h3 h4 hT) (by rw [List.length_take, List.length_drop]; omega)
theorem cmulZ {i j : Int} (h1 : -1000 ≤ i) (h2 : i ≤ 1000) (h3 : 0 ≤ j) (h4 : j ≤ BJ) : CMulW i j := by
  unfold BJ at h4
  exact wide_mul (a := 256) (b := 256) (by omega) (by omega) (by decide) (by decide) (by decide)
def spDeed (C : Addr) : Sp := fun vs H Q _ => ∃ (b ph l : Addr) (js : List T3) (c wd : Int), vs = [.ref b, .ref ph, .int c, .int wd] ∧ BookAt C H b l js ∧ TL H ph js ∧ ph ≠ l ∧ js.length < 59 ∧ 1 ≤ wd ∧ wd ≤ BW + 1 ∧
  ∀ q js' H', q ≠ l → Mod l H H' → BookAt C H' b l js' → TL H' q js' → js'.length ≤ js.length + 1 → (q = ph ∨ H q = none) → Q (.ref q) H'
theorem kit3 (T : TX K mg) : PySem.W.kitAny K (.ref T.c_OutOfPlace) ([T.c_BadJob, T.c_NoRow, T.c_TooMany].map .ref) = some false :=
  kitAny_cons T.i_OutOfPlace_BadJob (fun _ => kitAny_cons T.i_OutOfPlace_NoRow (fun _ => kitAny_cons T.i_OutOfPlace_TooMany (fun _ => kitAny_nil) (fun z => by cases z)) (fun z => by cases z)) (fun z => by cases z)
theorem big30 : (10 : Int) ^ (30 : Int).toNat = 1000000000000000000000000000000 := by decide
set_option maxHeartbeats 0 in
theorem ok_law_deed (T : TX K mg) : FnOk P w K mg base CX0 9 T.f_law_deed T.d_law_deed ["_law_book", "_law_held", "_law_cell", "_law_wide"] (spDeed T.c_Book) := by
  refine T.h_law_deed.F.ok sc_law_deed (fun vs H Q E h => ?_) (fun cdv A outer s H vs Q E hr h => ?_)
  · obtain ⟨_, _, _, _, _, _, rfl, _⟩ := h
    rfl
  · obtain ⟨b, ph, l, js, c, wd, rfl, hB, hT, hne, hlt, hw1, hw2, q⟩ := h
    refine ⟨_, (pss_cons (ps_if (pt_cmpR op_eq (pe_op op_mod (pv 2) pe_int) pe_int (nomark _))
    (pss_cons (ps_try_many rfl rfl takes0 (fun W pn xe tk _ => (pss_one (ps_expr (pe_mtry (pv 0) T.cl_Book T.me_Book_take (okx_Book_take T) (hr.mono (by decide)) T.h_Book_take.b (fun σ => passAt tk σ) (pa_cons (pe_ix (r := rIxL K) ix_list (pe_lst (pa_cons (pe_tup (pa_cons pe_int (pa_cons pe_int (pa_cons pe_int pa_nil)))) (pa_cons (pe_tup (pa_cons pe_int (pa_cons pe_int (pa_cons pe_int pa_nil)))) (pa_cons (pe_tup (pa_cons pe_int (pa_cons pe_int pa_nil))) (pa_cons (pe_tup (pa_cons pe_bl (pa_cons pe_int (pa_cons pe_int pa_nil)))) (pa_cons (pe_lst (pa_cons pe_int (pa_cons pe_int (pa_cons pe_int pa_nil)))) (pa_cons pe_non pa_nil))))))) (pe_op op_mod (pe_op op_fdiv (pv 2) pe_int) pe_int) (fun _ _ => rfl)) pa_nil))))) (.cons ⟨rfl, by decide, .inl T.g_BadJob⟩ (fun a oe cls d pn _ _ => (pss_one (ps_ret (pv 1)))) .nil))
  (pss_one (ps_ret pe_non)))
    pss_nil)
  (pss_cons (ps_if (pt_cmpR op_gt (pe_op op_mod (pv 2) pe_int) pe_int (nomark _))
    (pss_cons (ps_set (i := 4) sc_law_deed.nd rfl (.inl rfl) (pe_op op_sub (pe_op op_sub (pe_op op_mod (pe_op op_fdiv (pv 2) pe_int) (pe_op op_add (pe_op op_mul pe_int (pe_callB (id := "len") (r := Evl.rLenS K) call_len_seq (by rfl) T.b_len PySem.boot_len (pa_cons (pv 1) pa_nil))) pe_int)) (pe_callB (id := "len") (r := Evl.rLenS K) call_len_seq (by rfl) T.b_len PySem.boot_len (pa_cons (pv 1) pa_nil))) pe_int))
  (pss_cons (ps_if (pt_cmpR op_eq (pe_op op_mod (pe_op op_fdiv (pv 2) pe_int) pe_int) pe_int (nomark _))
    (pss_one (ps_set (i := 4) sc_law_deed.nd rfl (.inl rfl) (pe_op op_mulW (pv 4) (pe_op op_pow pe_int pe_int))))
    pss_nil)
  (pss_cons (ps_try_cl rfl rfl sc_law_deed.nd takes0 (fun W pn xe tk _ => (pss_one (ps_set (i := 5) sc_law_deed.nd rfl (.inl rfl) (pe_mtry (pv 0) T.cl_Book T.me_Book_drop (okx_Book_drop T) (hr.mono (by decide)) T.h_Book_drop.b (fun σ => passAt tk σ) (pa_cons (pv 4) pa_nil))))) (.named (i := 6) rfl rfl ⟨rfl, by decide, .inl T.g_RunError⟩ (fun a oe cls d pn hz hf => (pss_cons (ps_if (PW.pt (pw_or (pt_not (pt_val (pe_callB (id := "isinstance") (r := rIsC K a cls d) (call_isC hz hf) (by rfl) T.b_isinstance (by decide +kernel) (pa_cons (pv 6) (pa_cons (pe_glob (v := .ref T.c_OutOfPlace) (by rfl) T.g_OutOfPlace rfl) pa_nil))))) (pw_or1 (pt_val (pe_callB (id := "isinstance") (r := rIsCT K a cls d) (call_isCT hz hf) (by rfl) T.b_isinstance (by decide +kernel) (pa_cons (pv 6) (pa_cons (pe_tup (pa_cons (pe_glob (v := .ref T.c_BadJob) (by rfl) T.g_BadJob rfl) (pa_cons (pe_glob (v := .ref T.c_NoRow) (by rfl) T.g_NoRow rfl) (pa_cons (pe_glob (v := .ref T.c_TooMany) (by rfl) T.g_TooMany rfl) pa_nil)))) pa_nil)))))))
    (pss_one (ps_ret pe_non))
    pss_nil)
  (pss_one (ps_ret (pe_ifExp (pt_chain op_le op_lt pe_int (pv 4) (pe_callB (id := "len") (r := Evl.rLenS K) call_len_seq (by rfl) T.b_len PySem.boot_len (pa_cons (pv 1) pa_nil))) pe_non (pv 1)))))) .nil))
  (pss_cons (ps_if (PW.pt (pw_or (pt_not (pt_chain op_le op_lt pe_int (pv 4) (pe_callB (id := "len") (r := Evl.rLenS K) call_len_seq (by rfl) T.b_len PySem.boot_len (pa_cons (pv 1) pa_nil)))) (pw_or1 (pt_cmpR (r := rNeD K) (op_neD hr.units) (pv 5) (pe_ix (r := rIxL K) ix_list (pv 1) (pv 4) (fun _ _ => rfl)) (nomark _)))))
    (pss_one (ps_ret pe_non))
    pss_nil)
  (pss_one (ps_ret (pe_op op_cat (pe_slice (r := rSlL K) sl_list (pv 1) po_none (po_some (pv 4))) (pe_slice (r := rSlL K) sl_list (pv 1) (po_some (pe_op op_add (pv 4) pe_int)) po_none))))))))
    pss_nil)
  (pss_cons (ps_set (i := 7) sc_law_deed.nd rfl (.inl rfl) (pe_op op_mulW (pe_op op_mod (pe_op op_fdiv (pv 2) pe_int) pe_int) (pv 3)))
  (pss_one (ps_ret (pe_call (ok_law_taken T) (hr.mono (by decide)) (by rfl) T.h_law_taken.g T.h_law_taken.F.kp T.h_law_taken.b .nil pass0 (pa_cons (pv 0) (pa_cons (pv 1) (pa_cons (pe_tup (pa_cons (pv 7) (pa_cons (pe_op op_mulW (pe_op op_add pe_int (pe_op op_mod (pe_op op_fdiv (pv 2) pe_int) pe_int)) (pv 3)) (pa_cons (pe_op op_add (pv 7) (pe_op op_mulW (pe_op op_add pe_int (pe_op op_mod (pe_op op_fdiv (pv 2) pe_int) pe_int)) (pv 3))) pa_nil)))) pa_nil))))))))), ?_⟩
    refine q_when (b := decide (V.int (c % 9) = V.int 7)) (by walk_at "evt") (fun hb H1 e1 => ?_) (fun hb H1 e1 => ?_)
    · -- a thing that is no job
      obtain ⟨n6, hn6, hl6⟩ : ∃ k : Nat, c / 9 % 6 = (k : Int) ∧ k < 6 := ⟨(c / 9 % 6).toNat, by omega, by omega⟩
      have k3 : ∀ {x y z : V}, (∀ H1 : Hp, ∃ T, SmallTy T ∧ TyB K H1 x T) → (∀ H1 : Hp, ∃ T, SmallTy T ∧ TyB K H1 y T) → (∀ H1 : Hp, ∃ T, SmallTy T ∧ TyB K H1 z T) → ∀ v ∈ [x, y, z], ∀ H1 : Hp, ∃ T, SmallTy T ∧ TyB K H1 v T := fun {x y z} h1 h2 h3 v hv => by
        simp only [List.mem_cons, List.not_mem_nil, or_false] at hv
        rcases hv with rfl | rfl | rfl
        · exact h1
        · exact h2
        · exact h3
      refine r_mtryP (P := PNo K) (by decide) (ev_var rfl) (hB.mono e1) (ep_pick (i := n6) (n := 6) st_PNo (eps_cons st_PNo (no_tup (ea_cons ev_c (ea_cons ev_c (ea_cons ev_c ea_nil))) (show 3 ≤ 10 by decide) (k3 (kd_int _) (kd_int _) (kd_int _)) (by decide)) (eps_cons st_PNo (no_tup (ea_cons ev_c (ea_cons ev_c (ea_cons ev_c ea_nil))) (show 3 ≤ 10 by decide) (k3 (kd_int _) (kd_int _) (kd_int _)) (by decide)) (eps_cons st_PNo (no_tup (ea_cons ev_c (ea_cons ev_c ea_nil)) (show 2 ≤ 10 by decide) (fun v hv => ?_) rfl) (eps_cons st_PNo (no_tup (ea_cons ev_c (ea_cons ev_c (ea_cons ev_c ea_nil))) (show 3 ≤ 10 by decide) (k3 (kd_bl _) (kd_int _) (kd_int _)) rfl) (eps_cons st_PNo (ep_l (el_lst (ea_cons ev_c (ea_cons ev_c (ea_cons ev_c ea_nil))) (show 3 ≤ 100000 by decide)) fun t H2 ht => ⟨_, .inl ⟨_, st_list, by decide, .lst (SqL.of ht), rfl⟩, rfl⟩) (eps_cons st_PNo (ep_ev ev_c fun H2 _ => ⟨_, .inl ⟨_, st_none, by decide, .non, rfl⟩, rfl⟩) eps_nil)))))) (by decide) (fun H2 _ => ev_is (v := .int (c / 9 % 6)) (by walk_at "ev") (by rw [hn6])) hl6) fun y H2 e2 hy => ?_
      · simp only [List.mem_cons, List.not_mem_nil, or_false] at hv
        rcases hv with rfl | rfl
        · exact kd_int _
        · exact kd_int _
      obtain ⟨r, hy, hr0⟩ := hy
      refine ⟨b, l, y, js, r, rfl, hB.mono (e1.trans e2), hy, .inl ⟨hr0, fun H3 e3 => ⟨true, T.e_BadJob_BadJob, fun _ a _ => ?_, fun z => Bool.noConfusion z⟩⟩⟩
      have e13 := (e1.trans e2).trans e3
      exact s_ret (ev_var rfl) fun H4 e4 => q ph js H4 hne (Mod.ex (e13.trans e4)) (hB.mono (e13.trans e4)) (hT.mono (e13.trans e4)) (by omega) (.inl rfl)
    refine q_when (b := decide (5 < c % 9)) (by walk_at "evt") (fun hb2 H2 e2 => ?_) (fun hb2 H2 e2 => ?_)
    · -- a job dropped
      have e12 := e1.trans e2
      have hT2 := hT.mono e12
      obtain ⟨z0, hz0, hz1, hz2⟩ : ∃ z0 : Int, z0 = c / 9 % (2 * (js.length : Int) + 5) - (js.length : Int) - 2 ∧ -1000 ≤ z0 ∧ z0 ≤ 1000 := by
        have h1 := Int.emod_nonneg (c / 9) (show 2 * (js.length : Int) + 5 ≠ 0 by omega)
        have h2 := Int.emod_lt_of_pos (c / 9) (show 0 < 2 * (js.length : Int) + 5 by omega)
        exact ⟨_, rfl, by omega, by omega⟩
      refine q_asg (v := .int z0) (ev_is (ev_op (ev_op (ev_op (ev_op (ev_var rfl) ev_c (rv_I ⟨by decide, by decide⟩)) (ev_op (ev_op ev_c (ev_lenT (ev_var rfl) hT2) (rv_I (.inl ⟨by decide, by decide⟩))) ev_c rv_I0) (rv_I (show 0 < 2 * (js.length : Int) + 5 by omega))) (ev_lenT (ev_var rfl) hT2) rv_I0) ev_c rv_I0) (by rw [hz0])) fun H3 e3 => ?_
      obtain ⟨z, hz⟩ : ∃ z : Int, z = if c / 9 % 11 = 3 then z0 * 1000000000000000000000000000000 else z0 := ⟨_, rfl⟩
      refine q_ifAsg (b := decide (V.int (c / 9 % 11) = V.int 3)) (v := .int z) (by walk_at "evt") (fun g => ?_) (fun g => ?_) fun H4 e4 => ?_
      · rw [hz, if_pos (V.int.inj (of_decide_eq_true g))]
        exact ev_op (ev_var rfl) (ev_is (v := .int ((10 : Int) ^ (30 : Int).toNat)) (ev_op ev_c ev_c (rv_I ⟨by decide, by decide, by decide⟩)) (by rw [big30])) (rv_I (cmulZ hz1 hz2 (by decide) (by decide)))
      · rw [hz, if_neg (fun w => of_decide_eq_false g (by rw [w]))]
        rfl
      have e14 := (e12.trans e3).trans e4
      have hB4 := hB.mono e14
      refine r_mtry (vs := [.int z]) (by decide) (ev_var rfl) hB4 (ea_cons (ev_var rfl) ea_nil) fun H5 e5 => ⟨b, l, js, z, rfl, hB4.mono e5, fun i hi ez t H6 m6 hB6 ht6 => ?_, fun hn H6 e6 => ⟨true, T.e_OutOfPlace_RunError, fun _ a _ => ?_, fun w => Bool.noConfusion w⟩⟩
      · subst ez
        have m16 := (Mod.ex (e14.trans e5)).trans m6
        have hT6 := m16.tl hT hne
        obtain ⟨u, us, g1, g2, g3⟩ := hT6.atI (List.getElem?_eq_getElem hi)
        refine q_when (b := !(decide ((0 : Int) ≤ (i : Int)) && decide ((i : Int) < (js.length : Int))) || !decide (js[i] = js[i])) (et_or (et_not (et_test (ev_chain ev_c (ev_var rfl) rv_I0 (fun _ => ev_lenT (ev_var rfl) hT6) fun _ => rv_I0))) fun _ => et_test (ev_op (ev_var rfl) (ev_op (ev_var rfl) (ev_var rfl) (rv_ixL (SqL.of g1) (atI_nat g2))) (rv_neJ ht6 g3))) (fun hb3 H7 e7 => ?_) (fun hb3 H7 e7 => ?_)
        · simp only [Bool.or_eq_true, Bool.not_eq_true', Bool.and_eq_false_iff, decide_eq_false_iff_not] at hb3
          rcases hb3 with (hb3 | hb3) | hb3
          · omega
          · omega
          · exact (hb3 trivial).elim
        refine s_retTL (etl_less (i := i) (ev_var rfl) (ev_var rfl) (ev_var rfl) (ev_is (v := .int ((i : Int) + 1)) (by walk_at "ev") rfl) (hT6.mono e7) (by omega)) fun d H8 nd e8 hd => ?_
        have m8 := (m16.trans (Mod.ex e7)).trans (Mod.ex e8)
        have hB8 := (hB6.mono e7).mono e8
        have nd0 : H d = none := Mod.back (m16.trans (Mod.ex e7)) (tl_some (hB6.tl.mono e7)) nd
        refine q d _ H8 (fun w => ?_) m8 hB8 hd (by have := (List.eraseIdx_sublist js i).length_le; omega) (.inr nd0)
        subst w
        obtain ⟨o, ho⟩ := tl_some hB.tl
        rw [ho] at nd0
        cases nd0
      · have e16 := (e14.trans e5).trans e6
        refine q_when (b := !true || false) (et_or (et_not (et_B (ev_isC T.q_OutOfPlace T.i_OutOfPlace_OutOfPlace (ev_var rfl) ev_c))) fun _ => et_B (ev_isCU (Ds := [T.c_BadJob, T.c_NoRow, T.c_TooMany]) T.q_OutOfPlace (kit3 T) (ev_var rfl) (eu_tup (ea_cons ev_c (ea_cons ev_c (ea_cons ev_c ea_nil))) (show 3 ≤ 100000 by decide)))) (fun hb3 H7 e7 => by cases hb3) (fun hb3 H7 e7 => ?_)
        have e17 := e16.trans e7
        have hno : (decide ((0 : Int) ≤ z) && decide (z < (js.length : Int))) = false := by
          rw [Bool.and_eq_false_iff, decide_eq_false_iff_not, decide_eq_false_iff_not]
          omega
        exact s_ret (v := .ref ph) (ev_if (b := false) (et_is (et_test (ev_chain ev_c (ev_var rfl) rv_I0 (fun _ => ev_lenT (ev_var rfl) (hT.mono e17)) fun _ => rv_I0)) hno) (fun w => by cases w) (fun _ => ev_var rfl)) fun H8 e8 => q ph js H8 hne (Mod.ex (e17.trans e8)) (hB.mono (e17.trans e8)) (hT.mono (e17.trans e8)) (by omega) (.inl rfl)
    · -- a job taken
      have e12 := e1.trans e2
      have hbw : BW + 1 ≤ BJ := by decide
      have hb0 : (1000 : Int) ≤ BJ := by decide
      have hc0 : 0 ≤ c / 9 % 30 * wd := Int.mul_nonneg (by omega) (by omega)
      refine q_asg (v := .int (c / 9 % 30 * wd)) (ev_op (by walk_at "ev") (ev_var rfl) (rv_I (cmulW (by omega) (by omega) (by omega) (by omega)))) fun H3 e3 => ?_
      generalize c / 9 % 30 * wd = come at *
      have l1 : 1 ≤ (1 + c / 270 % 5) * wd := by
        have := Int.mul_le_mul_of_nonneg_right (show 1 ≤ 1 + c / 270 % 5 by omega) (show 0 ≤ wd by omega)
        omega
      have l2 : 1 ≤ (1 + c / 1350 % 24) * wd := by
        have := Int.mul_le_mul_of_nonneg_right (show 1 ≤ 1 + c / 1350 % 24 by omega) (show 0 ≤ wd by omega)
        omega
      refine s_retC3U (x := .ref b) (y := .ref ph) (ev_var rfl) (ev_var rfl) (eu_three (a := come) (b := (1 + c / 270 % 5) * wd) (c := come + (1 + c / 1350 % 24) * wd) (ev_var rfl) (ev_op (by walk_at "ev") (ev_var rfl) (rv_I (cmulW (by omega) (by omega) (by omega) (by omega)))) (ev_op (ev_var rfl) (ev_op (by walk_at "ev") (ev_var rfl) (rv_I (cmulW (by omega) (by omega) (by omega) (by omega)))) rv_I0)) fun t H4 nt e4 ht => ?_
      have e14 := (e12.trans e3).trans e4
      refine ⟨b, ph, t, l, js, _, rfl, hB.mono e14, hT.mono e14, hne, ht, ⟨hc0, l1, by show come < come + _; omega⟩, by omega, fun N d H5 nd m5 hB5 hd => ?_, fun N H5 e5 => q ph js H5 hne (Mod.ex (e14.trans e5)) (hB.mono (e14.trans e5)) (hT.mono (e14.trans e5)) (by omega) (.inl rfl)⟩
      refine q d _ H5 (fun w => ?_) ((Mod.ex e14).trans m5) hB5 hd (by rw [List.length_append]; exact Nat.le_refl _) (.inr (fresh_back e14 nd))
      subst w
      obtain ⟨o, ho⟩ := tl_some (hB.mono e14).tl
      rw [ho] at nd
      cases nd
end
end DLL
namespace DLL
open PySem PySem.Spec PyProof.Rows L2 Evl DL
/-! ### sixty jobs of one -/
def unit (k : Nat) : T3 := ((k : Int), 1, 61)
def units (n : Nat) : List T3 := (List.range n).map unit
theorem units_len (n : Nat) : (units n).length = n := by unfold units; rw [List.length_map, List.length_range]
theorem units_snoc (n : Nat) : units (n + 1) = units n ++ [unit n] := by unfold units; rw [List.range_succ, List.map_append]; rfl
theorem unit_sound {k : Nat} (h : k < 61) : SoundJ (unit k) := ⟨by show (0 : Int) ≤ (k : Int); omega, by show (1 : Int) ≤ 1; omega, by show (k : Int) < 61; omega⟩
theorem units_sound {n : Nat} (h : n ≤ 60) : Sound (units n) := fun j hj => by
  obtain ⟨k, hk, rfl⟩ := List.mem_map.mp hj
  exact unit_sound (by have := List.mem_range.mp hk; omega)
theorem units_get {n i : Nat} (h : i < n) : (units n)[i]? = some (unit i) := by
  unfold units
  rw [List.getElem?_map, List.getElem?_range h]
  rfl
/-- what these ask for -/
theorem units_load : ∀ (n : Nat) (b e : Int), loadJ (units n) b e ≤ max 0 ((n : Int) - max 0 b) ∧ (e < 61 → loadJ (units n) b e = 0)
  | 0, b, e => by
    have : loadJ (units 0) b e = 0 := rfl
    rw [this]
    exact ⟨by omega, fun _ => rfl⟩
  | n + 1, b, e => by
    obtain ⟨h1, h2⟩ := units_load n b e
    rw [units_snoc, load_append, load_one]
    have hu : (unit n).1 = (n : Int) := rfl
    have hd : (unit n).2.2 = 61 := rfl
    have hl : (unit n).2.1 = 1 := rfl
    rw [hu, hd, hl]
    refine ⟨?_, fun h => ?_⟩
    · split <;> omega
    · rw [h2 h, if_neg (by omega)]
      rfl
theorem load_len {js : List T3} (h : ∀ j ∈ js, j.2.1 = 1) (b e : Int) : loadJ js b e ≤ (js.length : Int) := by
  induction js with
  | nil => exact Int.le_refl _
  | cons j r ih =>
    have ih := ih fun k hk => h k (List.mem_cons_of_mem _ hk)
    rw [show j :: r = [j] ++ r from rfl, load_append, load_one, List.length_append, List.length_singleton, h j List.mem_cons_self]
    split <;> omega
/-- some of the sixty -/
structure Some60 (js : List T3) : Prop where
  sub : js.Sublist (units 60)
theorem Some60.sound {js : List T3} (h : Some60 js) : Sound js := sound_sub h.sub (units_sound (Nat.le_refl _))
theorem Some60.load {js : List T3} (h : Some60 js) (b e : Int) : loadJ js b e ≤ max 0 (60 - max 0 b) ∧ loadJ js b e ≤ (js.length : Int) ∧ (e < 61 → loadJ js b e = 0) ∧ 0 ≤ loadJ js b e := by
  have h1 := load_sub h.sub (units_sound (Nat.le_refl _)) b e
  obtain ⟨h2, h3⟩ := units_load 60 b e
  have h4 := load_nn h.sound b e
  refine ⟨by omega, load_len (fun j hj => ?_) b e, fun g => by have := h3 g; omega, h4⟩
  obtain ⟨k, _, rfl⟩ := List.mem_map.mp (h.sub.subset hj)
  rfl
theorem Some60.fit {js : List T3} (h : Some60 js) : NoLate js (runM js) := by
  rw [noLate_iff h.sound (run_ok h.sound)]
  intro b e hbe
  obtain ⟨h1, h2, h3, h4⟩ := h.load b e
  rcases Int.lt_or_le e 61 with g | g
  · have := h3 g; omega
  · omega
def far : T3 := (0, 1, 900)
def big3 : T3 := (0, 3, 61)
theorem far_sound : SoundJ far := ⟨by decide, by decide, by decide⟩
theorem big3_sound : SoundJ big3 := ⟨by decide, by decide, by decide⟩
theorem far_fits {js : List T3} (h : Some60 js) (hl : js.length < 60) : NoLate (js ++ [far]) (runM (js ++ [far])) := by
  have S := sound_snoc h.sound far_sound
  rw [noLate_iff S (run_ok S)]
  intro b e hbe
  obtain ⟨h1, h2, h3, h4⟩ := h.load b e
  rw [load_append, load_one]
  have a1 : far.1 = 0 := rfl
  have a2 : far.2.2 = 900 := rfl
  have a3 : far.2.1 = 1 := rfl
  rw [a1, a2, a3]
  rcases Int.lt_or_le e 61 with g | g
  · have := h3 g
    split <;> omega
  · split <;> omega
theorem big_late {js : List T3} (h : Some60 js) (hl : js.length = 59) : ¬ NoLate (js ++ [big3]) (runM (js ++ [big3])) := by
  have S := sound_snoc h.sound big3_sound
  rw [noLate_iff S (run_ok S)]
  intro z
  have := z 0 61 (by decide)
  rw [load_append, load_one] at this
  have a1 : big3.1 = 0 := rfl
  have a2 : big3.2.2 = 61 := rfl
  have a3 : big3.2.1 = 3 := rfl
  rw [a1, a2, a3] at this
  have full : ∀ (xs : List T3), xs.Sublist (units 60) → loadJ xs 0 61 = (xs.length : Int) := fun xs hs => by
    have hm : ∀ j ∈ xs, ∃ k : Nat, j = unit k := fun j hj => by
      obtain ⟨k, _, e⟩ := List.mem_map.mp (hs.subset hj)
      exact ⟨k, e.symm⟩
    clear hs this
    induction xs with
    | nil => rfl
    | cons j r ih =>
      obtain ⟨k, rfl⟩ := hm j List.mem_cons_self
      rw [show unit k :: r = [unit k] ++ r from rfl, load_append, load_one, ih (fun x hx => hm x (List.mem_cons_of_mem _ hx)), List.length_append]
      have b1 : (unit k).1 = (k : Int) := rfl
      have b2 : (unit k).2.2 = 61 := rfl
      have b3 : (unit k).2.1 = 1 := rfl
      rw [b1, b2, b3, if_pos (by omega)]
      rfl
  rw [full js h.sub, hl, if_pos (by omega)] at this
  omega
theorem end_fits {js : List T3} (h : Some60 js) (hl : js.length ≤ 57) : NoLate ((js ++ [far]) ++ [big3]) (runM ((js ++ [far]) ++ [big3])) := by
  have S := sound_snoc (sound_snoc h.sound far_sound) big3_sound
  rw [noLate_iff S (run_ok S)]
  intro b e hbe
  obtain ⟨h1, h2, h3, h4⟩ := h.load b e
  rw [load_append, load_append, load_one, load_one]
  have a1 : far.1 = 0 := rfl
  have a2 : far.2.2 = 900 := rfl
  have a3 : far.2.1 = 1 := rfl
  have b1 : big3.1 = 0 := rfl
  have b2 : big3.2.2 = 61 := rfl
  have b3 : big3.2.1 = 3 := rfl
  rw [a1, a2, a3, b1, b2, b3]
  rcases Int.lt_or_le e 61 with g | g
  · have := h3 g
    rw [if_neg (by omega), if_neg (by omega)]
    omega
  · by_cases g2 : b ≤ 0
    · by_cases g3 : 900 ≤ e
      · rw [if_pos ⟨g2, g3⟩, if_pos ⟨g2, g⟩]; omega
      · rw [if_neg (by omega), if_pos ⟨g2, g⟩]; omega
    · rw [if_neg (by omega), if_neg (by omega)]; omega
section
variable {P : Program} {w : World} {K : PySem.W.Frag} {mg : Str → Option Value} {base : Heap} {H : Hp}
/-- [(k, 1, 61) for k in range(n)] -/
theorem etl_lcR {σ : St} {ta : TA} {te : TE} {jj : Nat} {vs : List Nat} {n : Nat} (v : Nat → T3) (h : EvA ta σ H [.int (n : Int)]) (hn : n ≤ 40000) (hw : ∀ x, wipe ((wipe σ vs).set jj (some x)) vs = wipe σ vs)
    (he : ∀ (i : Nat) H1, Ex H H1 → i < n → EvU te ((wipe σ vs).set jj (some (.int (i : Int)))) H1 (tv (v i))) : EvTL (tLc (iRng1 ta) (gName jj) tYes te vs) σ H ((List.range n).map v) := fun H0 e Q k => h H0 e _ fun H1 e1 => ⟨(n : Int), rfl, by omega, by omega, fun Dl hD => by
  refine lc_range (lo := 0) (n := (n : Int).toNat) (fun i H' => Ex H1 H' ∧ ∃ us : List Addr, H' Dl = some (.lst (us.map V.ref)) ∧ Tps H' us ((List.range i).map v)) ⟨Ex.new hD, [], upd_same, .nil⟩ (fun i H' hi pv => ?_) fun H' pv => ?_
  · obtain ⟨p1, us, p2, p3⟩ := pv
    rw [Int.toNat_natCast] at hi
    have e0 : (0 : Int) + (i : Int) = (i : Int) := Int.zero_add _
    show wipe ((wipe σ vs).set jj (some (.int ((0 : Int) + (i : Int))))) vs = wipe σ vs ∧ te ((wipe σ vs).set jj (some (.int ((0 : Int) + (i : Int))))) H' _
    rw [e0]
    refine ⟨hw _, he i H' ((e.trans e1).trans p1) hi H' (Ex.refl _) _ fun t H4 _ e4 ht => ?_⟩
    have hDl := e4 _ _ p2
    refine ⟨_, hDl, sz_lt (by rw [List.length_map, p3.len, List.length_map, List.length_range]; omega), Ex.mut (p1.trans e4) hD, us ++ [t], ?_, ?_⟩
    · rw [List.map_append]; exact upd_same
    · rw [List.range_succ, List.map_append]
      exact Tps.append ((p3.mono e4).keep (tup_upd hDl)) (.cons (tup_upd hDl _ _ ht) .nil)
  · obtain ⟨p1, us, p2, p3⟩ := pv
    rw [Int.toNat_natCast] at p3
    exact k Dl H' (fresh_back e1 hD) (e1.trans p1) ⟨us, p2, p3⟩⟩
/-- book.drop(..) != ..[..], as a test -/
theorem r_dropNe {σ : St} {to ti th tj : TE} {C b l ph : Addr} {E : XK} {js ks : List T3} {i : Nat} (ho : Ev to σ H (.ref b)) (hB : BookAt C H b l js) (hi : i < js.length) (h1 : Ev ti σ H (.int (i : Int))) (hne : ph ≠ l) (hT : TL H ph ks) (hk : ks[i]? = some js[i])
    (h2 : ∀ H1, Ev th σ H1 (.ref ph)) (h3 : ∀ H1, Ev tj σ H1 (.int (i : Int))) {R : Bool → Hp → Prop} (k : ∀ H', Mod l H H' → BookAt C H' b l (js.eraseIdx i) → R false H') :
    tTest (tOp (rNeD K) (tMeth C "drop" (spDrop C) [] E to (tCons ti tNil)) (tOp (rIxL K) th tj)) σ H R :=
  r_meth (by decide) ho hB (ea_cons h1 ea_nil) fun H1 e1 => ⟨b, l, js, i, hi, rfl, hB.mono e1, fun t H2 m2 hB2 ht => by
    have mH := (Mod.ex e1).trans m2
    obtain ⟨u, us, g1, g2, g3⟩ := (mH.tl hT hne).atI hk
    refine (ev_op (h2 H2) (h3 H2) (rv_ixL (SqL.of g1) (atI_nat g2)) : Ev (tOp (rIxL K) th tj) σ H2 (.ref u)) H2 (Ex.refl _) _ fun H3 e3 => ?_
    refine rv_neJ (e3 _ _ ht) (e3 _ _ g3) H3 (Ex.refl _) _ fun H4 e4 => ⟨_, rfl, ?_⟩
    have := k H4 ((mH.trans (Mod.ex e3)).trans (Mod.ex e4)) ((hB2.mono e3).mono e4)
    rw [decide_eq_true rfl]
    exact this⟩
end
end DLL
namespace DLL
open PySem PySem.Spec PyProof.Rows L2 Evl DL
section
variable {σ : St} {H : Hp} {D : Ends} {ta tb te : TE} {A B : TT} {u : TS} {tz : TS} {K : PySem.W.Frag}
theorem q_ifOr (hA : EvT A σ H false) (k : ∀ H1, Ex H H1 → tSeq (tIfS B u tNext) tz D σ H1) : tSeq (tIfS (tOr A B) u tNext) tz D σ H :=
  hA H (Ex.refl H) _ fun H1 e1 => by
    show B σ H1 _
    exact k H1 e1
theorem ite_no {X Y : Prop} (h : Y) : if (!decide (V.non = V.non)) = true then X else Y := by
  rw [decide_eq_true rfl]
  exact h
theorem ite_yes {X Y : Prop} (h : X) : if (decide (V.non = V.non)) = true then X else Y := by
  rw [decide_eq_true rfl]
  exact h
theorem rv_addS {a b : Str} (h : a.length + b.length ≤ 100000) : RV (fun x y H Q => ∃ i j, x = .str i ∧ y = .str j ∧ i.length + j.length ≤ sizeLine ∧ Q (.str (i ++ j)) H) (.str a) (.str b) H (.str (a ++ b)) := fun H1 _ Q k => ⟨a, b, rfl, rfl, sz_of h, k H1 (Ex.refl _)⟩
/-- a new list against one that stands, against a new one -/
theorem et_neTL1 {js ks : List T3} {p : Addr} (ha : EvTL ta σ H js) (hb : ∀ H1, Ex H H1 → Ev tb σ H1 (.ref p)) (hp : TL H p ks) : EvT (tTest (tOp (rNeD K) ta tb)) σ H (!decide (js = ks)) := fun H1 e Q k =>
  ha H1 e _ fun a H2 _ e2 h2 => hb H2 (e.trans e2) H2 (Ex.refl _) _ fun H3 e3 => rv_neT (h2.mono e3) (hp.mono ((e.trans e2).trans e3)) H3 (Ex.refl _) _ fun H4 e4 => ⟨_, rfl, k H4 ((e2.trans e3).trans e4)⟩
theorem et_neTL2 {js ks : List T3} (ha : EvTL ta σ H js) (hb : EvTL tb σ H ks) : EvT (tTest (tOp (rNeD K) ta tb)) σ H (!decide (js = ks)) := fun H1 e Q k =>
  ha H1 e _ fun a H2 _ e2 h2 => hb H2 (e.trans e2) _ fun b H3 _ e3 h3 => rv_neT (h2.mono e3) h3 H3 (Ex.refl _) _ fun H4 e4 => ⟨_, rfl, k H4 ((e2.trans e3).trans e4)⟩
theorem ev_eqTL2 {js ks : List T3} (ha : EvTL ta σ H js) (hb : EvTL tb σ H ks) : Ev (tOp (rEqD K) ta tb) σ H (.bl (decide (js = ks))) := fun H1 e Q k =>
  ha H1 e _ fun a H2 _ e2 h2 => hb H2 (e.trans e2) _ fun b H3 _ e3 h3 => rv_eqT (h2.mono e3) h3 H3 (Ex.refl _) _ fun H4 e4 => k H4 ((e2.trans e3).trans e4)
theorem ev_eqTL1 {js ks : List T3} {p : Addr} (ha : EvTL ta σ H js) (hb : ∀ H1, Ex H H1 → Ev tb σ H1 (.ref p)) (hp : TL H p ks) : Ev (tOp (rEqD K) ta tb) σ H (.bl (decide (js = ks))) := fun H1 e Q k =>
  ha H1 e _ fun a H2 _ e2 h2 => hb H2 (e.trans e2) H2 (Ex.refl _) _ fun H3 e3 => rv_eqT (h2.mono e3) (hp.mono ((e.trans e2).trans e3)) H3 (Ex.refl _) _ fun H4 e4 => k H4 ((e2.trans e3).trans e4)
theorem thing_of {t : Addr} {j : T3} (h : AtT H t j) : ThingV K H (.ref t) (some j) := .inr ⟨_, _, rfl, h, (by show 3 ≤ 1000; decide), fun y hy => by
  unfold tv at hy
  simp only [List.mem_cons, List.not_mem_nil, or_false] at hy
  rcases hy with e | e | e <;> exact ⟨"int", st_int, by rw [e]; exact .int _⟩, rfl⟩
end
section
variable {P : Program} {w : World} {K : PySem.W.Frag} {mg : Str → Option Value} {base : Heap} {H : Hp}
theorem ev_takenLate {σ : St} {ta tb tc : TE} {E : XK} {C b ph l : Addr} {js : List T3} {j : T3} (h1 : Ev ta σ H (.ref b)) (h2 : Ev tb σ H (.ref ph)) (h3 : EvU tc σ H (tv j)) (hB : BookAt C H b l js) (hT : TL H ph js) (hne : ph ≠ l) (hj : SoundJ j) (hl : js.length < 60) (N : ¬ NoLate (js ++ [j]) (runM (js ++ [j]))) :
    Ev (tCall (spTaken C) [] E (tCons ta (tCons tb (tCons tc tNil)))) σ H (.ref ph) := fun H1 e Q k =>
  h1 H1 e _ fun H2 e2 => h2 H2 (e.trans e2) _ fun H3 e3 => h3 H3 ((e.trans e2).trans e3) _ fun t H4 _ e4 ht => by
    have e14 := ((e.trans e2).trans e3).trans e4
    exact ⟨b, ph, t, l, js, j, rfl, hB.mono e14, hT.mono e14, hne, ht, hj, hl, fun n => absurd n N, fun _ H5 e5 => k H5 (((e2.trans e3).trans e4).trans e5)⟩
def foundAt : Nat → Str
  | 0 => ""
  | 1 => "many "
  | 2 => "many many "
  | _ => "many many job"
def spFull (C : Addr) : Sp := fun vs H Q _ => ∃ (b l : Addr) (i : Nat), vs = [.ref b, .int (i : Int)] ∧ BookAt C H b l [] ∧ i < 60 ∧ ∀ H', Q (.bl true) H'
theorem sixty (h : Some60 (units 60)) : True := trivial
theorem some60 : Some60 (units 60) := ⟨List.Sublist.refl _⟩
theorem units_sub {n : Nat} (h : n ≤ 60) : Some60 (units n) := ⟨by
  unfold units
  refine List.Sublist.map _ ?_
  have : List.range n = (List.range 60).take n := by rw [List.take_range, Nat.min_eq_left h]
  rw [this]
  exact List.take_sublist _ _⟩
set_option maxHeartbeats 0 in
theorem ok_law_full (T : TX K mg) : FnOk P w K mg base CX0 9 T.f_law_full T.d_law_full ["_law_book", "_law_place"] (spFull T.c_Book) := by
  refine T.h_law_full.F.ok sc_law_full (fun vs H Q E h => ?_) (fun cdv A outer s H vs Q E hr h => ?_)
  · obtain ⟨_, _, _, rfl, _⟩ := h
    rfl
  · obtain ⟨b, l, i, rfl, hB, hi, q⟩ := h
    refine ⟨_, (pss_cons (ps_for PassesOwn.never rfl (pi_range1 (by rfl) T.b_range (pa_cons pe_int pa_nil)) (pg_name (i := 2) sc_law_full.nd rfl (.inl rfl))
    (pss_one (ps_if (pt_cmpR op_notN (pe_meth (pv 0) T.cl_Book T.me_Book_take (ok_Book_take T) (hr.mono (by decide)) T.h_Book_take.b .nil pass0 (pa_cons (pe_tup (pa_cons (pv 2) (pa_cons pe_int (pa_cons pe_int pa_nil)))) pa_nil)) pe_non (nomark _))
    (pss_one (ps_ret pe_bl))
    pss_nil)))
  (pss_cons (ps_set (i := 3) sc_law_full.nd rfl (.inl rfl) pe_str)
  (pss_cons (ps_for PassesOwn.never rfl (pi_list (pe_lst (pa_cons (pe_tup (pa_cons pe_int (pa_cons pe_int (pa_cons pe_int pa_nil)))) (pa_cons (pe_tup (pa_cons pe_int (pa_cons pe_int (pa_cons pe_int pa_nil)))) (pa_cons (pe_tup (pa_cons pe_int (pa_cons pe_int (pa_cons pe_int pa_nil)))) pa_nil))))) (pg_name (i := 4) sc_law_full.nd rfl (.inl rfl))
    (pss_one (ps_try_many rfl rfl takes0 (fun W pn xe tk _ => (pss_one (ps_expr (pe_mtry (pv 0) T.cl_Book T.me_Book_take (okx_Book_take T) (hr.mono (by decide)) T.h_Book_take.b (fun σ => passAt tk σ) (pa_cons (pv 4) pa_nil))))) (.cons ⟨rfl, by decide, .inl T.g_TooMany⟩ (fun a oe cls d pn _ _ => (pss_one (ps_set (i := 3) sc_law_full.nd rfl (.inl rfl) (pe_op op_add_str (pv 3) pe_str)))) (.cons ⟨rfl, by decide, .inl T.g_BadJob⟩ (fun a oe cls d pn _ _ => (pss_one (ps_set (i := 3) sc_law_full.nd rfl (.inl rfl) (pe_op op_add_str (pv 3) pe_str)))) .nil)))))
  (pss_cons (ps_setLc (i := 5) (own := [("_law_k", 2)]) (g := (gName 2)) (tt := tYes) rfl sc_law_full.nd rfl rfl (sw_true rfl rfl rfl (by decide +kernel)) (pi_range1 (by rfl) T.b_range (pa_cons pe_int pa_nil)) (blkOk_by (own := [("_law_k", 2)]) (N := N_law_full) (sc := defScope s_law_full) (by decide +kernel)) (fun _ _ _ _ _ => (pg_name (i := 2) sc_law_full.nd rfl (.inl rfl))) (fun _ _ _ _ _ => pts_nil) (fun _ _ _ _ _ => (pe_tup (pa_cons (pv 2) (pa_cons pe_int (pa_cons pe_int pa_nil))))))
  (pss_cons (ps_if (PW.pt (pw_or (pt_cmpR op_ne (pv 3) pe_str (nomark _)) (pw_or (pt_cmpR (r := rNeD K) (op_neD hr.units) (pe_meth0 (pv 0) T.cl_Book T.me_Book_listed (ok_Book_listed T) (hr.mono (by decide)) T.h_Book_listed.b .nil pass0) (pv 5) (nomark _)) (pw_or1 (pt_cmpR (r := rNeD K) (op_neD hr.units) (pe_meth (pv 0) T.cl_Book T.me_Book_drop (ok_Book_drop T) (hr.mono (by decide)) T.h_Book_drop.b .nil pass0 (pa_cons (pv 1) pa_nil)) (pe_ix (r := rIxL K) ix_list (pv 5) (pv 1) (fun _ _ => rfl)) (nomark _))))))
    (pss_one (ps_ret pe_bl))
    pss_nil)
  (pss_cons (ps_set (i := 5) sc_law_full.nd rfl (.inl rfl) (pe_op op_cat (pe_slice (r := rSlL K) sl_list (pv 5) po_none (po_some (pv 1))) (pe_slice (r := rSlL K) sl_list (pv 5) (po_some (pe_op op_add (pv 1) pe_int)) po_none)))
  (pss_cons (ps_if (PW.pt (pw_or (pt_cmpR (r := rNeD K) (op_neD hr.units) (pe_call (ok_law_taken T) (hr.mono (by decide)) (by rfl) T.h_law_taken.g T.h_law_taken.F.kp T.h_law_taken.b .nil pass0 (pa_cons (pv 0) (pa_cons (pv 5) (pa_cons (pe_tup (pa_cons pe_int (pa_cons pe_int (pa_cons pe_int pa_nil)))) pa_nil)))) (pv 5) (nomark _)) (pw_or1 (pt_cmpR op_notN (pe_meth (pv 0) T.cl_Book T.me_Book_take (ok_Book_take T) (hr.mono (by decide)) T.h_Book_take.b .nil pass0 (pa_cons (pe_tup (pa_cons pe_int (pa_cons pe_int (pa_cons pe_int pa_nil)))) pa_nil)) pe_non (nomark _)))))
    (pss_one (ps_ret pe_bl))
    pss_nil)
  (pss_cons (ps_try_many rfl rfl takes0 (fun W pn xe tk _ => (pss_one (ps_expr (pe_mtry (pv 0) T.cl_Book T.me_Book_take (okx_Book_take T) (hr.mono (by decide)) T.h_Book_take.b (fun σ => passAt tk σ) (pa_cons (pe_tup (pa_cons pe_int (pa_cons pe_int (pa_cons pe_int pa_nil)))) pa_nil))))) (.cons ⟨rfl, by decide, .inl T.g_TooMany⟩ (fun a oe cls d pn _ _ => (pss_one (ps_set (i := 5) sc_law_full.nd rfl (.inl rfl) (pe_op op_cat (pv 5) (pe_lst (pa_cons (pe_tup (pa_cons pe_int (pa_cons pe_int (pa_cons pe_int pa_nil)))) pa_nil)))))) .nil))
  (pss_cons (ps_if (PW.pt (pw_or (pt_cmpR op_lt (pe_callB (id := "len") (r := Evl.rLenS K) call_len_seq (by rfl) T.b_len PySem.boot_len (pa_cons (pv 5) pa_nil)) pe_int (nomark _)) (pw_or (pt_cmpR (r := rNeD K) (op_neD hr.units) (pe_meth0 (pv 0) T.cl_Book T.me_Book_listed (ok_Book_listed T) (hr.mono (by decide)) T.h_Book_listed.b .nil pass0) (pv 5) (nomark _)) (pw_or1 (pt_cmpR (r := rNeD K) (op_neD hr.units) (pe_meth0 (pv 0) T.cl_Book T.me_Book_plan (ok_Book_plan T) (hr.mono (by decide)) T.h_Book_plan.b .nil pass0) (pe_call (ok_run T) (hr.mono (by decide)) (by rfl) T.h_run.g T.h_run.F.kp T.h_run.b .nil pass0 (pa_cons (pv 5) pa_nil)) (nomark _))))))
    (pss_one (ps_ret pe_bl))
    pss_nil)
  (pss_cons (ps_expr (pe_meth (pv 0) T.cl_Book T.me_Book_drop (ok_Book_drop T) (hr.mono (by decide)) T.h_Book_drop.b .nil pass0 (pa_cons pe_int pa_nil)))
  (pss_cons (ps_expr (pe_meth (pv 0) T.cl_Book T.me_Book_drop (ok_Book_drop T) (hr.mono (by decide)) T.h_Book_drop.b .nil pass0 (pa_cons pe_int pa_nil)))
  (pss_one (ps_ret (pe_and (pe_cmpR op_isN (pe_meth (pv 0) T.cl_Book T.me_Book_take (ok_Book_take T) (hr.mono (by decide)) T.h_Book_take.b .nil pass0 (pa_cons (pe_tup (pa_cons pe_int (pa_cons pe_int (pa_cons pe_int pa_nil)))) pa_nil)) pe_non (nomark _)) (pe_one (pe_cmpR (r := rEqD K) (op_eqD hr.units) (pe_meth0 (pv 0) T.cl_Book T.me_Book_listed (ok_Book_listed T) (hr.mono (by decide)) T.h_Book_listed.b .nil pass0) (pe_op op_cat (pe_slice (r := rSlL K) sl_list (pv 5) (po_some pe_int) po_none) (pe_lst (pa_cons (pe_tup (pa_cons pe_int (pa_cons pe_int (pa_cons pe_int pa_nil)))) pa_nil))) (nomark _))))))))))))))))), ?_⟩
    refine q_forR1 (n := 60) (ea_cons ev_c ea_nil) (by decide) (fun k σ' H' => ∃ x2, σ' = [some (.ref b), some (.int (i : Int)), x2, none, none, none] ∧ BookAt T.c_Book H' b l (units k)) (fun H1 e1 => ⟨none, rfl, hB.mono e1⟩) ?_ ?_
    · rintro k σ' H' hk ⟨x2, rfl, hBk⟩
      have hk6 : k < 60 := by omega
      refine r_methU (by decide) (ev_var rfl) hBk (eu_three (a := (k : Int)) (b := 1) (c := 61) (ev_var rfl) ev_c ev_c) fun t H1 nt e1 ht => ⟨b, t, l, units k, unit k, rfl, hBk.mono e1, ht, unit_sound (by omega), by rw [units_len]; exact hk6, fun N H2 m2 hB2 => ⟨rfl, _, rfl, ite_no ⟨_, rfl, ?_⟩⟩, fun N => absurd ?_ N⟩
      · rw [units_snoc]
        exact hB2
      · rw [← units_snoc]
        exact (units_sub (by omega)).fit
    · rintro σ' H1 ⟨x2, rfl, hB1⟩
      have hB1 : BookAt T.c_Book H1 b l (units 60) := hB1
      refine q_asg ev_c fun H2 e2 => ?_
      have hB2 := hB1.mono e2
      refine q_forNTL (js := [far, big3, (0, 1, 0)]) (etl_lst (ets_cons (eu_three ev_c ev_c ev_c) (ets_cons (eu_three ev_c ev_c ev_c) (ets_cons (eu_three ev_c ev_c ev_c) ets_nil))) (show 3 ≤ 100000 by decide)) (fun p k σ' H' => ∃ x4, σ' = [some (.ref b), some (.int (i : Int)), x2, some (.str (foundAt k)), x4, none] ∧ TL H' p [far, big3, (0, 1, 0)] ∧ BookAt T.c_Book H' b l (units 60))
        (fun p H3 np e3 hp => ⟨none, rfl, hp, hB2.mono e3⟩) (fun p k σ' H' _ ⟨_, _, h, _⟩ => h) ?_ ?_
      · rintro p k jj t σ' H' hk ht ⟨x4, rfl, hp, hBk⟩
        have hl60 : 60 ≤ (units 60).length := by rw [units_len]; exact Nat.le_refl _
        match k, hk with
        | 0, hk =>
          cases hk
          refine r_mtry (vs := [.ref t]) (by decide) (ev_var rfl) hBk (ea_cons (ev_var rfl) ea_nil) fun H3 e3 => ⟨b, l, .ref t, _, some far, rfl, hBk.mono e3, thing_of (e3 _ _ ht), .inr ⟨soundB_iff.mpr far_sound, hl60, fun H4 e4 => ⟨true, T.e_TooMany_TooMany, fun _ a _ => ?_, fun z => Bool.noConfusion z⟩⟩⟩
          exact s_asg (v := .str (foundAt 1)) (ev_is (ev_op (ev_var rfl) ev_c (rv_addS (by decide))) rfl) fun H5 e5 => ⟨_, rfl, hp.mono ((e3.trans e4).trans e5), hBk.mono ((e3.trans e4).trans e5)⟩
        | 1, hk =>
          cases hk
          refine r_mtry (vs := [.ref t]) (by decide) (ev_var rfl) hBk (ea_cons (ev_var rfl) ea_nil) fun H3 e3 => ⟨b, l, .ref t, _, some big3, rfl, hBk.mono e3, thing_of (e3 _ _ ht), .inr ⟨soundB_iff.mpr big3_sound, hl60, fun H4 e4 => ⟨true, T.e_TooMany_TooMany, fun _ a _ => ?_, fun z => Bool.noConfusion z⟩⟩⟩
          exact s_asg (v := .str (foundAt 2)) (ev_is (ev_op (ev_var rfl) ev_c (rv_addS (by decide))) (by decide +kernel)) fun H5 e5 => ⟨_, rfl, hp.mono ((e3.trans e4).trans e5), hBk.mono ((e3.trans e4).trans e5)⟩
        | 2, hk =>
          cases hk
          refine r_mtry (vs := [.ref t]) (by decide) (ev_var rfl) hBk (ea_cons (ev_var rfl) ea_nil) fun H3 e3 => ⟨b, l, .ref t, _, some (0, 1, 0), rfl, hBk.mono e3, thing_of (e3 _ _ ht), .inl ⟨by decide, fun H4 e4 => ⟨false, T.e_BadJob_TooMany, fun z => Bool.noConfusion z, fun _ => ⟨true, T.e_BadJob_BadJob, fun _ a _ => ?_, fun z => Bool.noConfusion z⟩⟩⟩⟩
          exact s_asg (v := .str (foundAt 3)) (ev_is (ev_op (ev_var rfl) ev_c (rv_addS (by decide))) (by decide +kernel)) fun H5 e5 => ⟨_, rfl, hp.mono ((e3.trans e4).trans e5), hBk.mono ((e3.trans e4).trans e5)⟩
      · rintro p σ' H3 ⟨x4, rfl, hp3, hB3⟩
        refine q_asgTL (js := units 60) (etl_lcR unit (ea_cons ev_c ea_nil) (by decide) (fun x => rfl) fun k H4 _ _ => eu_three (a := (k : Int)) (b := 1) (c := 61) (ev_var rfl) ev_c ev_c) fun pj H4 nj e4 hj => ?_
        have hB4 := hB3.mono e4
        have hne : pj ≠ l := fun z => by
          subst z
          obtain ⟨o, ho⟩ := tl_some hB3.tl
          rw [ho] at nj
          cases nj
        have hil : i < (units 60).length := by rw [units_len]; exact hi
        refine q_ifOr (et_is (et_test (ev_op (ev_var rfl) ev_c (rv_ne rfl))) (by decide +kernel)) fun H5 e5 => q_ifOr (et_is (et_neTL1 (etl_listed (ev_var rfl) (hB4.mono e5)) (fun H6 _ => ev_var rfl) (hj.mono e5)) (by rw [decide_eq_true rfl]; rfl)) fun H6 e6 => ?_
        have e46 := e5.trans e6
        refine r_dropNe (ev_var rfl) (hB4.mono e46) hil (ev_var rfl) hne (hj.mono e46) (List.getElem?_eq_getElem hil) (fun H7 => ev_var rfl) (fun H7 => ev_var rfl) fun H7 m7 hB7 => ?_
        have hj7 := m7.tl (hj.mono e46) hne
        refine q_asgTL (etl_less (i := i) (ev_var rfl) (ev_var rfl) (ev_var rfl) (ev_is (v := .int ((i : Int) + 1)) (by walk_at "ev") rfl) hj7 (by rw [units_len]; decide)) fun pk H8 nk e8 hk8 => ?_
        have hB8 := hB7.mono e8
        have hnk : pk ≠ l := fun z => by
          subst z
          obtain ⟨o, ho⟩ := tl_some hB7.tl
          rw [ho] at nk
          cases nk
        have s59 : Some60 ((units 60).eraseIdx i) := ⟨List.eraseIdx_sublist _ _⟩
        have l59 : ((units 60).eraseIdx i).length = 59 := by rw [List.length_eraseIdx_of_lt hil, units_len]
        generalize (units 60).eraseIdx i = U at *
        refine q_ifOr (et_is (et_test (ev_op (ev_takenLate (ev_var rfl) (ev_var rfl) (eu_three ev_c ev_c ev_c) hB8 hk8 hnk big3_sound (by omega) (big_late s59 l59)) (ev_var rfl) (rv_neT hk8 hk8))) (by rw [decide_eq_true rfl]; rfl)) fun H9 e9 => ?_
        have hB9 := hB8.mono e9
        refine r_methU (by decide) (ev_var rfl) hB9 (eu_three (a := 0) (b := 1) (c := 900) ev_c ev_c ev_c) fun t H10 nt e10 ht => ⟨b, t, l, U, far, rfl, hB9.mono e10, ht, far_sound, by omega, fun N H11 m11 hB11 => ⟨rfl, _, rfl, ite_no ?_⟩, fun N => absurd (far_fits s59 (by omega)) N⟩
        have hk11 := m11.tl ((hk8.mono e9).mono e10) hnk
        have lf : (U ++ [far]).length = 60 := by rw [List.length_append, l59]; rfl
        refine r_mtryU (xs := tv far) (by decide) (ev_var rfl) hB11 (eu_three (a := 0) (b := 1) (c := 900) ev_c ev_c ev_c) fun t2 H12 nt2 e12 ht2 => ⟨b, l, .ref t2, _, some far, rfl, hB11.mono e12, thing_of ht2, .inr ⟨soundB_iff.mpr far_sound, by rw [lf]; exact Nat.le_refl _, fun H13 e13 => ⟨true, T.e_TooMany_TooMany, fun _ a _ => ?_, fun z => Bool.noConfusion z⟩⟩⟩
        refine s_asgTL (js := U ++ [far]) (etl_catV (ev_var rfl) ((hk11.mono e12).mono e13) (etl_one (eu_three (a := 0) (b := 1) (c := 900) ev_c ev_c ev_c)) (by show _ + 1 ≤ _; omega)) fun pm H14 nm e14 hm => ?_
        have hB14 := ((hB11.mono e12).mono e13).mono e14
        refine q_when (b := decide ((60 : Int) > ((U ++ [far]).length : Int)) || (!decide (U ++ [far] = U ++ [far]) || !decide (runM (U ++ [far]) = runM (U ++ [far])))) (et_or (et_test (ev_op (ev_lenT (ev_var rfl) hm) ev_c rv_I0)) fun _ => et_or (et_neTL1 (etl_listed (ev_var rfl) hB14) (fun H6 _ => ev_var rfl) hm) fun _ => et_neTL2 (etl_plan (ev_var rfl) hB14) (etl_runR (ea_cons (ev_var rfl) ea_nil) hm (by rw [lf]; exact Nat.le_refl _) hB14.snd)) (fun hb H15 e15 => ?_) (fun hb H15 e15 => ?_)
        · rw [lf, decide_eq_true rfl, decide_eq_true rfl] at hb
          cases hb
        have hB15 := hB14.mono e15
        have hm15 := hm.mono e15
        obtain ⟨a0, a1, r, rfl⟩ : ∃ a0 a1 r, U = a0 :: a1 :: r := by
          match U, l59 with
          | a0 :: a1 :: r, _ => exact ⟨a0, a1, r, rfl⟩
        have hnm : pm ≠ l := fun z => by
          subst z
          obtain ⟨o, ho⟩ := tl_some (((hB11.mono e12).mono e13)).tl
          rw [ho] at nm
          cases nm
        refine r_meth (vs := [.int 0]) (by decide) (ev_var rfl) hB15 (ea_cons ev_c ea_nil) fun H16 e16 => ⟨b, l, _, 0, by rw [lf]; decide, rfl, hB15.mono e16, fun t3 H17 m17 hB17 _ => ?_⟩
        have hm17 := ((Mod.ex e16).trans m17).tl hm15 hnm
        refine r_meth (vs := [.int 0]) (by decide) (ev_var rfl) hB17 (ea_cons ev_c ea_nil) fun H18 e18 => ⟨b, l, _, 0, by show 0 < (a1 :: (r ++ [far])).length; exact Nat.zero_lt_succ _, rfl, hB17.mono e18, fun t4 H19 m19 hB19 _ => ?_⟩
        have hm19 := ((Mod.ex e18).trans m19).tl hm17 hnm
        have hB19 : BookAt T.c_Book H19 b l (r ++ [far]) := hB19
        have sr : Some60 r := ⟨((List.sublist_cons_self a1 r).trans (List.sublist_cons_self a0 _)).trans s59.sub⟩
        have lr : r.length = 57 := by rw [List.length_cons, List.length_cons] at l59; omega
        refine r_methU (by decide) (ev_var rfl) hB19 (eu_three (a := 0) (b := 3) (c := 61) ev_c ev_c ev_c) fun t5 H20 nt5 e20 ht5 => ⟨b, t5, l, _, big3, rfl, hB19.mono e20, ht5, big3_sound, by rw [List.length_append, lr]; decide, fun N H21 m21 hB21 => ⟨rfl, _, rfl, ite_yes ?_⟩, fun N => absurd (end_fits sr (by omega)) N⟩
        have hm21 := ((Mod.ex e20).trans m21).tl hm19 hnm
        refine (ev_eqTL2 (js := (r ++ [far]) ++ [big3]) (ks := (r ++ [far]) ++ [big3]) (etl_listed (ev_var rfl) hB21) (etl_is (etl_cat (etl_drop (n := 2) (ev_var rfl) ev_c hm21) (etl_one (eu_three (a := 0) (b := 3) (c := 61) ev_c ev_c ev_c)) (by rw [List.length_drop, lf]; decide)) rfl)) H21 (Ex.refl _) _ fun H22 _ => ?_
        rw [decide_eq_true rfl]
        exact q H22
end
end DLL
namespace DLL
open PySem PySem.Spec PyProof.Rows L2 Evl DL
theorem noLate_one {j : T3} (h : SoundJ j) (hl : j.2.1 ≤ j.2.2 - j.1) : NoLate [j] (runM [j]) := by
  have S : Sound [j] := fun x hx => by rw [List.mem_singleton.mp hx]; exact h
  rw [noLate_iff S (run_ok S)]
  intro b e hbe
  rw [load_one]
  have := h.2.1
  split <;> omega
section
variable {P : Program} {w : World} {K : PySem.W.Frag} {mg : Str → Option Value} {base : Heap} {H : Hp}
theorem ne_fresh {C : Addr} {H : Hp} {b l p : Addr} {js : List T3} (hB : BookAt C H b l js) (h : H p = none) : p ≠ l := fun z => by
  subst z
  obtain ⟨o, ho⟩ := tl_some hB.tl
  rw [ho] at h
  cases h
/-- a call of the law's taking: the list that comes is the one held then -/
theorem r_taken {σ : St} {ta tb tc : TE} {E : XK} {C b l t : Addr} {js : List T3} {j : T3} {Q : VK} (h1 : Ev ta σ H (.ref b)) (h2 : EvTL tb σ H js) (h3 : Ev tc σ H (.ref t)) (hB : BookAt C H b l js) (ht : AtT H t j) (hj : SoundJ j) (hl : js.length < 60)
    (k : ∀ pa js' H', pa ≠ l → Mod l H H' → BookAt C H' b l js' → TL H' pa js' → js'.length ≤ js.length + 1 → Q (.ref pa) H') : tCall (spTaken C) [] E (tCons ta (tCons tb (tCons tc tNil))) σ H Q :=
  h1 H (Ex.refl H) _ fun H1 e1 => h2 H1 e1 _ fun pn H2 nn e2 hn => h3 H2 (e1.trans e2) _ fun H3 e3 => by
    have e13 := (e1.trans e2).trans e3
    have hne : pn ≠ l := ne_fresh (hB.mono e1) nn
    exact ⟨b, pn, t, l, js, j, rfl, hB.mono e13, hn.mono e3, hne, e13 _ _ ht, hj, hl, fun N q H4 nq m4 hB4 hq => k q _ H4 (ne_fresh (hB.mono e13) nq) ((Mod.ex e13).trans m4) hB4 hq (by rw [List.length_append]; exact Nat.le_refl _),
      fun N H4 e4 => k pn js H4 hne (Mod.ex (e13.trans e4)) (hB.mono (e13.trans e4)) ((hn.mono e3).mono e4) (by omega)⟩
theorem ev_walkL {σ : St} {ta tb : TE} {E : XK} {p : Addr} {js ps : List T3} (h : Ev ta σ H (.ref p)) (h2 : EvTL tb σ H ps) (hT : TL H p js) (hl : js.length ≤ 60) (R : RunOk js ps) (N : NoLate js ps) : Ev (tCall spWalk [] E (tCons ta (tCons tb tNil))) σ H (.bl true) := fun H1 e Q k =>
  h H1 e _ fun H2 e2 => h2 H2 (e.trans e2) _ fun pp H3 _ e3 hp => ⟨p, pp, js, ps, rfl, hT.mono ((e.trans e2).trans e3), hp, hl, R, N, fun H4 e4 => k H4 ((e2.trans e3).trans e4)⟩
def spMany (C : Addr) : Sp := fun vs H Q _ => ∃ (b l : Addr) (c n : Int), vs = [.ref b, .int c, .int n] ∧ BookAt C H b l [] ∧ 0 ≤ n ∧ n ≤ 30 ∧ ∀ H', Q (.bl true) H'
set_option maxHeartbeats 0 in
theorem ok_law_many (T : TX K mg) : FnOk P w K mg base CX0 9 T.f_law_many T.d_law_many ["_law_book", "_law_cell", "_law_count"] (spMany T.c_Book) := by
  refine T.h_law_many.F.ok sc_law_many (fun vs H Q E h => ?_) (fun cdv A outer s H vs Q E hr h => ?_)
  · obtain ⟨_, _, _, _, rfl, _⟩ := h
    rfl
  · obtain ⟨b, l, c, n, rfl, hB, hn0, hn1, q⟩ := h
    refine ⟨_, (pss_cons (ps_set (i := 3) sc_law_many.nd rfl (.inl rfl) (pe_lst pa_nil))
  (pss_cons (ps_for PassesOwn.never rfl (pi_range1 (by rfl) T.b_range (pa_cons (pv 2) pa_nil)) (pg_name (i := 4) sc_law_many.nd rfl (.inl rfl))
    (pss_cons (ps_set (i := 5) sc_law_many.nd rfl (.inl rfl) (pe_op op_mod (pe_op op_mul (pe_op op_add (pe_op op_add (pv 1) (pe_op op_mul pe_int (pv 4))) pe_int) pe_int) pe_int))
  (pss_cons (ps_set (i := 6) sc_law_many.nd rfl (.inl rfl) (pe_op op_mod (pv 5) pe_int))
  (pss_cons (ps_set (i := 7) sc_law_many.nd rfl (.inl rfl) (pe_tup (pa_cons (pv 6) (pa_cons (pe_op op_add pe_int (pe_op op_mod (pe_op op_fdiv (pv 5) pe_int) pe_int)) (pa_cons (pe_op op_add (pe_op op_add (pv 6) pe_int) (pe_op op_mod (pe_op op_fdiv (pv 5) pe_int) pe_int)) pa_nil)))))
  (pss_cons (ps_set (i := 8) sc_law_many.nd rfl (.inl rfl) (pe_call (ok_law_taken T) (hr.mono (by decide)) (by rfl) T.h_law_taken.g T.h_law_taken.F.kp T.h_law_taken.b .nil pass0 (pa_cons (pv 0) (pa_cons (pv 3) (pa_cons (pv 7) pa_nil)))))
  (Evl.pss_cut (ps_if (pt_cmpR (r := rEqD K) (op_eqD hr.units) (pv 8) (pv 3) (nomark _))
    (pss_cons (ps_set (i := 9) sc_law_many.nd rfl (.inl rfl) (pe_op op_mod (pe_op op_fdiv (pv 5) pe_int) (pe_callB (id := "len") (r := Evl.rLenS K) call_len_seq (by rfl) T.b_len PySem.boot_len (pa_cons (pv 3) pa_nil))))
  (pss_cons (ps_if (pt_cmpR (r := rNeD K) (op_neD hr.units) (pe_meth (pv 0) T.cl_Book T.me_Book_drop (ok_Book_drop T) (hr.mono (by decide)) T.h_Book_drop.b .nil pass0 (pa_cons (pv 9) pa_nil)) (pe_ix (r := rIxL K) ix_list (pv 3) (pv 9) (fun _ _ => rfl)) (nomark _))
    (pss_one (ps_ret pe_bl))
    pss_nil)
  (pss_one (ps_set (i := 8) sc_law_many.nd rfl (.inl rfl) (pe_call (ok_law_taken T) (hr.mono (by decide)) (by rfl) T.h_law_taken.g T.h_law_taken.F.kp T.h_law_taken.b .nil pass0 (pa_cons (pv 0) (pa_cons (pe_op op_cat (pe_slice (r := rSlL K) sl_list (pv 3) po_none (po_some (pv 9))) (pe_slice (r := rSlL K) sl_list (pv 3) (po_some (pe_op op_add (pv 9) pe_int)) po_none)) (pa_cons (pv 7) pa_nil))))))))
    pss_nil)
  (pss_cons (ps_if (PW.pt (pw_or (pt_cmpR op_isN (pv 8) pe_non (nomark _)) (pw_or1 (pt_cmpR (r := rNeD K) (op_neD hr.units) (pe_meth0 (pv 0) T.cl_Book T.me_Book_listed (ok_Book_listed T) (hr.mono (by decide)) T.h_Book_listed.b .nil pass0) (pv 8) (nomark _)))))
    (pss_one (ps_ret pe_bl))
    pss_nil)
  (pss_cons (ps_set (i := 3) sc_law_many.nd rfl (.inl rfl) (pv 8))
  (pss_one (ps_if (PW.pt (pw_and (pt_cmpR op_eq (pe_op op_mod (pv 4) pe_int) pe_int (nomark _)) (pw_and1 (pt_truth (pv 3) (by intro _; rfl)))))
    (pss_cons (ps_set (i := 9) sc_law_many.nd rfl (.inl rfl) (pe_op op_mod (pe_op op_fdiv (pv 5) pe_int) (pe_callB (id := "len") (r := Evl.rLenS K) call_len_seq (by rfl) T.b_len PySem.boot_len (pa_cons (pv 3) pa_nil))))
  (pss_cons (ps_if (pt_cmpR (r := rNeD K) (op_neD hr.units) (pe_meth (pv 0) T.cl_Book T.me_Book_drop (ok_Book_drop T) (hr.mono (by decide)) T.h_Book_drop.b .nil pass0 (pa_cons (pv 9) pa_nil)) (pe_ix (r := rIxL K) ix_list (pv 3) (pv 9) (fun _ _ => rfl)) (nomark _))
    (pss_one (ps_ret pe_bl))
    pss_nil)
  (pss_one (ps_set (i := 3) sc_law_many.nd rfl (.inl rfl) (pe_op op_cat (pe_slice (r := rSlL K) sl_list (pv 3) po_none (po_some (pv 9))) (pe_slice (r := rSlL K) sl_list (pv 3) (po_some (pe_op op_add (pv 9) pe_int)) po_none))))))
    pss_nil))))))))))
  (pss_one (ps_ret (pe_and (pe_cmpR (r := rEqD K) (op_eqD hr.units) (pe_meth0 (pv 0) T.cl_Book T.me_Book_listed (ok_Book_listed T) (hr.mono (by decide)) T.h_Book_listed.b .nil pass0) (pv 3) (nomark _)) (pe_one (pe_call (ok_law_meets T) (hr.mono (by decide)) (by rfl) T.h_law_meets.g T.h_law_meets.F.kp T.h_law_meets.b .nil pass0 (pa_cons (pv 3) (pa_cons (pe_meth0 (pv 0) T.cl_Book T.me_Book_plan (ok_Book_plan T) (hr.mono (by decide)) T.h_Book_plan.b .nil pass0) pa_nil))))))))), ?_⟩
    refine q_asgTL etl_nil fun ph0 H1 np e1 hp0 => ?_
    have hne0 : ph0 ≠ l := ne_fresh hB np
    refine q_forR1 (n := n) (ea_cons (ev_var rfl) ea_nil) ⟨hn0, by omega⟩ (fun k σ' H' => ∃ (ph : Addr) (js : List T3) (x4 x5 x6 x7 x8 x9 : Option V), σ' = [some (.ref b), some (.int c), some (.int n), some (.ref ph), x4, x5, x6, x7, x8, x9] ∧ BookAt T.c_Book H' b l js ∧ TL H' ph js ∧ ph ≠ l ∧ js.length ≤ k)
      (fun H2 e2 => ⟨ph0, [], none, none, none, none, none, none, rfl, (hB.mono e1).mono e2, hp0.mono e2, hne0, Nat.le_refl _⟩) ?_ ?_
    · rintro k σ' H' hk ⟨ph, js, x4, x5, x6, x7, x8, x9, rfl, hBk, hT, hne, hlk⟩
      refine q_asg (v := .int ((c + 7 * (k : Int) + 1) * 48271 % 2147483647)) (by walk_at "ev") fun H2 e2 => ?_
      have hm0 : 0 ≤ (c + 7 * (k : Int) + 1) * 48271 % 2147483647 := Int.emod_nonneg _ (by decide)
      generalize (c + 7 * (k : Int) + 1) * 48271 % 2147483647 = mix at *
      refine q_asg (v := .int (mix % 40)) (by walk_at "ev") fun H3 e3 => ?_
      refine q_asgU (eu_three (a := mix % 40) (b := 1 + mix / 40 % 9) (c := mix % 40 + 9 + mix / 360 % 14) (ev_var rfl) (by walk_at "ev") (by walk_at "ev")) fun t H4 nt e4 ht => ?_
      have e24 := (e2.trans e3).trans e4
      have hj : SoundJ (mix % 40, 1 + mix / 40 % 9, mix % 40 + 9 + mix / 360 % 14) := ⟨by show 0 ≤ mix % 40; omega, by show 1 ≤ 1 + mix / 40 % 9; omega, by show mix % 40 < mix % 40 + 9 + mix / 360 % 14; omega⟩
      have h1j := noLate_one hj (by show 1 + mix / 40 % 9 ≤ mix % 40 + 9 + mix / 360 % 14 - mix % 40; omega)
      have ht : AtT H4 t (mix % 40, 1 + mix / 40 % 9, mix % 40 + 9 + mix / 360 % 14) := ht
      generalize ((mix % 40, 1 + mix / 40 % 9, mix % 40 + 9 + mix / 360 % 14) : T3) = j at *
      have hk30 : k < 30 := by omega
      -- behind the takings, and the tail
      obtain ⟨Mid, hMid⟩ : ∃ Mid : St → Hp → Prop, Mid = fun σ' H' => ∃ (pa : Addr) (js' : List T3) (x3 x6 x7 x9 : Option V), σ' = [some (.ref b), some (.int c), some (.int n), x3, some (.int (k : Int)), some (.int mix), x6, x7, some (.ref pa), x9] ∧ BookAt T.c_Book H' b l js' ∧ TL H' pa js' ∧ pa ≠ l ∧ js'.length ≤ k + 1 := ⟨_, rfl⟩
      have hB4 := hBk.mono e24
      have hT4 := hT.mono e24
      refine q_asgC (ea_cons (ev_var rfl) (ea_cons (ev_var rfl) (ea_cons (ev_var rfl) ea_nil))) fun H5 e5 => ⟨b, ph, t, l, js, j, rfl, hB4.mono e5, hT4.mono e5, hne, e5 _ _ ht, hj, by omega, fun N q2 H6 nq m6 hB6 hq => ?_, fun N H6 e6 => ?_⟩
      · have hneq : decide (js ++ [j] = js) = false := decide_eq_false fun z => by
          have := congrArg List.length z
          rw [List.length_append, List.length_singleton] at this
          omega
        have hT6 := m6.tl (hT4.mono e5) hne
        refine q_cut (M := Mid) ?_ ?_
        · refine s_when (b := decide (js ++ [j] = js)) (et_test (ev_op (ev_var rfl) (ev_var rfl) (rv_eqT hq hT6))) (fun hb H7 e7 => by rw [hneq] at hb; cases hb) (fun hb H7 e7 => ?_)
          rw [hMid]
          exact ⟨q2, _, _, _, _, _, rfl, hB6.mono e7, hq.mono e7, ne_fresh (hB4.mono e5) nq, by rw [List.length_append, List.length_singleton]; omega⟩
        · intro σ' H' hM
          rw [hMid] at hM
          obtain ⟨pa, js2, y3, y6, y7, y9, rfl, hB7, hT7, hne7, hl7⟩ := hM
          refine q_when (b := decide (V.ref pa = V.non) || !decide (js2 = js2)) (et_or (et_test (ev_op (ev_var rfl) ev_c rv_isN)) fun _ => et_neTL1 (etl_listed (ev_var rfl) hB7) (fun _ _ => ev_var rfl) hT7) (fun hb H8 e8 => by simp at hb) (fun hb H8 e8 => ?_)
          refine q_asg (ev_var rfl) fun H9 e9 => ?_
          have hB9 := (hB7.mono e8).mono e9
          have hT9 := (hT7.mono e8).mono e9
          refine s_when (b := decide (V.int ((k : Int) % 4) = V.int 3) && !js2.isEmpty) (et_and (by walk_at "evt") fun _ => et_truL (ev_var rfl) hT9) (fun hb2 H10 e10 => ?_) (fun hb2 H10 e10 => ⟨pa, js2, _, _, _, _, _, _, rfl, hB9.mono e10, hT9.mono e10, hne7, hl7⟩)
          have hl0 : 0 < js2.length := by
            have := (Bool.and_eq_true_iff.mp hb2).2
            cases js2 with
            | nil => cases this
            | cons a r => exact Nat.zero_lt_succ _
          obtain ⟨i, hi, hi2⟩ : ∃ i : Nat, mix / 5040 % (js2.length : Int) = (i : Int) ∧ i < js2.length := ⟨(mix / 5040 % (js2.length : Int)).toNat, by have := Int.emod_nonneg (mix / 5040) (show (js2.length : Int) ≠ 0 by omega); omega, by have := Int.emod_nonneg (mix / 5040) (show (js2.length : Int) ≠ 0 by omega); have := Int.emod_lt_of_pos (mix / 5040) (show 0 < (js2.length : Int) by omega); omega⟩
          refine q_asg (v := .int (i : Int)) (ev_is (v := .int (mix / 5040 % (js2.length : Int))) (ev_op (by walk_at "ev") (ev_lenT (ev_var rfl) (hT9.mono e10)) (rv_I (show 0 < (js2.length : Int) by omega))) (by rw [hi])) fun H11 e11 => ?_
          have e911 := e10.trans e11
          refine r_dropNe (ev_var rfl) (hB9.mono e911) hi2 (ev_var rfl) hne7 (hT9.mono e911) (List.getElem?_eq_getElem hi2) (fun _ => ev_var rfl) (fun _ => ev_var rfl) fun H12 m12 hB12 => ?_
          have hT12 := m12.tl (hT9.mono e911) hne7
          refine s_asgTL (etl_less (i := i) (ev_var rfl) (ev_var rfl) (ev_var rfl) (ev_is (v := .int ((i : Int) + 1)) (by walk_at "ev") rfl) hT12 (by omega)) fun pd H13 nd e13 hd => ?_
          exact ⟨pd, js2.eraseIdx i, _, _, _, _, _, _, rfl, hB12.mono e13, hd, ne_fresh hB12 nd, by have := List.length_eraseIdx_of_lt hi2; omega⟩
      · have hne0 : js ≠ [] := fun z => by
          subst z
          exact N h1j
        have hl0 : 0 < js.length := List.length_pos_iff.mpr hne0
        have hB6 := (hB4.mono e5).mono e6
        have hT6 := (hT4.mono e5).mono e6
        have ht6 := e6 _ _ (e5 _ _ ht)
        refine q_cut (M := Mid) ?_ ?_
        · refine s_if (b := decide (js = js)) (et_test (ev_op (ev_var rfl) (ev_var rfl) (rv_eqT hT6 hT6))) (fun hb H7 e7 => ?_) (fun hb H7 e7 => by rw [decide_eq_true rfl] at hb; cases hb)
          obtain ⟨i, hi, hi2⟩ : ∃ i : Nat, mix / 5040 % (js.length : Int) = (i : Int) ∧ i < js.length := ⟨(mix / 5040 % (js.length : Int)).toNat, by have := Int.emod_nonneg (mix / 5040) (show (js.length : Int) ≠ 0 by omega); omega, by have := Int.emod_nonneg (mix / 5040) (show (js.length : Int) ≠ 0 by omega); have := Int.emod_lt_of_pos (mix / 5040) (show 0 < (js.length : Int) by omega); omega⟩
          refine q_asg (v := .int (i : Int)) (ev_is (v := .int (mix / 5040 % (js.length : Int))) (ev_op (by walk_at "ev") (ev_lenT (ev_var rfl) (hT6.mono e7)) (rv_I (show 0 < (js.length : Int) by omega))) (by rw [hi])) fun H8 e8 => ?_
          have e78 := e7.trans e8
          refine r_dropNe (ev_var rfl) (hB6.mono e78) hi2 (ev_var rfl) hne (hT6.mono e78) (List.getElem?_eq_getElem hi2) (fun H9 => ev_var rfl) (fun H9 => ev_var rfl) fun H9 m9 hB9 => ?_
          have hT9 := m9.tl (hT6.mono e78) hne
          have ht9 := m9.tup _ _ (e78 _ _ ht6)
          have hle := (List.eraseIdx_sublist js i).length_le
          refine r_taken (ev_var rfl) (etl_less (i := i) (ev_var rfl) (ev_var rfl) (ev_var rfl) (ev_is (v := .int ((i : Int) + 1)) (by walk_at "ev") rfl) hT9 (by omega)) (ev_var rfl) hB9 ht9 hj (by omega) fun pa js' H10 hpa m10 hB10 hT10 hl10 => ?_
          rw [hMid]
          exact ⟨pa, js', _, _, _, _, rfl, hB10, hT10, hpa, by have := List.length_eraseIdx_of_lt hi2; omega⟩
        · intro σ' H' hM
          rw [hMid] at hM
          obtain ⟨pa, js2, y3, y6, y7, y9, rfl, hB7, hT7, hne7, hl7⟩ := hM
          refine q_when (b := decide (V.ref pa = V.non) || !decide (js2 = js2)) (et_or (et_test (ev_op (ev_var rfl) ev_c rv_isN)) fun _ => et_neTL1 (etl_listed (ev_var rfl) hB7) (fun _ _ => ev_var rfl) hT7) (fun hb H8 e8 => by simp at hb) (fun hb H8 e8 => ?_)
          refine q_asg (ev_var rfl) fun H9 e9 => ?_
          have hB9 := (hB7.mono e8).mono e9
          have hT9 := (hT7.mono e8).mono e9
          refine s_when (b := decide (V.int ((k : Int) % 4) = V.int 3) && !js2.isEmpty) (et_and (by walk_at "evt") fun _ => et_truL (ev_var rfl) hT9) (fun hb2 H10 e10 => ?_) (fun hb2 H10 e10 => ⟨pa, js2, _, _, _, _, _, _, rfl, hB9.mono e10, hT9.mono e10, hne7, hl7⟩)
          have hl0 : 0 < js2.length := by
            have := (Bool.and_eq_true_iff.mp hb2).2
            cases js2 with
            | nil => cases this
            | cons a r => exact Nat.zero_lt_succ _
          obtain ⟨i, hi, hi2⟩ : ∃ i : Nat, mix / 5040 % (js2.length : Int) = (i : Int) ∧ i < js2.length := ⟨(mix / 5040 % (js2.length : Int)).toNat, by have := Int.emod_nonneg (mix / 5040) (show (js2.length : Int) ≠ 0 by omega); omega, by have := Int.emod_nonneg (mix / 5040) (show (js2.length : Int) ≠ 0 by omega); have := Int.emod_lt_of_pos (mix / 5040) (show 0 < (js2.length : Int) by omega); omega⟩
          refine q_asg (v := .int (i : Int)) (ev_is (v := .int (mix / 5040 % (js2.length : Int))) (ev_op (by walk_at "ev") (ev_lenT (ev_var rfl) (hT9.mono e10)) (rv_I (show 0 < (js2.length : Int) by omega))) (by rw [hi])) fun H11 e11 => ?_
          have e911 := e10.trans e11
          refine r_dropNe (ev_var rfl) (hB9.mono e911) hi2 (ev_var rfl) hne7 (hT9.mono e911) (List.getElem?_eq_getElem hi2) (fun _ => ev_var rfl) (fun _ => ev_var rfl) fun H12 m12 hB12 => ?_
          have hT12 := m12.tl (hT9.mono e911) hne7
          refine s_asgTL (etl_less (i := i) (ev_var rfl) (ev_var rfl) (ev_var rfl) (ev_is (v := .int ((i : Int) + 1)) (by walk_at "ev") rfl) hT12 (by omega)) fun pd H13 nd e13 hd => ?_
          exact ⟨pd, js2.eraseIdx i, _, _, _, _, _, _, rfl, hB12.mono e13, hd, ne_fresh hB12 nd, by have := List.length_eraseIdx_of_lt hi2; omega⟩
    · rintro σ' H' ⟨ph, js, x4, x5, x6, x7, x8, x9, rfl, hBk, hT, hne, hlk⟩
      refine s_ret (v := .bl (decide (js = js) && true)) (ev_andV (ev_eqTL1 (etl_listed (ev_var rfl) hBk) (fun H6 _ => ev_var rfl) hT) fun _ => ev_walkL (ev_var rfl) (etl_plan (ev_var rfl) hBk) hT hBk.len (run_ok hBk.snd) hBk.fit) fun H2 _ => ?_
      rw [decide_eq_true rfl]
      exact q H2
end
end DLL
namespace DLL
open PySem PySem.Spec PyProof.Rows L2 Evl DL
/-! ### two books, what is held, what is kept -/
section
variable {K : PySem.W.Frag} {σ : St} {H : Hp} {D : Ends} {tu tz : TS}
/-- over a new list of whole numbers -/
theorem s_forNIL {ns : List Int} {tl : TE} {jj : Nat} (h : EvL tl σ H (ns.map V.int)) (Pv : Addr → Nat → St → Hp → Prop) (h0 : ∀ p H1, H p = none → Ex H H1 → IL H1 p ns → Pv p 0 σ H1) (hl : ∀ p i σ' H', i ≤ ns.length → Pv p i σ' H' → IL H' p ns)
    (hs : ∀ p i x σ' H', ns[i]? = some x → Pv p i σ' H' → tu { D with nx := Pv p (i + 1), ct := Pv p (i + 1), bk := D.nx } (σ'.set jj (some (.int x))) H') (hd : ∀ p σ' H', Pv p ns.length σ' H' → D.nx σ' H') : tFor (iList K tl) (gName jj) tu D σ H :=
  h H (Ex.refl H) _ fun p H1 np e h1 => by
    have := s_forIL (K := K) (σ := σ) (H := H1) (D := D) (tu := tu) (jj := jj) (tl := fun _ H' Q => Q (.ref p) H') (fun H2 e2 Q q => q H2 (Ex.refl H2)) (show IL H1 p ns from h1) (Pv p) (fun H2 e2 => h0 p H2 np (e.trans e2) (IL.mono e2 h1)) (hl p) (hs p) (hd p)
    exact this
theorem q_forNIL {ns : List Int} {tl : TE} {jj : Nat} (h : EvL tl σ H (ns.map V.int)) (Pv : Addr → Nat → St → Hp → Prop) (h0 : ∀ p H1, H p = none → Ex H H1 → IL H1 p ns → Pv p 0 σ H1) (hl : ∀ p i σ' H', i ≤ ns.length → Pv p i σ' H' → IL H' p ns)
    (hs : ∀ p i x σ' H', ns[i]? = some x → Pv p i σ' H' → tu { D with nx := Pv p (i + 1), ct := Pv p (i + 1), bk := tz D } (σ'.set jj (some (.int x))) H') (hd : ∀ p σ' H', Pv p ns.length σ' H' → tz D σ' H') : tSeq (tFor (iList K tl) (gName jj) tu) tz D σ H :=
  s_forNIL (D := { D with nx := tz D }) h Pv h0 hl hs hd
end
def KP (M : List Addr) (H : Hp) (t : Addr) : Prop := ∃ (u v x y x' y' : Addr) (js ps : List T3), H t = some (.tup [.ref u, .ref v]) ∧ H u = some (.tup [.ref x, .ref y]) ∧ H v = some (.tup [.ref x', .ref y']) ∧
  TL H x js ∧ TL H y ps ∧ TL H x' js ∧ TL H y' ps ∧ x ∉ M ∧ y ∉ M ∧ x' ∉ M ∧ y' ∉ M
theorem KP.mono {M : List Addr} {H H' : Hp} {t : Addr} (e : Ex H H') (h : KP M H t) : KP M H' t := by
  obtain ⟨u, v, x, y, x', y', js, ps, h1, h2, h3, h4, h5, h6, h7, h8⟩ := h
  exact ⟨u, v, x, y, x', y', js, ps, e _ _ h1, e _ _ h2, e _ _ h3, h4.mono e, h5.mono e, h6.mono e, h7.mono e, h8⟩
theorem KP.mod {M : List Addr} {H H' : Hp} {t m : Addr} (d : Mod m H H') (hm : m ∈ M) (h : KP M H t) : KP M H' t := by
  obtain ⟨u, v, x, y, x', y', js, ps, h1, h2, h3, h4, h5, h6, h7, h8, h9, h10, h11⟩ := h
  have ne : ∀ {z : Addr}, z ∉ M → z ≠ m := fun hz e => hz (by rw [e]; exact hm)
  exact ⟨u, v, x, y, x', y', js, ps, d.tup _ _ h1, d.tup _ _ h2, d.tup _ _ h3, d.tl h4 (ne h8), d.tl h5 (ne h9), d.tl h6 (ne h10), d.tl h7 (ne h11), h8, h9, h10, h11⟩
structure W2 (C : Addr) (H : Hp) (pB ph pk pS : Addr) (b l : Nat → Addr) (js hs : Nat → List T3) (hd : Nat → Addr) (ks : List Addr) (ns : List Int) : Prop where
  hB : H pB = some (.lst [.ref (b 0), .ref (b 1)])
  hH : H ph = some (.lst [.ref (hd 0), .ref (hd 1)])
  bk : ∀ w, w < 2 → BookAt C H (b w) (l w) (js w)
  tl : ∀ w, w < 2 → TL H (hd w) (hs w)
  hn : ∀ w, w < 2 → hd w ∉ [l 0, l 1, ph, pk]
  kl : H pk = some (.lst (ks.map V.ref))
  kt : ∀ t ∈ ks, KP [l 0, l 1, ph, pk] H t
  il : IL H pS ns
  ne : l 0 ≠ l 1 ∧ l 0 ≠ ph ∧ l 0 ≠ pk ∧ l 1 ≠ ph ∧ l 1 ≠ pk ∧ ph ≠ pk ∧ pB ∉ [l 0, l 1, ph, pk] ∧ pS ∉ [l 0, l 1, ph, pk]
section
variable {C : Addr} {H H' : Hp} {pB ph pk pS : Addr} {b l : Nat → Addr} {js hs : Nat → List T3} {hd : Nat → Addr} {ks : List Addr} {ns : List Int}
theorem W2.mono (e : Ex H H') (h : W2 C H pB ph pk pS b l js hs hd ks ns) : W2 C H' pB ph pk pS b l js hs hd ks ns :=
  ⟨e _ _ h.hB, e _ _ h.hH, fun w hw => (h.bk w hw).mono e, fun w hw => (h.tl w hw).mono e, h.hn, e _ _ h.kl, fun t ht => (h.kt t ht).mono e, h.il.mono e, h.ne⟩
theorem two {w : Nat} (h : w < 2) : w = 0 ∨ w = 1 := by omega
theorem not4 {z a b c d : Addr} (h : z ∉ [a, b, c, d]) : z ≠ a ∧ z ≠ b ∧ z ≠ c ∧ z ≠ d := by
  simp only [List.mem_cons, List.not_mem_nil, or_false, not_or] at h
  exact h
/-- the book at w changes -/
theorem W2.book {w : Nat} (hw : w < 2) {js' : List T3} (m : Mod (l w) H H') (hB' : BookAt C H' (b w) (l w) js') (h : W2 C H pB ph pk pS b l js hs hd ks ns) : W2 C H' pB ph pk pS b l (fun v => if v = w then js' else js v) hs hd ks ns := by
  obtain ⟨n1, n2, n3, n4, n5, n6, n7, n8⟩ := h.ne
  have n7 := not4 n7
  have n8 := not4 n8
  have mem : l w ∈ [l 0, l 1, ph, pk] := by rcases two hw with rfl | rfl <;> simp
  have nb : ∀ {z : Addr}, z ≠ l 0 → z ≠ l 1 → z ≠ l w := fun h0 h1 => by rcases two hw with rfl | rfl <;> assumption
  have hl : ∃ xs, H (l w) = some (.lst xs) := tl_lst (h.bk w hw).tl
  refine ⟨m.but _ _ (nb n7.1 n7.2.1) h.hB, m.but _ _ (nb n2.symm n4.symm) h.hH, fun v hv => ?_, fun v hv => m.tl (h.tl v hv) (nb (not4 (h.hn v hv)).1 (not4 (h.hn v hv)).2.1), h.hn, m.but _ _ (nb n3.symm n5.symm) h.kl, fun t ht => (h.kt t ht).mod m mem, m.il h.il (nb n8.1 n8.2.1), h.ne⟩
  by_cases e : v = w
  · rw [if_pos e, e]
    exact hB'
  · rw [if_neg e]
    refine (h.bk v hv).mod m hl ?_
    rcases two hv with rfl | rfl <;> rcases two hw with rfl | rfl
    · exact absurd rfl e
    · exact n1
    · exact n1.symm
    · exact absurd rfl e
/-- what is held at w is another list -/
theorem W2.hold {w : Nat} (hw : w < 2) {pa : Addr} {ks' : List T3} (hT : TL H pa ks') (hn : pa ∉ [l 0, l 1, ph, pk]) (h : W2 C H pB ph pk pS b l js hs hd ks ns) :
    W2 C (upd H ph (.lst ([V.ref (hd 0), V.ref (hd 1)].set w (.ref pa)))) pB ph pk pS b l js (fun v => if v = w then ks' else hs v) (fun v => if v = w then pa else hd v) ks ns := by
  have m : Mod ph H (upd H ph (.lst ([V.ref (hd 0), V.ref (hd 1)].set w (.ref pa)))) := Mod.upd h.hH
  obtain ⟨n1, n2, n3, n4, n5, n6, n7, n8⟩ := h.ne
  have n7 := not4 n7
  have n8 := not4 n8
  refine ⟨m.but _ _ n7.2.2.1 h.hB, ?_, fun v hv => (h.bk v hv).mod m ⟨_, h.hH⟩ (by rcases two hv with rfl | rfl <;> assumption), fun v hv => ?_, fun v hv => ?_, m.but _ _ n6.symm h.kl, fun t ht => (h.kt t ht).mod m (by simp), m.il h.il n8.2.2.1, h.ne⟩
  · rw [upd_same]
    rcases two hw with rfl | rfl <;> rfl
  · by_cases e : v = w
    · rw [if_pos e, if_pos e]
      exact m.tl hT (not4 hn).2.2.1
    · rw [if_neg e, if_neg e]
      exact m.tl (h.tl v hv) (not4 (h.hn v hv)).2.2.1
  · by_cases e : v = w
    · rw [if_pos e]; exact hn
    · rw [if_neg e]; exact h.hn v hv
/-- one more is kept -/
theorem W2.keep {t : Addr} (ht : KP [l 0, l 1, ph, pk] H t) (h : W2 C H pB ph pk pS b l js hs hd ks ns) : W2 C (upd H pk (.lst (ks.map V.ref ++ [.ref t]))) pB ph pk pS b l js hs hd (ks ++ [t]) ns := by
  have m : Mod pk H (upd H pk (.lst (ks.map V.ref ++ [.ref t]))) := Mod.upd h.kl
  obtain ⟨n1, n2, n3, n4, n5, n6, n7, n8⟩ := h.ne
  have n7 := not4 n7
  have n8 := not4 n8
  refine ⟨m.but _ _ n7.2.2.2 h.hB, m.but _ _ n6 h.hH, fun v hv => (h.bk v hv).mod m ⟨_, h.kl⟩ (by rcases two hv with rfl | rfl <;> assumption), fun v hv => m.tl (h.tl v hv) (not4 (h.hn v hv)).2.2.2, h.hn, by rw [upd_same, List.map_append]; rfl, fun u hu => ?_, m.il h.il n8.2.2.2, h.ne⟩
  rcases List.mem_append.mp hu with z | z
  · exact (h.kt u z).mod m (by simp)
  · rw [List.mem_singleton.mp z]
    exact ht.mod m (by simp)
/-- what is new is none of these -/
theorem W2.fresh (h : W2 C H pB ph pk pS b l js hs hd ks ns) {z : Addr} (hz : H z = none) : z ∉ [l 0, l 1, ph, pk] := fun hm => by
  simp only [List.mem_cons, List.not_mem_nil, or_false] at hm
  rcases hm with e | e | e | e
  · exact ne_fresh (h.bk 0 (by decide)) hz e
  · exact ne_fresh (h.bk 1 (by decide)) hz e
  · rw [e, h.hH] at hz; cases hz
  · rw [e, h.kl] at hz; cases hz
end
section
variable {K : PySem.W.Frag} {σ : St} {H : Hp} {D : Ends} {ta tb tc td te to : TE} {tu tz : TS} {C : Addr}
theorem tl_dp {p : Addr} {js : List T3} (h : TL H p js) : Dp K H (.ref p) (.list (js.map tD)) := h.dp
def toldD (js ps : List T3) : PyData := .tuple [.list (js.map tD), .list (ps.map tD)]
theorem lay_told (js ps : List T3) : PyData.canLay0 (toldD js ps) = true := by
  show (PyData.canLayAll0 (js.map tD) && (PyData.canLayAll0 (ps.map tD) && true)) = true
  rw [lay_trip, lay_trip]
  rfl
theorem sh_told (js ps : List T3) : SeqAt.shaped (toldD js ps) = true := by
  unfold SeqAt.shaped
  rw [Bool.and_eq_true]
  refine ⟨lay_told js ps, decide_eq_true ?_⟩
  have h1 := dep_trip js
  have h2 := dep_trip ps
  show max (PyData.depthAll (js.map tD) + 1) (max (PyData.depthAll (ps.map tD) + 1) (PyData.depthAll [])) + 1 ≤ 64
  have h3 : PyData.depthAll [] ≤ 1 := by decide
  omega
theorem rv_neTold {u v x y x' y' : Addr} {js ps : List T3} (h1 : H u = some (.tup [.ref x, .ref y])) (h2 : H v = some (.tup [.ref x', .ref y'])) (a : TL H x js) (b : TL H y ps) (a' : TL H x' js) (b' : TL H y' ps) : RV (rNeD K) (.ref u) (.ref v) H (.bl false) := fun H1 e Q k =>
  ⟨_, _, .tup (SqT.of (e _ _ h1)) (.cons (a.mono e).dp (.cons (b.mono e).dp .nil)), .tup (SqT.of (e _ _ h2)) (.cons (a'.mono e).dp (.cons (b'.mono e).dp .nil)), sh_told js ps, sh_told js ps, by
    show Q (.bl (!(toldD js ps).eqv (toldD js ps))) H1
    rw [SeqAt.eqv_refl _ (lay_told js ps)]
    exact k H1 (Ex.refl H1)⟩
/-- a list of two new books -/
theorem q_books {i : Nat} (g0 : EvB C ta σ H) (g1 : EvB C tb σ H) (k : ∀ (b l : Nat → Addr) p H1, Ex H H1 → (∀ w, w < 2 → BookAt C H1 (b w) (l w) []) → l 0 ≠ l 1 → p ≠ l 0 → p ≠ l 1 → H1 p = some (.lst [.ref (b 0), .ref (b 1)]) → tz D (σ.set i (some (.ref p))) H1) :
    tSeq (tAsg (tLst (tCons ta (tCons tb tNil))) (gName i)) tz D σ H :=
  g0 H (Ex.refl H) _ fun b0 l0 H1 nb0 nl0 e1 h0 => g1 H1 e1 _ fun b1 l1 H2 nb1 nl1 e2 h1 => ⟨sz_of (show 2 ≤ 100000 by decide), fun p np => by
    have e3 : Ex H2 (upd H2 p (.lst [.ref b0, .ref b1])) := Ex.new np
    refine k (fun w => if w = 0 then b0 else b1) (fun w => if w = 0 then l0 else l1) p _ ((e1.trans e2).trans e3) (fun w hw => ?_) (ne_fresh h0 nl1).symm (ne_fresh (h0.mono e2) np) (ne_fresh h1 np) upd_same
    rcases two hw with rfl | rfl
    · exact (h0.mono e2).mono e3
    · exact h1.mono e3⟩
theorem q_twoNil {i : Nat} (g0 : EvTL ta σ H []) (g1 : EvTL tb σ H []) (k : ∀ (hd : Nat → Addr) p H1, Ex H H1 → (∀ w, w < 2 → TL H1 (hd w) [] ∧ H (hd w) = none ∧ p ≠ hd w) → H p = none → H1 p = some (.lst [.ref (hd 0), .ref (hd 1)]) → tz D (σ.set i (some (.ref p))) H1) :
    tSeq (tAsg (tLst (tCons ta (tCons tb tNil))) (gName i)) tz D σ H :=
  g0 H (Ex.refl H) _ fun h0 H1 n0 e1 t0 => g1 H1 e1 _ fun h1 H2 n1 e2 t1 => ⟨sz_of (show 2 ≤ 100000 by decide), fun p np => by
    have e3 : Ex H2 (upd H2 p (.lst [.ref h0, .ref h1])) := Ex.new np
    refine k (fun w => if w = 0 then h0 else h1) p _ ((e1.trans e2).trans e3) (fun w hw => ?_) (fresh_back (e1.trans e2) np) upd_same
    have nep : ∀ {z : Addr} {js : List T3}, TL H2 z js → p ≠ z := fun hz e => by
      subst e
      obtain ⟨o, ho⟩ := tl_some hz
      rw [ho] at np
      cases np
    rcases two hw with rfl | rfl
    · exact ⟨(t0.mono e2).mono e3, n0, nep (t0.mono e2)⟩
    · exact ⟨t1.mono e3, fresh_back e1 n1, nep t1⟩⟩
theorem s_retBook {sp : Sp} {E' : XK} {x y : V} (g0 : EvB C ta σ H) (hb : ∀ H1, Ex H H1 → Ev tb σ H1 x) (hc : ∀ H1, Ex H H1 → Ev tc σ H1 y) (k : ∀ b l H1, BookAt C H1 b l [] → sp [.ref b, x, y] H1 D.rt E') :
    tRet (tCall sp [] E' (tCons ta (tCons tb (tCons tc tNil)))) D σ H :=
  g0 H (Ex.refl H) _ fun b l H1 nb nl e1 hB => hb H1 e1 H1 (Ex.refl _) _ fun H2 e2 => hc H2 (e1.trans e2) H2 (Ex.refl _) _ fun H3 e3 => k b l H3 (hB.mono (e2.trans e3))
/-- (a new list, a new list) -/
theorem q_asg2TL {i : Nat} {js ps : List T3} (h1 : EvTL ta σ H js) (h2 : EvTL tb σ H ps) (k : ∀ u x y H1, H x = none → H y = none → Ex H H1 → H1 u = some (.tup [.ref x, .ref y]) → TL H1 x js → TL H1 y ps → tz D (σ.set i (some (.ref u))) H1) :
    tSeq (tAsg (tTup (tCons ta (tCons tb tNil))) (gName i)) tz D σ H :=
  h1 H (Ex.refl H) _ fun x H1 nx e1 hx => h2 H1 e1 _ fun y H2 ny e2 hy => ⟨sz_of (show 2 ≤ 100000 by decide), fun u nu => k u x y _ nx (fresh_back e1 ny) ((e1.trans e2).trans (Ex.new nu)) upd_same ((hx.mono e2).mono (Ex.new nu)) (hy.mono (Ex.new nu))⟩
/-- kept.append((told, (a copy, a copy))) -/
theorem q_keep {pk u x y : Addr} {xs : List V} {M : List Addr} {js ps : List T3} (hl : H pk = some (.lst xs)) (hz : xs.length < 100000) (ha : Ev ta σ H (.ref pk)) (hu : Ev tb σ H (.ref u)) (h1 : H u = some (.tup [.ref x, .ref y])) (hx : TL H x js) (hy : TL H y ps) (nx : x ∉ M) (ny : y ∉ M)
    (hM : ∀ z, H z = none → z ∉ M) (hc : EvTL tc σ H js) (hd : EvTL td σ H ps) (k : ∀ t H1, Ex H H1 → KP M H1 t → tz D σ (upd H1 pk (.lst (xs ++ [.ref t])))) :
    tSeq (tDrop (tBM K "list" rAppend ta (tCons (tTup (tCons tb (tCons (tTup (tCons tc (tCons td tNil))) tNil))) tNil))) tz D σ H :=
  ha H (Ex.refl H) _ fun H1 e1 => ⟨Or.inl ⟨rfl, xs, SqL.of (e1 _ _ hl)⟩, hu H1 e1 _ fun H2 e2 => hc H2 (e1.trans e2) _ fun x' H3 nx' e3 hx' => hd H3 ((e1.trans e2).trans e3) _ fun y' H4 ny' e4 hy' => ⟨sz_of (show 2 ≤ 100000 by decide), fun v nv => by
    have e14 := ((e1.trans e2).trans e3).trans e4
    have e5 : Ex H4 (upd H4 v (.tup [.ref x', .ref y'])) := Ex.new nv
    refine ⟨sz_of (show 2 ≤ 100000 by decide), fun t nt => ?_⟩
    have e6 : Ex (upd H4 v (.tup [.ref x', .ref y'])) (upd (upd H4 v (.tup [.ref x', .ref y'])) t (.tup [.ref u, .ref v])) := Ex.new nt
    have eA := (e14.trans e5).trans e6
    refine ⟨pk, xs, .ref t, rfl, rfl, eA _ _ hl, sz_lt hz, k t _ eA ⟨u, v, x, y, x', y', js, ps, upd_same, eA _ _ h1, e6 _ _ upd_same, hx.mono eA, hy.mono eA, ((hx'.mono e4).mono e5).mono e6, (hy'.mono e5).mono e6, nx, ny, hM _ (fresh_back (e1.trans e2) nx'), hM _ (fresh_back ((e1.trans e2).trans e3) ny')⟩⟩⟩⟩
/-- a new list that is changed and forgotten -/
theorem q_appTmp {js : List T3} {j : T3} (h : EvTL ta σ H js) (hz : js.length < 90000) (hu : EvU te σ H (tv j)) (k : ∀ H1, Ex H H1 → tz D σ H1) : tSeq (tDrop (tBM K "list" rAppend ta (tCons te tNil))) tz D σ H :=
  h H (Ex.refl H) _ fun p H1 np e1 hp => by
    obtain ⟨ts, g1, g2⟩ := hp
    refine ⟨Or.inl ⟨rfl, _, SqL.of g1⟩, hu H1 e1 _ fun t H2 nt e2 ht => ⟨p, _, _, rfl, rfl, e2 _ _ g1, sz_lt (by rw [List.length_map, g2.len]; omega), ?_⟩⟩
    exact k _ (Ex.mut (e1.trans e2) np)
/-- the law's deed -/
theorem q_deed {i : Nat} {E : XK} {b l : Addr} {js : List T3} {c wd : Int} (h1 : Ev ta σ H (.ref b)) (h2 : EvTL tb σ H js) (h3 : ∀ H1, Ex H H1 → Ev tc σ H1 (.int c)) (h4 : ∀ H1, Ex H H1 → Ev td σ H1 (.int wd)) (hB : BookAt C H b l js) (hl : js.length < 59) (w1 : 1 ≤ wd) (w2 : wd ≤ BW + 1)
    (k : ∀ pa js' H1 H2, Ex H H1 → Mod l H1 H2 → BookAt C H2 b l js' → TL H2 pa js' → js'.length ≤ js.length + 1 → H pa = none → tz D (σ.set i (some (.ref pa))) H2) :
    tSeq (tAsg (tCall (spDeed C) [] E (tCons ta (tCons tb (tCons tc (tCons td tNil))))) (gName i)) tz D σ H :=
  h1 H (Ex.refl H) _ fun H1 e1 => h2 H1 e1 _ fun ph H2 np e2 hp => h3 H2 (e1.trans e2) H2 (Ex.refl _) _ fun H3 e3 => h4 H3 ((e1.trans e2).trans e3) H3 (Ex.refl _) _ fun H4 e4 => by
    have e14 := ((e1.trans e2).trans e3).trans e4
    have np0 := fresh_back e1 np
    exact ⟨b, ph, l, js, c, wd, rfl, hB.mono e14, (hp.mono e3).mono e4, ne_fresh hB np0, hl, w1, w2, fun q js' H5 hq m5 hB5 hT5 hl5 hf => k q js' H4 H5 e14 m5 hB5 hT5 hl5 (by
      rcases hf with rfl | hf
      · exact np0
      · exact fresh_back e14 hf)⟩
end
section
variable {P : Program} {w : World} {K : PySem.W.Frag} {mg : Str → Option Value} {base : Heap} {H : Hp}
theorem ev_cell {σ : St} {ta : TA} {E : XK} {a : Addr} {ns : List Int} {k : Nat} (h : EvA ta σ H [.ref a, .int (k : Int)]) (hS : SqL K H a (ns.map V.int)) : Ev (tCall (spCellAt K) [] E ta) σ H (.int (ns.getD k 0)) := ev_call h (v_cell_at hS)
theorem el_isL {σ : St} {te : TE} {xs ys : List V} (h : EvL te σ H xs) (e : xs = ys) : EvL te σ H ys := e ▸ h
theorem big56 : (10 : Int) ^ (56 : Int).toNat = BW := by decide
theorem cut_mid (xs : List V) (a b : Nat) : cutV xs (some (a : Int)) (some (b : Int)) = (xs.drop a).take (b - a) := by
  unfold cutV
  rw [HT.sIx_nat, HT.sIx_nat]
  rcases Nat.le_total b xs.length with h | h
  · rw [Nat.min_eq_left h]
    rcases Nat.le_total a xs.length with g | g
    · rw [Nat.min_eq_left g]
    · rw [Nat.min_eq_right g, List.drop_of_length_le g, List.drop_of_length_le (Nat.le_refl _), List.take_nil, List.take_nil]
  · rw [Nat.min_eq_right h]
    rcases Nat.le_total a xs.length with g | g
    · rw [Nat.min_eq_left g, List.take_of_length_le (by rw [List.length_drop]; omega), List.take_of_length_le (by rw [List.length_drop]; omega)]
    · rw [Nat.min_eq_right g, List.drop_of_length_le g, List.drop_of_length_le (Nat.le_refl _), List.take_nil, List.take_nil]
set_option maxHeartbeats 0 in
theorem ok_law {f : Addr} {fd : FuncData} (F : Fun K "law" "law" s_law f fd) (T : TX K mg) : FnOk P w K mg base CX0 10 f fd ["_law_script"] (spLaw K) := by
  refine F.ok sc_law (fun vs H Q E h => ?_) (fun cdv A outer s H vs Q E hr h => ?_)
  · obtain ⟨_, _, rfl, _⟩ := h
    rfl
  · obtain ⟨a, ns, rfl, hS, hn, q⟩ := h
    refine ⟨_, (pss_cons (ps_if (pt_cmpR op_eq (pe_op op_mod (pe_call (ok_law_cell_at T) (hr.mono (by decide)) (by rfl) T.h_law_cell_at.g T.h_law_cell_at.F.kp T.h_law_cell_at.b .nil pass0 (pa_cons (pv 0) (pa_cons pe_int pa_nil))) pe_int) pe_int (nomark _))
    (pss_one (ps_ret (pe_call (ok_law_many T) (hr.mono (by decide)) (by rfl) T.h_law_many.g T.h_law_many.F.kp T.h_law_many.b .nil pass0 (pa_cons (pe_make0 T.me_Book___init__ (ok_Book___init__ T) (hr.mono (by decide)) (by rfl) T.g_Book T.h_Book___init__.b .nil pass0) (pa_cons (pe_call (ok_law_cell_at T) (hr.mono (by decide)) (by rfl) T.h_law_cell_at.g T.h_law_cell_at.F.kp T.h_law_cell_at.b .nil pass0 (pa_cons (pv 0) (pa_cons pe_int pa_nil))) (pa_cons (pe_op op_add pe_int (pe_op op_mod (pe_op op_fdiv (pe_call (ok_law_cell_at T) (hr.mono (by decide)) (by rfl) T.h_law_cell_at.g T.h_law_cell_at.F.kp T.h_law_cell_at.b .nil pass0 (pa_cons (pv 0) (pa_cons pe_int pa_nil))) pe_int) pe_int)) pa_nil))))))
    pss_nil)
  (pss_cons (ps_set (i := 1) sc_law.nd rfl (.inl rfl) (pe_lst (pa_cons (pe_make0 T.me_Book___init__ (ok_Book___init__ T) (hr.mono (by decide)) (by rfl) T.g_Book T.h_Book___init__.b .nil pass0) (pa_cons (pe_make0 T.me_Book___init__ (ok_Book___init__ T) (hr.mono (by decide)) (by rfl) T.g_Book T.h_Book___init__.b .nil pass0) pa_nil))))
  (pss_cons (ps_set (i := 2) sc_law.nd rfl (.inl rfl) (pe_lst (pa_cons (pe_lst pa_nil) (pa_cons (pe_lst pa_nil) pa_nil))))
  (pss_cons (ps_set (i := 3) sc_law.nd rfl (.inl rfl) pe_int)
  (pss_cons (ps_if (pt_cmpR op_eq (pe_op op_mod (pe_call (ok_law_cell_at T) (hr.mono (by decide)) (by rfl) T.h_law_cell_at.g T.h_law_cell_at.F.kp T.h_law_cell_at.b .nil pass0 (pa_cons (pv 0) (pa_cons pe_int pa_nil))) pe_int) pe_int (nomark _))
    (pss_one (ps_set (i := 3) sc_law.nd rfl (.inl rfl) (pe_op op_add pe_int (pe_op op_mod (pe_op op_fdiv (pe_call (ok_law_cell_at T) (hr.mono (by decide)) (by rfl) T.h_law_cell_at.g T.h_law_cell_at.F.kp T.h_law_cell_at.b .nil pass0 (pa_cons (pv 0) (pa_cons pe_int pa_nil))) pe_int) (pe_op op_pow pe_int pe_int)))))
    pss_nil)
  (pss_cons (ps_if (pt_cmpR op_eq (pe_op op_mod (pe_call (ok_law_cell_at T) (hr.mono (by decide)) (by rfl) T.h_law_cell_at.g T.h_law_cell_at.F.kp T.h_law_cell_at.b .nil pass0 (pa_cons (pv 0) (pa_cons pe_int pa_nil))) pe_int) pe_int (nomark _))
    (pss_one (ps_ret (pe_call (ok_law_full T) (hr.mono (by decide)) (by rfl) T.h_law_full.g T.h_law_full.F.kp T.h_law_full.b .nil pass0 (pa_cons (pe_ix (r := rIxL K) ix_list (pv 1) pe_int (fun _ _ => rfl)) (pa_cons (pe_op op_mod (pe_call (ok_law_cell_at T) (hr.mono (by decide)) (by rfl) T.h_law_cell_at.g T.h_law_cell_at.F.kp T.h_law_cell_at.b .nil pass0 (pa_cons (pv 0) (pa_cons pe_int pa_nil))) pe_int) pa_nil)))))
    pss_nil)
  (pss_cons (ps_set (i := 4) sc_law.nd rfl (.inl rfl) (pe_lst pa_nil))
  (pss_cons (ps_for PassesOwn.never rfl (pi_list (pe_slice (r := rSlL K) sl_list (pv 0) (po_some pe_int) (po_some pe_int))) (pg_name (i := 5) sc_law.nd rfl (.inl rfl))
    (pss_cons (ps_set (i := 6) sc_law.nd rfl (.inl rfl) (pe_op op_mod (pv 5) pe_int))
  (pss_cons (ps_set (i := 7) sc_law.nd rfl (.inl rfl) (pe_tup (pa_cons (pe_meth0 (pe_ix (r := rIxL K) ix_list (pv 1) (pv 6) (fun _ _ => rfl)) T.cl_Book T.me_Book_listed (ok_Book_listed T) (hr.mono (by decide)) T.h_Book_listed.b .nil pass0) (pa_cons (pe_meth0 (pe_ix (r := rIxL K) ix_list (pv 1) (pv 6) (fun _ _ => rfl)) T.cl_Book T.me_Book_plan (ok_Book_plan T) (hr.mono (by decide)) T.h_Book_plan.b .nil pass0) pa_nil))))
  (pss_cons (ps_expr (pe_bm PySem.F.plainAttrs_list PySem.F.slot_list_append PySem.F.type_list_append mt_append (pv 4) (pa_cons (pe_tup (pa_cons (pv 7) (pa_cons (pe_tup (pa_cons (pe_callTy (T := "list") (r := Evl.rListS K) call_list_of (by rfl) T.b_list (by decide +kernel) (pa_cons (pe_ix (r := rIxT K) ix_tup (pv 7) pe_int (fun _ _ => rfl)) pa_nil)) (pa_cons (pe_callTy (T := "list") (r := Evl.rListS K) call_list_of (by rfl) T.b_list (by decide +kernel) (pa_cons (pe_ix (r := rIxT K) ix_tup (pv 7) pe_int (fun _ _ => rfl)) pa_nil)) pa_nil))) pa_nil))) pa_nil)))
  (pss_cons (ps_set (i := 8) sc_law.nd rfl (.inl rfl) (pe_call (ok_law_deed T) (hr.mono (by decide)) (by rfl) T.h_law_deed.g T.h_law_deed.F.kp T.h_law_deed.b .nil pass0 (pa_cons (pe_ix (r := rIxL K) ix_list (pv 1) (pv 6) (fun _ _ => rfl)) (pa_cons (pe_callTy (T := "list") (r := Evl.rListS K) call_list_of (by rfl) T.b_list (by decide +kernel) (pa_cons (pe_ix (r := rIxL K) ix_list (pv 2) (pv 6) (fun _ _ => rfl)) pa_nil)) (pa_cons (pe_op op_fdiv (pv 5) pe_int) (pa_cons (pv 3) pa_nil))))))
  (pss_cons (ps_if (PW.pt (pw_or (pt_cmpR op_isN (pv 8) pe_non (nomark _)) (pw_or1 (pt_not (pt_val (pe_call (ok_law_meets T) (hr.mono (by decide)) (by rfl) T.h_law_meets.g T.h_law_meets.F.kp T.h_law_meets.b .nil pass0 (pa_cons (pv 8) (pa_cons (pe_meth0 (pe_ix (r := rIxL K) ix_list (pv 1) (pv 6) (fun _ _ => rfl)) T.cl_Book T.me_Book_plan (ok_Book_plan T) (hr.mono (by decide)) T.h_Book_plan.b .nil pass0) pa_nil))))))))
    (pss_one (ps_ret pe_bl))
    pss_nil)
  (pss_cons (ps_expr (pe_bm PySem.F.plainAttrs_list PySem.F.slot_list_append PySem.F.type_list_append mt_append (pe_meth0 (pe_ix (r := rIxL K) ix_list (pv 1) (pv 6) (fun _ _ => rfl)) T.cl_Book T.me_Book_plan (ok_Book_plan T) (hr.mono (by decide)) T.h_Book_plan.b .nil pass0) (pa_cons (pe_tup (pa_cons pe_int (pa_cons pe_int (pa_cons pe_int pa_nil)))) pa_nil)))
  (pss_cons (ps_if (pt_cmpR (r := rNeD K) (op_neD hr.units) (pe_meth0 (pe_ix (r := rIxL K) ix_list (pv 1) (pv 6) (fun _ _ => rfl)) T.cl_Book T.me_Book_plan (ok_Book_plan T) (hr.mono (by decide)) T.h_Book_plan.b .nil pass0) (pe_call (ok_run T) (hr.mono (by decide)) (by rfl) T.h_run.g T.h_run.F.kp T.h_run.b .nil pass0 (pa_cons (pe_callTy (T := "list") (r := Evl.rListS K) call_list_of (by rfl) T.b_list (by decide +kernel) (pa_cons (pv 8) pa_nil)) pa_nil)) (nomark _))
    (pss_one (ps_ret pe_bl))
    pss_nil)
  (pss_cons (ps_asg (pv 8) (pg_sub (pv 2) (pv 6) set_list))
  (pss_one (ps_for PassesOwn.never rfl (pi_range1 (by rfl) T.b_range (pa_cons pe_int pa_nil)) (pg_name (i := 9) sc_law.nd rfl (.inl rfl))
    (pss_cons (ps_set (i := 10) sc_law.nd rfl (.inl rfl) (pe_meth0 (pe_ix (r := rIxL K) ix_list (pv 1) (pv 9) (fun _ _ => rfl)) T.cl_Book T.me_Book_listed (ok_Book_listed T) (hr.mono (by decide)) T.h_Book_listed.b .nil pass0))
  (pss_cons (ps_if (PW.pt (pw_or (pt_not (pt_val (pe_callB (id := "isinstance") (r := rIsi K) call_isi (by rfl) T.b_isinstance (by decide +kernel) (pa_cons (pv 10) (pa_cons (pe_bltn (v := .ty "list") (by rfl) T.b_list (by decide +kernel) rfl) pa_nil))))) (pw_or1 (pt_cmpR (r := rNeD K) (op_neD hr.units) (pv 10) (pe_ix (r := rIxL K) ix_list (pv 2) (pv 9) (fun _ _ => rfl)) (nomark _)))))
    (pss_one (ps_ret pe_bl))
    pss_nil)
  (pss_one (ps_expr (pe_bm PySem.F.plainAttrs_list PySem.F.slot_list_append PySem.F.type_list_append mt_append (pv 10) (pa_cons (pe_tup (pa_cons pe_int (pa_cons pe_int (pa_cons pe_int pa_nil)))) pa_nil)))))))))))))))))
  (pss_cons (ps_for PassesOwn.never rfl (pi_list (pv 4)) (pg_tup rfl (pgs_cons (pg_name (i := 7) sc_law.nd rfl (.inl rfl)) (pgs_cons (pg_name (i := 11) sc_law.nd rfl (.inl rfl)) pgs_nil)))
    (pss_one (ps_if (pt_cmpR (r := rNeD K) (op_neD hr.units) (pv 7) (pv 11) (nomark _))
    (pss_one (ps_ret pe_bl))
    pss_nil)))
  (pss_one (ps_ret (pe_cmpR (r := rEqD K) (op_eqD hr.units) (pe_meth0 (pe_ix (r := rIxL K) ix_list (pv 1) pe_int (fun _ _ => rfl)) T.cl_Book T.me_Book_listed (ok_Book_listed T) (hr.mono (by decide)) T.h_Book_listed.b .nil pass0) (pe_ix (r := rIxL K) ix_list (pv 2) pe_int (fun _ _ => rfl)) (nomark _))))))))))))), ?_⟩
    have cell : ∀ (H9 : Hp) (σ : St) (k : Nat) (E : XK) (z : Int), Ex H H9 → σ[0]? = some (some (.ref a)) → z = (k : Int) → Ev (tCall (spCellAt K) [] E (tCons (tVar 0) (tCons (tC (.int z)) tNil))) σ H9 (.int (ns.getD k 0)) := fun H9 σ k E z e hs hz => by
      subst hz
      exact ev_cell (ea_cons (ev_var hs) (ea_cons ev_c ea_nil)) (ex_l e hS)
    refine q_when (b := decide (V.int (ns.getD 0 0 % 64) = V.int 25)) (et_test (ev_op (ev_op (cell _ _ 0 _ _ (Ex.refl _) rfl rfl) ev_c (rv_I (show (0 : Int) < 64 by decide))) ev_c (rv_eq rfl))) (fun hb H1 e1 => ?_) (fun hb H1 e1 => ?_)
    · exact s_retBook eb_make (fun H2 e2 => cell _ _ 1 _ _ (e1.trans e2) rfl rfl) (fun H2 e2 => ev_op ev_c (ev_op (ev_op (cell _ _ 0 _ _ (e1.trans e2) rfl rfl) ev_c (rv_I ⟨by decide, by decide⟩)) ev_c (rv_I (show (0 : Int) < 10 by decide))) rv_I0) fun b l H2 hB => ⟨b, l, _, _, rfl, hB, by omega, by omega, q⟩
    refine q_books eb_make eb_make fun b l pB H2 e2 hb2 hl01 hpl0 hpl1 hpB => ?_
    have e12 := e1.trans e2
    refine q_twoNil etl_nil etl_nil fun hd ph H3 e3 hhd nph hph => ?_
    have hb3 := fun w hw => (hb2 w hw).mono e3
    have hpB3 := e3 _ _ hpB
    have e13 := e12.trans e3
    refine q_asg ev_c fun H4 e4 => ?_
    have e14 := e13.trans e4
    obtain ⟨wd, hwd⟩ : ∃ wd : Int, wd = if ns.getD 0 0 % 4 = 3 then 2 + ns.getD 0 0 / 4 % BW else 1 := ⟨_, rfl⟩
    have hbw : (0 : Int) < BW := by decide
    refine q_ifAsg (b := decide (V.int (ns.getD 0 0 % 4) = V.int 3)) (v := .int wd) (et_test (ev_op (ev_op (cell _ _ 0 _ _ e14 rfl rfl) ev_c (rv_I (show (0 : Int) < 4 by decide))) ev_c (rv_eq rfl))) (fun g => ?_) (fun g => ?_) fun H5 e5 => ?_
    · rw [hwd, if_pos (V.int.inj (of_decide_eq_true g))]
      exact ev_op ev_c (ev_op (ev_op (cell _ _ 0 _ _ e14 rfl rfl) ev_c (rv_I ⟨by decide, by decide⟩)) (ev_is (v := .int ((10 : Int) ^ (56 : Int).toNat)) (ev_op ev_c ev_c (rv_I cpow56)) (by rw [big56])) (rv_I hbw)) rv_I0
    · rw [hwd, if_neg (fun z => of_decide_eq_false g (by rw [z]))]
      rfl
    have hw : 1 ≤ wd ∧ wd ≤ BW + 1 := by
      have h1 := Int.emod_nonneg (ns.getD 0 0 / 4) (show BW ≠ 0 by decide)
      have h2 := Int.emod_lt_of_pos (ns.getD 0 0 / 4) hbw
      rw [hwd]
      split <;> omega
    clear hwd
    have e15 := e14.trans e5
    have e35 := e4.trans e5
    refine q_when (b := decide (V.int (ns.getD 0 0 % 64) = V.int 9)) (et_test (ev_op (ev_op (cell _ _ 0 _ _ e15 rfl rfl) ev_c (rv_I (show (0 : Int) < 64 by decide))) ev_c (rv_eq rfl))) (fun g H6 e6 => ?_) (fun g H6 e6 => ?_)
    · obtain ⟨i, hi, hi2⟩ : ∃ i : Nat, ns.getD 1 0 % 60 = (i : Int) ∧ i < 60 := ⟨(ns.getD 1 0 % 60).toNat, by omega, by omega⟩
      have e36 := e35.trans e6
      exact s_retC (vs := [.ref (b 0), .int (i : Int)]) (ea_cons (ev_op (ev_var rfl) ev_c (rv_ixL (SqL.of (e36 _ _ hpB3)) (atI_nat (j := 0) rfl))) (ea_cons (ev_is (v := .int (ns.getD 1 0 % 60)) (ev_op (cell _ _ 1 _ _ (e15.trans e6) rfl rfl) ev_c (rv_I (show (0 : Int) < 60 by decide))) (by rw [hi])) ea_nil)) fun H7 e7 => ⟨b 0, l 0, i, rfl, ((hb3 0 (by decide)).mono e36).mono e7, hi2, q⟩
    have e36 := e35.trans e6
    have e16 := e15.trans e6
    -- kept = []
    refine q_asgL (el_lst ea_nil (show 0 ≤ 100000 by decide)) fun pk H7 npk e7 hpk => ?_
    have e37 := e36.trans e7
    have e17 := e16.trans e7
    -- script[1:17]
    obtain ⟨ms, hms⟩ : ∃ ms : List Int, ms = (ns.drop 1).take 16 := ⟨_, rfl⟩
    have hml : ms.length ≤ 16 := by rw [hms, List.length_take]; omega
    have pick : ∀ {H9 : Hp} {σ : St} {p : Addr} {f : Nat → Addr} {x : Nat} {y : TE} {v : Nat}, H9 p = some (.lst [.ref (f 0), .ref (f 1)]) → σ[x]? = some (some (.ref p)) → Ev y σ H9 (.int (v : Int)) → v < 2 → Ev (tOp (rIxL K) (tVar x) y) σ H9 (.ref (f v)) := fun {H9 σ p f x y v} h h1 h2 hv => by
      have hx : ([.ref (f 0), .ref (f 1)] : List V)[v]? = some (.ref (f v)) := by
        rcases two hv with rfl | rfl <;> rfl
      exact ev_op (ev_var h1) h2 (rv_ixL (SqL.of h) (atI_nat hx))
    refine q_forNIL (ns := ms) (el_isL (el_sl (K := K) (xs := ns.map V.int) (lo := some 1) (hi := some 17) (ev_var rfl) (eo_some ev_c) (eo_some ev_c) (ex_l e17 hS)) (by rw [hms, List.map_take, List.map_drop]; exact cut_mid _ 1 17)) (fun pS i σ' H' => ∃ (js : Nat → List T3) (hd : Nat → Addr) (ks : List Addr) (x5 x6 x7 x8 x9 x10 : Option V),
        σ' = [some (.ref a), some (.ref pB), some (.ref ph), some (.int wd), some (.ref pk), x5, x6, x7, x8, x9, x10, none] ∧ W2 T.c_Book H' pB ph pk pS b l js js hd ks ms ∧ (∀ v, v < 2 → (js v).length ≤ i) ∧ ks.length ≤ i)
      (fun pS H8 nS e8 hIS => ?_) (fun pS i σ' H' _ ⟨_, _, _, _, _, _, _, _, _, _, W, _⟩ => W.il) ?_ ?_
    · have e38 := e37.trans e8
      have hb6 := fun v hv => (hb3 v hv).mono e36
      have np : ∀ v, v < 2 → ph ≠ l v := fun v hv => ne_fresh (hb2 v hv) nph
      have nk : ∀ v, v < 2 → pk ≠ l v := fun v hv => ne_fresh (hb6 v hv) npk
      have hph6 := e36 _ _ hph
      have hpB6 := e36 _ _ hpB3
      have n1 : ph ≠ pk := ne_of_none hph6 npk
      have n2 : pB ≠ ph := ne_of_none hpB nph
      have n3 : pB ≠ pk := ne_of_none hpB6 npk
      have sS : ∀ {z : Addr} {o : HO}, H7 z = some o → pS ≠ z := fun hz => (ne_of_none hz nS).symm
      have hbk7 : ∀ v, v < 2 → BookAt T.c_Book H7 (b v) (l v) [] := fun v hv => (hb3 v hv).mono e37
      refine ⟨fun _ => [], hd, [], none, none, none, none, none, none, rfl, ⟨e38 _ _ hpB3, e38 _ _ hph, fun v hv => (hb3 v hv).mono e38, fun v hv => ((hhd v hv).1).mono e38, fun v hv => ?_, e8 _ _ hpk, fun t ht => absurd ht List.not_mem_nil, hIS, hl01, (np 0 (by decide)).symm, (nk 0 (by decide)).symm, (np 1 (by decide)).symm, (nk 1 (by decide)).symm, n1, ?_, ?_⟩, fun v _ => Nat.zero_le _, Nat.zero_le _⟩
      · obtain ⟨o, ho⟩ := tl_some ((hhd v hv).1.mono e36)
        simp only [List.mem_cons, List.not_mem_nil, or_false, not_or]
        exact ⟨ne_fresh (hb2 0 (by decide)) (hhd v hv).2.1, ne_fresh (hb2 1 (by decide)) (hhd v hv).2.1, (hhd v hv).2.2.symm, ne_of_none ho npk⟩
      · simp only [List.mem_cons, List.not_mem_nil, or_false, not_or]
        exact ⟨hpl0, hpl1, n2, n3⟩
      · simp only [List.mem_cons, List.not_mem_nil, or_false, not_or]
        exact ⟨ne_fresh (hbk7 0 (by decide)) nS, ne_fresh (hbk7 1 (by decide)) nS, sS (e7 _ _ hph6), sS hpk⟩
    · -- one deed
      rintro pS i c σ' H' hi ⟨js, hd, ks, x5, x6, x7, x8, x9, x10, rfl, W, hlen, hks⟩
      have hi16 : i < 16 := by have := (List.getElem?_eq_some_iff.mp hi).1; omega
      obtain ⟨v, hv, hv2⟩ : ∃ v : Nat, c % 2 = (v : Int) ∧ v < 2 := ⟨(c % 2).toNat, by omega, by omega⟩
      refine q_asg (v := .int (v : Int)) (ev_is (v := .int (c % 2)) (by walk_at "ev") (by rw [hv])) fun H8 e8 => ?_
      have W8 := W.mono e8
      refine q_asg2TL (etl_listed (pick W8.hB rfl (ev_var rfl) hv2) (W8.bk v hv2)) (etl_plan (pick W8.hB rfl (ev_var rfl) hv2) (W8.bk v hv2)) fun u x y H9 nx ny e9 hu hx hy => ?_
      have W9 := W8.mono e9
      have at_ : ∀ {z w1 w2 : Addr} {H0 : Hp} {σ : St} {n : Nat}, H0 z = some (.tup [.ref w1, .ref w2]) → σ[7]? = some (some (.ref z)) → n < 2 → Ev (tOp (rIxT K) (tVar 7) (tC (.int (n : Int)))) σ H0 (.ref (if n = 0 then w1 else w2)) := fun {z w1 w2 H0 σ n} h hs hn => by
        have hx : ([.ref w1, .ref w2] : List V)[n]? = some (.ref (if n = 0 then w1 else w2)) := by rcases two hn with rfl | rfl <;> rfl
        exact ev_op (ev_var hs) ev_c (rv_ixT (SqT.of h) (atI_nat hx))
      refine q_keep (M := [l 0, l 1, ph, pk]) W9.kl (by rw [List.length_map]; omega) (ev_var rfl) (ev_var rfl) hu hx hy (W8.fresh nx) (W8.fresh ny) (fun z hz => W9.fresh hz) (etl_list (at_ (n := 0) hu rfl (by decide)) hx) (etl_list (at_ (n := 1) hu rfl (by decide)) hy) fun t H10 e10 ht => ?_
      have W10 := (W9.mono e10).keep ht
      generalize upd H10 pk (.lst (ks.map V.ref ++ [.ref t])) = H11 at *
      refine q_deed (c := c / 2) (pick W10.hB rfl (ev_var rfl) hv2) (etl_list (pick W10.hH rfl (ev_var rfl) hv2) (W10.tl v hv2)) (fun H12 _ => by walk_at "ev") (fun H12 _ => ev_var rfl) (W10.bk v hv2) (by have := hlen v hv2; omega) hw.1 hw.2 fun pa js' H12 H13 e12 m13 hB13 hT13 hl13 npa => ?_
      have hpa := W10.fresh npa
      have W13 := (W10.mono e12).book hv2 m13 hB13
      refine q_when (b := decide (V.ref pa = V.non) || !true) (et_or (et_test (ev_op (ev_var rfl) ev_c rv_isN)) fun _ => et_not (et_B (ev_walkL (ev_var rfl) (etl_plan (pick W13.hB rfl (ev_var rfl) hv2) hB13) hT13 hB13.len (run_ok hB13.snd) hB13.fit))) (fun hb H14 e14 => by simp at hb) (fun hb H14 e14 => ?_)
      have W14 := W13.mono e14
      have hB14 := hB13.mono e14
      refine q_appTmp (j := (0, 0, 0)) (etl_plan (pick W14.hB rfl (ev_var rfl) hv2) hB14) (by have := (run_ok hB14.snd).len hB14.len; omega) (eu_three ev_c ev_c ev_c) fun H15 e15 => ?_
      have W15 := W14.mono e15
      have hB15 := hB14.mono e15
      have hT15 := (hT13.mono e14).mono e15
      refine q_when (b := !decide (runM js' = runM js')) (et_neTL2 (etl_plan (pick W15.hB rfl (ev_var rfl) hv2) hB15) (etl_run (etl_list (ev_var rfl) hT15) hB15.len hB15.snd)) (fun hb H16 e16 => by rw [decide_eq_true rfl] at hb; cases hb) (fun hb H16 e16 => ?_)
      have W16 := W15.mono e16
      have hT16 := hT15.mono e16
      refine q_setL W16.hH (ev_var rfl) (ev_var rfl) (ev_var rfl) (show v < 2 from hv2) fun H17 e17 => ?_
      have W18 := (W16.mono e17).hold hv2 (hT16.mono e17) hpa
      generalize upd H17 ph (.lst ([V.ref (hd 0), V.ref (hd 1)].set v (.ref pa))) = H18 at *
      have hl' : ∀ u, u < 2 → ((fun u => if u = v then js' else js u) u).length ≤ i + 1 := fun u hu => by
        have h1 := hlen u hu
        have h2 := hlen v hv2
        show (if u = v then js' else js u).length ≤ i + 1
        split <;> omega
      generalize (fun u => if u = v then js' else js u) = js2 at *
      generalize (fun u => if u = v then pa else hd u) = hd2 at *
      refine s_forR1 (n := 2) (ea_cons ev_c ea_nil) (by decide) (fun k σ' H' => ∃ x9 x10 : Option V, σ' = [some (.ref a), some (.ref pB), some (.ref ph), some (.int wd), some (.ref pk), some (.int c), some (.int (v : Int)), some (.ref u), some (.ref pa), x9, x10, none] ∧ W2 T.c_Book H' pB ph pk pS b l js2 js2 hd2 (ks ++ [t]) ms) (fun H19 e19 => ⟨_, _, rfl, W18.mono e19⟩) ?_ ?_
      · rintro k σ' H19 hk ⟨y9, y10, rfl, W19⟩
        have hk2 : k < 2 := by omega
        refine q_asgTL (etl_listed (pick W19.hB rfl (ev_var rfl) hk2) (W19.bk k hk2)) fun p H20 np e20 hp => ?_
        have W20 := W19.mono e20
        obtain ⟨us, g1, _⟩ := id hp
        refine q_when (b := !true || !decide (js2 k = js2 k)) (et_or (et_not (et_B (ev_isi (ev_var rfl) (fun H1 e => .lst (e _ _ g1)) (kit_ty (by decide +kernel)) ev_c))) fun _ => et_test (ev_op (ev_var rfl) (pick W20.hH rfl (ev_var rfl) hk2) (rv_neT hp (W20.tl k hk2)))) (fun hb H21 e21 => by simp at hb) (fun hb H21 e21 => ?_)
        refine s_appT (j := (0, 1, 2)) (hp.mono e21) (ev_var rfl) (eu_three ev_c ev_c ev_c) (by have := (W20.bk k hk2).len; omega) fun H22 m22 _ => ⟨_, _, rfl, W19.mono (m22.base (e20.trans e21) np)⟩
      · rintro σ' H19 ⟨y9, y10, rfl, W19⟩
        exact ⟨js2, hd2, ks ++ [t], _, _, _, _, _, _, rfl, W19, hl', by rw [List.length_append, List.length_singleton]; omega⟩
    · -- what was kept
      rintro pS σ' H' ⟨js, hd, ks, x5, x6, x7, x8, x9, x10, rfl, W, hlen, hks⟩
      refine q_forL (ev_var rfl) (SqL.of W.kl) (fun i σ' H'' => ∃ x7 x11 : Option V, σ' = [some (.ref a), some (.ref pB), some (.ref ph), some (.int wd), some (.ref pk), x5, x6, x7, x8, x9, x10, x11] ∧ Ex H' H'') (fun H8 e8 => ⟨_, _, rfl, e8⟩) (fun i σ' H'' _ ⟨_, _, _, e⟩ => SqL.of (e _ _ W.kl)) ?_ ?_
      · rintro i x σ' H8 hi ⟨y7, y11, rfl, e8⟩
        rw [List.getElem?_map] at hi
        obtain ⟨t, et, rfl⟩ := Option.map_eq_some_iff.mp hi
        obtain ⟨u, v, z1, z2, z3, z4, j1, p1, h1, h2, h3, h4, h5, h6, h7, _⟩ := (W.kt t (List.mem_of_getElem? et)).mono e8
        refine g_two h1 ?_
        exact s_when (b := false) (et_test (ev_op (ev_var rfl) (ev_var rfl) (rv_neTold h2 h3 h4 h5 h6 h7))) (fun hb => by cases hb) fun hb H9 e9 => ⟨_, _, rfl, e8.trans e9⟩
      · rintro σ' H8 ⟨y7, y11, rfl, e8⟩
        have W8 := W.mono e8
        refine s_ret (v := .bl (decide (js 0 = js 0))) (ev_eqTL1 (etl_listed (pick (v := 0) W8.hB rfl ev_c (by decide)) (W8.bk 0 (by decide))) (fun H9 e9 => pick (v := 0) (e9 _ _ W8.hH) rfl ev_c (by decide)) (W8.tl 0 (by decide))) fun H9 _ => ?_
        rw [decide_eq_true rfl]
        exact q H9
end
end DLL
namespace DLL
open PySem PySem.Spec PyProof.Rows L2 Evl DL
theorem all_mk {l : PySem.W.OpenLaw} {w : World} {K : PySem.W.Frag} {h : Heap} {mg : Str → Option Value} {fa f0 f1 f2 f3 f4 f5 f6 f7 f8 f9 f10 f11 f12 f13 f14 f15 f16 f17 f18 f19 f20 f21 f22 f23 f24 f25 f26 oC_Book cc_TooMany cc_BadJob cc_OutOfPlace cc_NoRow cc_RunError : Addr} (X : K.In h) (G : h.Ns mainGlobals mg) (hfa : mg "law" = some (.ref fa))
    {od0 an0 od1 an1 od2 an2 od3 an3 od4 an4 od5 an5 od6 an6 od7 an7 od8 an8 od9 an9 od10 an10 od11 an11 od12 an12 od13 an13 od14 an14 od15 an15 od16 an16 od17 an17 od18 an18 od19 an19 od20 an20 od21 an21 od22 an22 od23 an23 od24 an24 od25 an25 od26 an26 : Option Addr} {sl0 sl1 sl2 sl3 sl4 sl5 sl6 sl7 sl8 sl9 sl10 sl11 sl12 sl13 sl14 sl15 sl16 sl17 sl18 sl19 sl20 sl21 sl22 sl23 sl24 sl25 sl26 : Array (Option Value)} {oc0 kV0 dc0 pm0 cd0 ct0 oc1 kV1 dc1 pm1 cd1 ct1 oc2 kV2 dc2 pm2 cd2 ct2 oc3 kV3 dc3 pm3 cd3 ct3 oc4 kV4 dc4 pm4 cd4 ct4 oc5 kV5 dc5 pm5 cd5 ct5 oc6 kV6 dc6 pm6 cd6 ct6 oc7 kV7 dc7 pm7 cd7 ct7 oc8 kV8 dc8 pm8 cd8 ct8 oc9 kV9 dc9 pm9 cd9 ct9 oc10 kV10 dc10 pm10 cd10 ct10 oc11 kV11 dc11 pm11 cd11 ct11 oc12 kV12 dc12 pm12 cd12 ct12 oc13 kV13 dc13 pm13 cd13 ct13 oc14 kV14 dc14 pm14 cd14 ct14 oc15 kV15 dc15 pm15 cd15 ct15 oc16 kV16 dc16 pm16 cd16 ct16 oc17 kV17 dc17 pm17 cd17 ct17 oc18 kV18 dc18 pm18 cd18 ct18 oc19 kV19 dc19 pm19 cd19 ct19 oc20 kV20 dc20 pm20 cd20 ct20 oc21 kV21 dc21 pm21 cd21 ct21 oc22 kV22 dc22 pm22 cd22 ct22 oc23 kV23 dc23 pm23 cd23 ct23 oc24 kV24 dc24 pm24 cd24 ct24 oc25 kV25 dc25 pm25 cd25 ct25 oc26 kV26 dc26 pm26 cd26 ct26 : Value} {tk_LIMIT : Tok}
    (oa_Book : PySem.W.nsIn K mainGlobals "Book" = some (some (.ref oC_Book)))
    (opg_Book : PySem.W.plainGet K oC_Book Str.empty = true)
    (ohd_Book : PySem.W.hasDictIn K oC_Book = true)
    (opo_Book : PySem.W.plainOver K oC_Book = true)
    (osa_Book : PySem.W.findIn K (.ref oC_Book) "__setattr__" = some (some (.builtin "object.__setattr__")))
    (omk_Book : PySem.W.makesIn K oC_Book = true)
    (okc_Book : PySem.W.keepIn K (.ref oC_Book) = true)
    (on_Book__jobs : PySem.W.findIn K (.ref oC_Book) "_jobs" = some none)
    (a0 : PySem.W.nsIn K mainGlobals "sound" = some (some (.ref f0))) (l0 : K.lookup f0 = some ⟨oc0, od0, .func (PySem.W.fnOf "sound" "sound" (defArgs s_sound) (defBody s_sound) (defScope s_sound) .none kV0 dc0 pm0 an0 cd0 ct0), sl0⟩) (c0 : PySem.W.codeIn K cd0 "sound" = true) (k0 : PySem.W.keepIn K (.ref f0) = true)
    (a1 : PySem.W.nsIn K mainGlobals "check_jobs" = some (some (.ref f1))) (l1 : K.lookup f1 = some ⟨oc1, od1, .func (PySem.W.fnOf "check_jobs" "check_jobs" (defArgs s_check_jobs) (defBody s_check_jobs) (defScope s_check_jobs) .none kV1 dc1 pm1 an1 cd1 ct1), sl1⟩) (c1 : PySem.W.codeIn K cd1 "check_jobs" = true) (k1 : PySem.W.keepIn K (.ref f1) = true)
    (a2 : PySem.W.nsIn K mainGlobals "run" = some (some (.ref f2))) (l2 : K.lookup f2 = some ⟨oc2, od2, .func (PySem.W.fnOf "run" "run" (defArgs s_run) (defBody s_run) (defScope s_run) .none kV2 dc2 pm2 an2 cd2 ct2), sl2⟩) (c2 : PySem.W.codeIn K cd2 "run" = true) (k2 : PySem.W.keepIn K (.ref f2) = true)
    (a3 : PySem.W.nsIn K mainGlobals "_first_due" = some (some (.ref f3))) (l3 : K.lookup f3 = some ⟨oc3, od3, .func (PySem.W.fnOf "_first_due" "_first_due" (defArgs s_first_due) (defBody s_first_due) (defScope s_first_due) .none kV3 dc3 pm3 an3 cd3 ct3), sl3⟩) (c3 : PySem.W.codeIn K cd3 "_first_due" = true) (k3 : PySem.W.keepIn K (.ref f3) = true)
    (a4 : PySem.W.nsIn K mainGlobals "_next_come" = some (some (.ref f4))) (l4 : K.lookup f4 = some ⟨oc4, od4, .func (PySem.W.fnOf "_next_come" "_next_come" (defArgs s_next_come) (defBody s_next_come) (defScope s_next_come) .none kV4 dc4 pm4 an4 cd4 ct4), sl4⟩) (c4 : PySem.W.codeIn K cd4 "_next_come" = true) (k4 : PySem.W.keepIn K (.ref f4) = true)
    (a5 : PySem.W.nsIn K mainGlobals "_end_of_work" = some (some (.ref f5))) (l5 : K.lookup f5 = some ⟨oc5, od5, .func (PySem.W.fnOf "_end_of_work" "_end_of_work" (defArgs s_end_of_work) (defBody s_end_of_work) (defScope s_end_of_work) .none kV5 dc5 pm5 an5 cd5 ct5), sl5⟩) (c5 : PySem.W.codeIn K cd5 "_end_of_work" = true) (k5 : PySem.W.keepIn K (.ref f5) = true)
    (a6 : PySem.W.nsIn K mainGlobals "_add_piece" = some (some (.ref f6))) (l6 : K.lookup f6 = some ⟨oc6, od6, .func (PySem.W.fnOf "_add_piece" "_add_piece" (defArgs s_add_piece) (defBody s_add_piece) (defScope s_add_piece) .none kV6 dc6 pm6 an6 cd6 ct6), sl6⟩) (c6 : PySem.W.codeIn K cd6 "_add_piece" = true) (k6 : PySem.W.keepIn K (.ref f6) = true)
    (a7 : PySem.W.nsIn K mainGlobals "ends" = some (some (.ref f7))) (l7 : K.lookup f7 = some ⟨oc7, od7, .func (PySem.W.fnOf "ends" "ends" (defArgs s_ends) (defBody s_ends) (defScope s_ends) .none kV7 dc7 pm7 an7 cd7 ct7), sl7⟩) (c7 : PySem.W.codeIn K cd7 "ends" = true) (k7 : PySem.W.keepIn K (.ref f7) = true)
    (a8 : PySem.W.nsIn K mainGlobals "late" = some (some (.ref f8))) (l8 : K.lookup f8 = some ⟨oc8, od8, .func (PySem.W.fnOf "late" "late" (defArgs s_late) (defBody s_late) (defScope s_late) .none kV8 dc8 pm8 an8 cd8 ct8), sl8⟩) (c8 : PySem.W.codeIn K cd8 "late" = true) (k8 : PySem.W.keepIn K (.ref f8) = true)
    (a9 : PySem.W.nsIn K mainGlobals "answer" = some (some (.ref f9))) (l9 : K.lookup f9 = some ⟨oc9, od9, .func (PySem.W.fnOf "answer" "answer" (defArgs s_answer) (defBody s_answer) (defScope s_answer) .none kV9 dc9 pm9 an9 cd9 ct9), sl9⟩) (c9 : PySem.W.codeIn K cd9 "answer" = true) (k9 : PySem.W.keepIn K (.ref f9) = true)
    (a10 : PySem.W.nsIn K mainGlobals "_begin_of_stretch" = some (some (.ref f10))) (l10 : K.lookup f10 = some ⟨oc10, od10, .func (PySem.W.fnOf "_begin_of_stretch" "_begin_of_stretch" (defArgs s_begin_of_stretch) (defBody s_begin_of_stretch) (defScope s_begin_of_stretch) .none kV10 dc10 pm10 an10 cd10 ct10), sl10⟩) (c10 : PySem.W.codeIn K cd10 "_begin_of_stretch" = true) (k10 : PySem.W.keepIn K (.ref f10) = true)
    (a11 : PySem.W.findIn K (.ref oC_Book) "__init__" = some (some (.ref f11))) (i11 : PySem.W.isFn K (.ref f11) = true) (l11 : K.lookup f11 = some ⟨oc11, od11, .func (PySem.W.fnOf "__init__" "Book.__init__" (defArgs s_Book___init__) (defBody s_Book___init__) (defScope s_Book___init__) .none kV11 dc11 pm11 an11 cd11 ct11), sl11⟩) (c11 : PySem.W.codeIn K cd11 "Book.__init__" = true) (k11 : PySem.W.keepIn K (.ref f11) = true)
    (a12 : PySem.W.findIn K (.ref oC_Book) "take" = some (some (.ref f12))) (i12 : PySem.W.isFn K (.ref f12) = true) (l12 : K.lookup f12 = some ⟨oc12, od12, .func (PySem.W.fnOf "take" "Book.take" (defArgs s_Book_take) (defBody s_Book_take) (defScope s_Book_take) .none kV12 dc12 pm12 an12 cd12 ct12), sl12⟩) (c12 : PySem.W.codeIn K cd12 "Book.take" = true) (k12 : PySem.W.keepIn K (.ref f12) = true)
    (a13 : PySem.W.findIn K (.ref oC_Book) "drop" = some (some (.ref f13))) (i13 : PySem.W.isFn K (.ref f13) = true) (l13 : K.lookup f13 = some ⟨oc13, od13, .func (PySem.W.fnOf "drop" "Book.drop" (defArgs s_Book_drop) (defBody s_Book_drop) (defScope s_Book_drop) .none kV13 dc13 pm13 an13 cd13 ct13), sl13⟩) (c13 : PySem.W.codeIn K cd13 "Book.drop" = true) (k13 : PySem.W.keepIn K (.ref f13) = true)
    (a14 : PySem.W.findIn K (.ref oC_Book) "listed" = some (some (.ref f14))) (i14 : PySem.W.isFn K (.ref f14) = true) (l14 : K.lookup f14 = some ⟨oc14, od14, .func (PySem.W.fnOf "listed" "Book.listed" (defArgs s_Book_listed) (defBody s_Book_listed) (defScope s_Book_listed) .none kV14 dc14 pm14 an14 cd14 ct14), sl14⟩) (c14 : PySem.W.codeIn K cd14 "Book.listed" = true) (k14 : PySem.W.keepIn K (.ref f14) = true)
    (a15 : PySem.W.findIn K (.ref oC_Book) "plan" = some (some (.ref f15))) (i15 : PySem.W.isFn K (.ref f15) = true) (l15 : K.lookup f15 = some ⟨oc15, od15, .func (PySem.W.fnOf "plan" "Book.plan" (defArgs s_Book_plan) (defBody s_Book_plan) (defScope s_Book_plan) .none kV15 dc15 pm15 an15 cd15 ct15), sl15⟩) (c15 : PySem.W.codeIn K cd15 "Book.plan" = true) (k15 : PySem.W.keepIn K (.ref f15) = true)
    (a16 : PySem.W.nsIn K mainGlobals "_law_whole" = some (some (.ref f16))) (l16 : K.lookup f16 = some ⟨oc16, od16, .func (PySem.W.fnOf "_law_whole" "_law_whole" (defArgs s_law_whole) (defBody s_law_whole) (defScope s_law_whole) .none kV16 dc16 pm16 an16 cd16 ct16), sl16⟩) (c16 : PySem.W.codeIn K cd16 "_law_whole" = true) (k16 : PySem.W.keepIn K (.ref f16) = true)
    (a17 : PySem.W.nsIn K mainGlobals "_law_cell_at" = some (some (.ref f17))) (l17 : K.lookup f17 = some ⟨oc17, od17, .func (PySem.W.fnOf "_law_cell_at" "_law_cell_at" (defArgs s_law_cell_at) (defBody s_law_cell_at) (defScope s_law_cell_at) .none kV17 dc17 pm17 an17 cd17 ct17), sl17⟩) (c17 : PySem.W.codeIn K cd17 "_law_cell_at" = true) (k17 : PySem.W.keepIn K (.ref f17) = true)
    (a18 : PySem.W.nsIn K mainGlobals "_law_load" = some (some (.ref f18))) (l18 : K.lookup f18 = some ⟨oc18, od18, .func (PySem.W.fnOf "_law_load" "_law_load" (defArgs s_law_load) (defBody s_law_load) (defScope s_law_load) .none kV18 dc18 pm18 an18 cd18 ct18), sl18⟩) (c18 : PySem.W.codeIn K cd18 "_law_load" = true) (k18 : PySem.W.keepIn K (.ref f18) = true)
    (a19 : PySem.W.nsIn K mainGlobals "_law_triple" = some (some (.ref f19))) (l19 : K.lookup f19 = some ⟨oc19, od19, .func (PySem.W.fnOf "_law_triple" "_law_triple" (defArgs s_law_triple) (defBody s_law_triple) (defScope s_law_triple) .none kV19 dc19 pm19 an19 cd19 ct19), sl19⟩) (c19 : PySem.W.codeIn K cd19 "_law_triple" = true) (k19 : PySem.W.keepIn K (.ref f19) = true)
    (a20 : PySem.W.nsIn K mainGlobals "_law_meets" = some (some (.ref f20))) (l20 : K.lookup f20 = some ⟨oc20, od20, .func (PySem.W.fnOf "_law_meets" "_law_meets" (defArgs s_law_meets) (defBody s_law_meets) (defScope s_law_meets) .none kV20 dc20 pm20 an20 cd20 ct20), sl20⟩) (c20 : PySem.W.codeIn K cd20 "_law_meets" = true) (k20 : PySem.W.keepIn K (.ref f20) = true)
    (a21 : PySem.W.nsIn K mainGlobals "_law_crowded" = some (some (.ref f21))) (l21 : K.lookup f21 = some ⟨oc21, od21, .func (PySem.W.fnOf "_law_crowded" "_law_crowded" (defArgs s_law_crowded) (defBody s_law_crowded) (defScope s_law_crowded) .none kV21 dc21 pm21 an21 cd21 ct21), sl21⟩) (c21 : PySem.W.codeIn K cd21 "_law_crowded" = true) (k21 : PySem.W.keepIn K (.ref f21) = true)
    (a22 : PySem.W.nsIn K mainGlobals "_law_deed" = some (some (.ref f22))) (l22 : K.lookup f22 = some ⟨oc22, od22, .func (PySem.W.fnOf "_law_deed" "_law_deed" (defArgs s_law_deed) (defBody s_law_deed) (defScope s_law_deed) .none kV22 dc22 pm22 an22 cd22 ct22), sl22⟩) (c22 : PySem.W.codeIn K cd22 "_law_deed" = true) (k22 : PySem.W.keepIn K (.ref f22) = true)
    (a23 : PySem.W.nsIn K mainGlobals "_law_taken" = some (some (.ref f23))) (l23 : K.lookup f23 = some ⟨oc23, od23, .func (PySem.W.fnOf "_law_taken" "_law_taken" (defArgs s_law_taken) (defBody s_law_taken) (defScope s_law_taken) .none kV23 dc23 pm23 an23 cd23 ct23), sl23⟩) (c23 : PySem.W.codeIn K cd23 "_law_taken" = true) (k23 : PySem.W.keepIn K (.ref f23) = true)
    (a24 : PySem.W.nsIn K mainGlobals "_law_full" = some (some (.ref f24))) (l24 : K.lookup f24 = some ⟨oc24, od24, .func (PySem.W.fnOf "_law_full" "_law_full" (defArgs s_law_full) (defBody s_law_full) (defScope s_law_full) .none kV24 dc24 pm24 an24 cd24 ct24), sl24⟩) (c24 : PySem.W.codeIn K cd24 "_law_full" = true) (k24 : PySem.W.keepIn K (.ref f24) = true)
    (a25 : PySem.W.nsIn K mainGlobals "_law_many" = some (some (.ref f25))) (l25 : K.lookup f25 = some ⟨oc25, od25, .func (PySem.W.fnOf "_law_many" "_law_many" (defArgs s_law_many) (defBody s_law_many) (defScope s_law_many) .none kV25 dc25 pm25 an25 cd25 ct25), sl25⟩) (c25 : PySem.W.codeIn K cd25 "_law_many" = true) (k25 : PySem.W.keepIn K (.ref f25) = true)
    (a26 : PySem.W.nsIn K mainGlobals "law" = some (some (.ref f26))) (l26 : K.lookup f26 = some ⟨oc26, od26, .func (PySem.W.fnOf "law" "law" (defArgs s_law) (defBody s_law) (defScope s_law) .none kV26 dc26 pm26 an26 cd26 ct26), sl26⟩) (c26 : PySem.W.codeIn K cd26 "law" = true) (k26 : PySem.W.keepIn K (.ref f26) = true)
    (ac_TooMany : PySem.W.nsIn K mainGlobals "TooMany" = some (some (.ref cc_TooMany))) (xc_TooMany : PySem.W.excIn K cc_TooMany [.type "ValueError", .type "Exception", .type "BaseException", .type "object"] "ValueError.__new__" = true) (kc_TooMany : PySem.W.keepIn K (.ref cc_TooMany) = true) (sc_TooMany : PySem.W.subIn K (.ref cc_TooMany) (.type "BaseException") = some true) (tc_TooMany : PySem.W.typeIn K (.ref cc_TooMany) = some (.type "type"))
    (hd_TooMany : PySem.W.hasDictIn K cc_TooMany = true)
    (ac_BadJob : PySem.W.nsIn K mainGlobals "BadJob" = some (some (.ref cc_BadJob))) (xc_BadJob : PySem.W.excIn K cc_BadJob [.type "ValueError", .type "Exception", .type "BaseException", .type "object"] "ValueError.__new__" = true) (kc_BadJob : PySem.W.keepIn K (.ref cc_BadJob) = true) (sc_BadJob : PySem.W.subIn K (.ref cc_BadJob) (.type "BaseException") = some true) (tc_BadJob : PySem.W.typeIn K (.ref cc_BadJob) = some (.type "type"))
    (hd_BadJob : PySem.W.hasDictIn K cc_BadJob = true)
    (ac_OutOfPlace : PySem.W.nsIn K mainGlobals "OutOfPlace" = some (some (.ref cc_OutOfPlace))) (xc_OutOfPlace : PySem.W.excIn K cc_OutOfPlace [.type "ValueError", .type "Exception", .type "BaseException", .type "object"] "ValueError.__new__" = true) (kc_OutOfPlace : PySem.W.keepIn K (.ref cc_OutOfPlace) = true) (sc_OutOfPlace : PySem.W.subIn K (.ref cc_OutOfPlace) (.type "BaseException") = some true) (tc_OutOfPlace : PySem.W.typeIn K (.ref cc_OutOfPlace) = some (.type "type"))
    (hd_OutOfPlace : PySem.W.hasDictIn K cc_OutOfPlace = true)
    (ac_NoRow : PySem.W.nsIn K mainGlobals "NoRow" = some (some (.ref cc_NoRow))) (xc_NoRow : PySem.W.excIn K cc_NoRow [.type "ValueError", .type "Exception", .type "BaseException", .type "object"] "ValueError.__new__" = true) (kc_NoRow : PySem.W.keepIn K (.ref cc_NoRow) = true) (sc_NoRow : PySem.W.subIn K (.ref cc_NoRow) (.type "BaseException") = some true) (tc_NoRow : PySem.W.typeIn K (.ref cc_NoRow) = some (.type "type"))
    (hd_NoRow : PySem.W.hasDictIn K cc_NoRow = true)
    (ac_RunError : PySem.W.nsIn K mainGlobals "RunError" = some (some (.ref cc_RunError))) (xc_RunError : PySem.W.excIn K cc_RunError [.type "ValueError", .type "Exception", .type "BaseException", .type "object"] "ValueError.__new__" = true) (kc_RunError : PySem.W.keepIn K (.ref cc_RunError) = true) (sc_RunError : PySem.W.subIn K (.ref cc_RunError) (.type "BaseException") = some true) (tc_RunError : PySem.W.typeIn K (.ref cc_RunError) = some (.type "type"))
    (hd_RunError : PySem.W.hasDictIn K cc_RunError = true)
    (ec_TooMany_TooMany : PySem.W.subIn K (.ref cc_TooMany) (.ref cc_TooMany) = some true)
    (ec_TooMany_BadJob : PySem.W.subIn K (.ref cc_TooMany) (.ref cc_BadJob) = some false)
    (ec_TooMany_OutOfPlace : PySem.W.subIn K (.ref cc_TooMany) (.ref cc_OutOfPlace) = some false)
    (ec_TooMany_NoRow : PySem.W.subIn K (.ref cc_TooMany) (.ref cc_NoRow) = some false)
    (ec_TooMany_RunError : PySem.W.subIn K (.ref cc_TooMany) (.ref cc_RunError) = some true)
    (ec_BadJob_TooMany : PySem.W.subIn K (.ref cc_BadJob) (.ref cc_TooMany) = some false)
    (ec_BadJob_BadJob : PySem.W.subIn K (.ref cc_BadJob) (.ref cc_BadJob) = some true)
    (ec_BadJob_OutOfPlace : PySem.W.subIn K (.ref cc_BadJob) (.ref cc_OutOfPlace) = some false)
    (ec_BadJob_NoRow : PySem.W.subIn K (.ref cc_BadJob) (.ref cc_NoRow) = some false)
    (ec_BadJob_RunError : PySem.W.subIn K (.ref cc_BadJob) (.ref cc_RunError) = some true)
    (ec_OutOfPlace_TooMany : PySem.W.subIn K (.ref cc_OutOfPlace) (.ref cc_TooMany) = some false)
    (ec_OutOfPlace_BadJob : PySem.W.subIn K (.ref cc_OutOfPlace) (.ref cc_BadJob) = some false)
    (ec_OutOfPlace_OutOfPlace : PySem.W.subIn K (.ref cc_OutOfPlace) (.ref cc_OutOfPlace) = some true)
    (ec_OutOfPlace_NoRow : PySem.W.subIn K (.ref cc_OutOfPlace) (.ref cc_NoRow) = some false)
    (ec_OutOfPlace_RunError : PySem.W.subIn K (.ref cc_OutOfPlace) (.ref cc_RunError) = some true)
    (qhg_OutOfPlace : PySem.W.findIn K (.ref cc_OutOfPlace) "__getattribute__" = some (some (.builtin "BaseException.__getattribute__")))
    (qhk_OutOfPlace : PySem.W.findIn K (.ref cc_OutOfPlace) "__getattr__" = some none)
    (qha_OutOfPlace : PySem.W.findIn K (.ref cc_OutOfPlace) "__class__" = some (some (.builtin "object.__class__")))
    (qhm_OutOfPlace : PySem.W.mroIn K cc_OutOfPlace (.type "object") = some true)
    (ss_NoRow : PySem.W.subIn K (.ref cc_NoRow) (.ref cc_NoRow) = some true)
    (qhn : PySem.W.specialIn K (.builtin "object.__class__") "__get__" = some (some (.builtin "getset_descriptor.__get__"))) (qht : PySem.W.takesIn K (.builtin "object.__class__") = some true)
    (z_tuple : PySem.W.nsIn K mainGlobals "tuple" = some none)
    (z_all : PySem.W.nsIn K mainGlobals "all" = some none)
    (z_type : PySem.W.nsIn K mainGlobals "type" = some none)
    (z_len : PySem.W.nsIn K mainGlobals "len" = some none)
    (z_int : PySem.W.nsIn K mainGlobals "int" = some none)
    (z_enumerate : PySem.W.nsIn K mainGlobals "enumerate" = some none)
    (z_any : PySem.W.nsIn K mainGlobals "any" = some none)
    (z_min : PySem.W.nsIn K mainGlobals "min" = some none)
    (z_sorted : PySem.W.nsIn K mainGlobals "sorted" = some none)
    (z_reversed : PySem.W.nsIn K mainGlobals "reversed" = some none)
    (z_list : PySem.W.nsIn K mainGlobals "list" = some none)
    (z_isinstance : PySem.W.nsIn K mainGlobals "isinstance" = some none)
    (z_bool : PySem.W.nsIn K mainGlobals "bool" = some none)
    (z_sum : PySem.W.nsIn K mainGlobals "sum" = some none)
    (z_range : PySem.W.nsIn K mainGlobals "range" = some none)
    (w_LIMIT : PySem.W.nsIn K mainGlobals "LIMIT" = some (some (.int 60 tk_LIMIT)))
    : ∃ fd : FuncData, (∀ (s : Shared) (v : Value), BindsTo s fd ⟨[v], []⟩ [("_law_script", v)]) ∧ ∀ base : Heap, K.In base → base.Ns mainGlobals mg → FnOk l.prog w K mg base CX0 10 fa fd ["_law_script"] (spLaw K) := by
  have e := hfa.symm.trans (PySem.W.mg_of X G a26)
  cases e
  have F0 := fun_mk (st := s_sound) l0 c0 k0
  have F1 := fun_mk (st := s_check_jobs) l1 c1 k1
  have F2 := fun_mk (st := s_run) l2 c2 k2
  have F3 := fun_mk (st := s_first_due) l3 c3 k3
  have F4 := fun_mk (st := s_next_come) l4 c4 k4
  have F5 := fun_mk (st := s_end_of_work) l5 c5 k5
  have F6 := fun_mk (st := s_add_piece) l6 c6 k6
  have F7 := fun_mk (st := s_ends) l7 c7 k7
  have F8 := fun_mk (st := s_late) l8 c8 k8
  have F9 := fun_mk (st := s_answer) l9 c9 k9
  have F10 := fun_mk (st := s_begin_of_stretch) l10 c10 k10
  have F11 := fun_mk (st := s_Book___init__) l11 c11 k11
  have F12 := fun_mk (st := s_Book_take) l12 c12 k12
  have F13 := fun_mk (st := s_Book_drop) l13 c13 k13
  have F14 := fun_mk (st := s_Book_listed) l14 c14 k14
  have F15 := fun_mk (st := s_Book_plan) l15 c15 k15
  have F16 := fun_mk (st := s_law_whole) l16 c16 k16
  have F17 := fun_mk (st := s_law_cell_at) l17 c17 k17
  have F18 := fun_mk (st := s_law_load) l18 c18 k18
  have F19 := fun_mk (st := s_law_triple) l19 c19 k19
  have F20 := fun_mk (st := s_law_meets) l20 c20 k20
  have F21 := fun_mk (st := s_law_crowded) l21 c21 k21
  have F22 := fun_mk (st := s_law_deed) l22 c22 k22
  have F23 := fun_mk (st := s_law_taken) l23 c23 k23
  have F24 := fun_mk (st := s_law_full) l24 c24 k24
  have F25 := fun_mk (st := s_law_many) l25 c25 k25
  have F26 := fun_mk (st := s_law) l26 c26 k26
  have b0 := F0.binds (ps := ["job"]) fun _ _ _ _ _ _ us hl => match us, hl with | [_], _ => rfl
  have b1 := F1.binds (ps := ["jobs"]) fun _ _ _ _ _ _ us hl => match us, hl with | [_], _ => rfl
  have b2 := F2.binds (ps := ["jobs"]) fun _ _ _ _ _ _ us hl => match us, hl with | [_], _ => rfl
  have b3 := F3.binds (ps := ["jobs", "left", "time"]) fun _ _ _ _ _ _ us hl => match us, hl with | [_, _, _], _ => rfl
  have b4 := F4.binds (ps := ["jobs", "time"]) fun _ _ _ _ _ _ us hl => match us, hl with | [_, _], _ => rfl
  have b5 := F5.binds (ps := ["jobs", "time", "rest"]) fun _ _ _ _ _ _ us hl => match us, hl with | [_, _, _], _ => rfl
  have b6 := F6.binds (ps := ["pieces", "place", "begin", "end"]) fun _ _ _ _ _ _ us hl => match us, hl with | [_, _, _, _], _ => rfl
  have b7 := F7.binds (ps := ["jobs"]) fun _ _ _ _ _ _ us hl => match us, hl with | [_], _ => rfl
  have b8 := F8.binds (ps := ["jobs"]) fun _ _ _ _ _ _ us hl => match us, hl with | [_], _ => rfl
  have b9 := F9.binds (ps := ["jobs"]) fun _ _ _ _ _ _ us hl => match us, hl with | [_], _ => rfl
  have b10 := F10.binds (ps := ["jobs", "pieces", "end"]) fun _ _ _ _ _ _ us hl => match us, hl with | [_, _, _], _ => rfl
  have b11 := F11.binds (ps := ["self"]) fun _ _ _ _ _ _ us hl => match us, hl with | [_], _ => rfl
  have b12 := F12.binds (ps := ["self", "job"]) fun _ _ _ _ _ _ us hl => match us, hl with | [_, _], _ => rfl
  have b13 := F13.binds (ps := ["self", "place"]) fun _ _ _ _ _ _ us hl => match us, hl with | [_, _], _ => rfl
  have b14 := F14.binds (ps := ["self"]) fun _ _ _ _ _ _ us hl => match us, hl with | [_], _ => rfl
  have b15 := F15.binds (ps := ["self"]) fun _ _ _ _ _ _ us hl => match us, hl with | [_], _ => rfl
  have b16 := F16.binds (ps := ["_law_found"]) fun _ _ _ _ _ _ us hl => match us, hl with | [_], _ => rfl
  have b17 := F17.binds (ps := ["_law_script", "_law_k"]) fun _ _ _ _ _ _ us hl => match us, hl with | [_, _], _ => rfl
  have b18 := F18.binds (ps := ["_law_jobs", "_law_begin", "_law_end"]) fun _ _ _ _ _ _ us hl => match us, hl with | [_, _, _], _ => rfl
  have b19 := F19.binds (ps := ["_law_piece"]) fun _ _ _ _ _ _ us hl => match us, hl with | [_], _ => rfl
  have b20 := F20.binds (ps := ["_law_jobs", "_law_pieces"]) fun _ _ _ _ _ _ us hl => match us, hl with | [_, _], _ => rfl
  have b21 := F21.binds (ps := ["_law_jobs", "_law_place", "_law_begin", "_law_end"]) fun _ _ _ _ _ _ us hl => match us, hl with | [_, _, _, _], _ => rfl
  have b22 := F22.binds (ps := ["_law_book", "_law_held", "_law_cell", "_law_wide"]) fun _ _ _ _ _ _ us hl => match us, hl with | [_, _, _, _], _ => rfl
  have b23 := F23.binds (ps := ["_law_book", "_law_held", "_law_job"]) fun _ _ _ _ _ _ us hl => match us, hl with | [_, _, _], _ => rfl
  have b24 := F24.binds (ps := ["_law_book", "_law_place"]) fun _ _ _ _ _ _ us hl => match us, hl with | [_, _], _ => rfl
  have b25 := F25.binds (ps := ["_law_book", "_law_cell", "_law_count"]) fun _ _ _ _ _ _ us hl => match us, hl with | [_, _, _], _ => rfl
  have T : TX K mg := { f_sound := _, d_sound := _, h_sound := ⟨F0, b0, PySem.W.mg_of X G a0⟩, f_check_jobs := _, d_check_jobs := _, h_check_jobs := ⟨F1, b1, PySem.W.mg_of X G a1⟩, f_run := _, d_run := _, h_run := ⟨F2, b2, PySem.W.mg_of X G a2⟩, f_first_due := _, d_first_due := _, h_first_due := ⟨F3, b3, PySem.W.mg_of X G a3⟩, f_next_come := _, d_next_come := _, h_next_come := ⟨F4, b4, PySem.W.mg_of X G a4⟩, f_end_of_work := _, d_end_of_work := _, h_end_of_work := ⟨F5, b5, PySem.W.mg_of X G a5⟩, f_add_piece := _, d_add_piece := _, h_add_piece := ⟨F6, b6, PySem.W.mg_of X G a6⟩, f_ends := _, d_ends := _, h_ends := ⟨F7, b7, PySem.W.mg_of X G a7⟩, f_late := _, d_late := _, h_late := ⟨F8, b8, PySem.W.mg_of X G a8⟩, f_answer := _, d_answer := _, h_answer := ⟨F9, b9, PySem.W.mg_of X G a9⟩, f_begin_of_stretch := _, d_begin_of_stretch := _, h_begin_of_stretch := ⟨F10, b10, PySem.W.mg_of X G a10⟩, f_Book___init__ := _, d_Book___init__ := _, h_Book___init__ := ⟨F11, b11⟩, me_Book___init__ := ⟨omk_Book, a11, i11, okc_Book⟩, f_Book_take := _, d_Book_take := _, h_Book_take := ⟨F12, b12⟩, me_Book_take := ⟨a12, i12, k12⟩, f_Book_drop := _, d_Book_drop := _, h_Book_drop := ⟨F13, b13⟩, me_Book_drop := ⟨a13, i13, k13⟩, f_Book_listed := _, d_Book_listed := _, h_Book_listed := ⟨F14, b14⟩, me_Book_listed := ⟨a14, i14, k14⟩, f_Book_plan := _, d_Book_plan := _, h_Book_plan := ⟨F15, b15⟩, me_Book_plan := ⟨a15, i15, k15⟩, f_law_whole := _, d_law_whole := _, h_law_whole := ⟨F16, b16, PySem.W.mg_of X G a16⟩, f_law_cell_at := _, d_law_cell_at := _, h_law_cell_at := ⟨F17, b17, PySem.W.mg_of X G a17⟩, f_law_load := _, d_law_load := _, h_law_load := ⟨F18, b18, PySem.W.mg_of X G a18⟩, f_law_triple := _, d_law_triple := _, h_law_triple := ⟨F19, b19, PySem.W.mg_of X G a19⟩, f_law_meets := _, d_law_meets := _, h_law_meets := ⟨F20, b20, PySem.W.mg_of X G a20⟩, f_law_crowded := _, d_law_crowded := _, h_law_crowded := ⟨F21, b21, PySem.W.mg_of X G a21⟩, f_law_deed := _, d_law_deed := _, h_law_deed := ⟨F22, b22, PySem.W.mg_of X G a22⟩, f_law_taken := _, d_law_taken := _, h_law_taken := ⟨F23, b23, PySem.W.mg_of X G a23⟩, f_law_full := _, d_law_full := _, h_law_full := ⟨F24, b24, PySem.W.mg_of X G a24⟩, f_law_many := _, d_law_many := _, h_law_many := ⟨F25, b25, PySem.W.mg_of X G a25⟩, c_Book := _, g_Book := PySem.W.mg_of X G oa_Book, cl_Book := ⟨opg_Book, ohd_Book, opo_Book, osa_Book⟩, na_Book__jobs := on_Book__jobs, c_TooMany := _, g_TooMany := PySem.W.mg_of X G ac_TooMany, x_TooMany := xc_TooMany, k_TooMany := kc_TooMany, s_TooMany := sc_TooMany, t_TooMany := tc_TooMany, c_BadJob := _, g_BadJob := PySem.W.mg_of X G ac_BadJob, x_BadJob := xc_BadJob, k_BadJob := kc_BadJob, s_BadJob := sc_BadJob, t_BadJob := tc_BadJob, c_OutOfPlace := _, g_OutOfPlace := PySem.W.mg_of X G ac_OutOfPlace, x_OutOfPlace := xc_OutOfPlace, k_OutOfPlace := kc_OutOfPlace, s_OutOfPlace := sc_OutOfPlace, t_OutOfPlace := tc_OutOfPlace, c_NoRow := _, g_NoRow := PySem.W.mg_of X G ac_NoRow, x_NoRow := xc_NoRow, k_NoRow := kc_NoRow, s_NoRow := sc_NoRow, t_NoRow := tc_NoRow, c_RunError := _, g_RunError := PySem.W.mg_of X G ac_RunError, x_RunError := xc_RunError, k_RunError := kc_RunError, s_RunError := sc_RunError, t_RunError := tc_RunError, e_TooMany_TooMany := PySem.W.exm_ref sc_TooMany hd_TooMany tc_TooMany ec_TooMany_TooMany, e_TooMany_BadJob := PySem.W.exm_ref sc_BadJob hd_BadJob tc_BadJob ec_TooMany_BadJob, e_TooMany_OutOfPlace := PySem.W.exm_ref sc_OutOfPlace hd_OutOfPlace tc_OutOfPlace ec_TooMany_OutOfPlace, e_TooMany_NoRow := PySem.W.exm_ref sc_NoRow hd_NoRow tc_NoRow ec_TooMany_NoRow, e_TooMany_RunError := PySem.W.exm_ref sc_RunError hd_RunError tc_RunError ec_TooMany_RunError, e_BadJob_TooMany := PySem.W.exm_ref sc_TooMany hd_TooMany tc_TooMany ec_BadJob_TooMany, e_BadJob_BadJob := PySem.W.exm_ref sc_BadJob hd_BadJob tc_BadJob ec_BadJob_BadJob, e_BadJob_OutOfPlace := PySem.W.exm_ref sc_OutOfPlace hd_OutOfPlace tc_OutOfPlace ec_BadJob_OutOfPlace, e_BadJob_NoRow := PySem.W.exm_ref sc_NoRow hd_NoRow tc_NoRow ec_BadJob_NoRow, e_BadJob_RunError := PySem.W.exm_ref sc_RunError hd_RunError tc_RunError ec_BadJob_RunError, e_OutOfPlace_TooMany := PySem.W.exm_ref sc_TooMany hd_TooMany tc_TooMany ec_OutOfPlace_TooMany, e_OutOfPlace_BadJob := PySem.W.exm_ref sc_BadJob hd_BadJob tc_BadJob ec_OutOfPlace_BadJob, e_OutOfPlace_OutOfPlace := PySem.W.exm_ref sc_OutOfPlace hd_OutOfPlace tc_OutOfPlace ec_OutOfPlace_OutOfPlace, e_OutOfPlace_NoRow := PySem.W.exm_ref sc_NoRow hd_NoRow tc_NoRow ec_OutOfPlace_NoRow, e_OutOfPlace_RunError := PySem.W.exm_ref sc_RunError hd_RunError tc_RunError ec_OutOfPlace_RunError, q_OutOfPlace := ⟨qhg_OutOfPlace, qhk_OutOfPlace, sc_OutOfPlace, hd_OutOfPlace, qha_OutOfPlace, qhn, qht, qhm_OutOfPlace⟩, i_OutOfPlace_OutOfPlace := kit_ref hd_OutOfPlace tc_OutOfPlace ec_OutOfPlace_OutOfPlace ec_OutOfPlace_OutOfPlace, i_OutOfPlace_BadJob := kit_ref hd_BadJob tc_BadJob ec_BadJob_BadJob ec_OutOfPlace_BadJob, i_OutOfPlace_NoRow := kit_ref hd_NoRow tc_NoRow ss_NoRow ec_OutOfPlace_NoRow, i_OutOfPlace_TooMany := kit_ref hd_TooMany tc_TooMany ec_TooMany_TooMany ec_OutOfPlace_TooMany, b_tuple := PySem.W.mg_none_of X G z_tuple, b_all := PySem.W.mg_none_of X G z_all, b_type := PySem.W.mg_none_of X G z_type, b_len := PySem.W.mg_none_of X G z_len, b_int := PySem.W.mg_none_of X G z_int, b_enumerate := PySem.W.mg_none_of X G z_enumerate, b_any := PySem.W.mg_none_of X G z_any, b_min := PySem.W.mg_none_of X G z_min, b_sorted := PySem.W.mg_none_of X G z_sorted, b_reversed := PySem.W.mg_none_of X G z_reversed, b_list := PySem.W.mg_none_of X G z_list, b_isinstance := PySem.W.mg_none_of X G z_isinstance, b_bool := PySem.W.mg_none_of X G z_bool, b_sum := PySem.W.mg_none_of X G z_sum, b_range := PySem.W.mg_none_of X G z_range, t_LIMIT := tk_LIMIT, c_LIMIT := PySem.W.mg_of X G w_LIMIT }
  exact ⟨PySem.W.fnOf "law" "law" (defArgs s_law) (defBody s_law) (defScope s_law) .none kV26 dc26 pm26 an26 cd26 ct26, fun s v => .of_eq rfl, fun base _ _ => ok_law F26 T⟩
end DLL
open PySem PySem.W PyProof.Rows
set_option maxRecDepth 100000 in
set_option maxHeartbeats 0 in
theorem PySem.Challenge.cw_deadlinerun_k13_whole_book_holds : PySem.Challenge.rw_deadlinerun_k13_whole_book.Holds := by
  w_on; o_law; k_head; (case hw => w_witness2)
  k_fill
  refine L2.walk_of (l := PySem.Challenge.rw_deadlinerun_k13_whole_book) (n := 63) (k := 10) (x := "_law_script") (CX := fun _ => L2.CX0) (sp := fun w => DLL.spLaw _) rfl (by decide) rfl ⟨rfl, by decide, by decide⟩ (fun w h Y => PySem.W.kIn_of Y) ?F (fun _ _ a ns hl _ hS => ⟨a, ns, rfl, hS, hl, fun _ => rfl⟩) (fun _ _ _ _ _ h => h)
  case F =>
    intro w mg fa h KX G hmg
    refine' DLL.all_mk KX G hmg ?oa_Book ?opg_Book ?ohd_Book ?opo_Book ?osa_Book ?omk_Book ?okc_Book ?on_Book__jobs ?a0 ?l0 ?c0 ?k0 ?a1 ?l1 ?c1 ?k1 ?a2 ?l2 ?c2 ?k2 ?a3 ?l3 ?c3 ?k3 ?a4 ?l4 ?c4 ?k4 ?a5 ?l5 ?c5 ?k5 ?a6 ?l6 ?c6 ?k6 ?a7 ?l7 ?c7 ?k7 ?a8 ?l8 ?c8 ?k8 ?a9 ?l9 ?c9 ?k9 ?a10 ?l10 ?c10 ?k10 ?a11 ?i11 ?l11 ?c11 ?k11 ?a12 ?i12 ?l12 ?c12 ?k12 ?a13 ?i13 ?l13 ?c13 ?k13 ?a14 ?i14 ?l14 ?c14 ?k14 ?a15 ?i15 ?l15 ?c15 ?k15 ?a16 ?l16 ?c16 ?k16 ?a17 ?l17 ?c17 ?k17 ?a18 ?l18 ?c18 ?k18 ?a19 ?l19 ?c19 ?k19 ?a20 ?l20 ?c20 ?k20 ?a21 ?l21 ?c21 ?k21 ?a22 ?l22 ?c22 ?k22 ?a23 ?l23 ?c23 ?k23 ?a24 ?l24 ?c24 ?k24 ?a25 ?l25 ?c25 ?k25 ?a26 ?l26 ?c26 ?k26 ?ac_TooMany ?xc_TooMany ?kc_TooMany ?sc_TooMany ?tc_TooMany ?hd_TooMany ?ac_BadJob ?xc_BadJob ?kc_BadJob ?sc_BadJob ?tc_BadJob ?hd_BadJob ?ac_OutOfPlace ?xc_OutOfPlace ?kc_OutOfPlace ?sc_OutOfPlace ?tc_OutOfPlace ?hd_OutOfPlace ?ac_NoRow ?xc_NoRow ?kc_NoRow ?sc_NoRow ?tc_NoRow ?hd_NoRow ?ac_RunError ?xc_RunError ?kc_RunError ?sc_RunError ?tc_RunError ?hd_RunError ?ec_TooMany_TooMany ?ec_TooMany_BadJob ?ec_TooMany_OutOfPlace ?ec_TooMany_NoRow ?ec_TooMany_RunError ?ec_BadJob_TooMany ?ec_BadJob_BadJob ?ec_BadJob_OutOfPlace ?ec_BadJob_NoRow ?ec_BadJob_RunError ?ec_OutOfPlace_TooMany ?ec_OutOfPlace_BadJob ?ec_OutOfPlace_OutOfPlace ?ec_OutOfPlace_NoRow ?ec_OutOfPlace_RunError ?qhg_OutOfPlace ?qhk_OutOfPlace ?qha_OutOfPlace ?qhm_OutOfPlace ?ss_NoRow ?qhn ?qht ?z_tuple ?z_all ?z_type ?z_len ?z_int ?z_enumerate ?z_any ?z_min ?z_sorted ?z_reversed ?z_list ?z_isinstance ?z_bool ?z_sum ?z_range ?w_LIMIT
    (case oa_Book => k_is)
    (case opg_Book => k_is)
    (case ohd_Book => k_is)
    (case opo_Book => k_is)
    (case osa_Book => k_is)
    (case omk_Book => k_is)
    (case okc_Book => k_is)
    (case on_Book__jobs => k_is)
    (case a0 => k_is)
    (case l0 => k_is)
    (case c0 => k_is)
    (case k0 => k_is)
    (case a1 => k_is)
    (case l1 => k_is)
    (case c1 => k_is)
    (case k1 => k_is)
    (case a2 => k_is)
    (case l2 => k_is)
    (case c2 => k_is)
    (case k2 => k_is)
    (case a3 => k_is)
    (case l3 => k_is)
    (case c3 => k_is)
    (case k3 => k_is)
    (case a4 => k_is)
    (case l4 => k_is)
    (case c4 => k_is)
    (case k4 => k_is)
    (case a5 => k_is)
    (case l5 => k_is)
    (case c5 => k_is)
    (case k5 => k_is)
    (case a6 => k_is)
    (case l6 => k_is)
    (case c6 => k_is)
    (case k6 => k_is)
    (case a7 => k_is)
    (case l7 => k_is)
    (case c7 => k_is)
    (case k7 => k_is)
    (case a8 => k_is)
    (case l8 => k_is)
    (case c8 => k_is)
    (case k8 => k_is)
    (case a9 => k_is)
    (case l9 => k_is)
    (case c9 => k_is)
    (case k9 => k_is)
    (case a10 => k_is)
    (case l10 => k_is)
    (case c10 => k_is)
    (case k10 => k_is)
    (case a11 => k_is)
    (case i11 => k_is)
    (case l11 => k_is)
    (case c11 => k_is)
    (case k11 => k_is)
    (case a12 => k_is)
    (case i12 => k_is)
    (case l12 => k_is)
    (case c12 => k_is)
    (case k12 => k_is)
    (case a13 => k_is)
    (case i13 => k_is)
    (case l13 => k_is)
    (case c13 => k_is)
    (case k13 => k_is)
    (case a14 => k_is)
    (case i14 => k_is)
    (case l14 => k_is)
    (case c14 => k_is)
    (case k14 => k_is)
    (case a15 => k_is)
    (case i15 => k_is)
    (case l15 => k_is)
    (case c15 => k_is)
    (case k15 => k_is)
    (case a16 => k_is)
    (case l16 => k_is)
    (case c16 => k_is)
    (case k16 => k_is)
    (case a17 => k_is)
    (case l17 => k_is)
    (case c17 => k_is)
    (case k17 => k_is)
    (case a18 => k_is)
    (case l18 => k_is)
    (case c18 => k_is)
    (case k18 => k_is)
    (case a19 => k_is)
    (case l19 => k_is)
    (case c19 => k_is)
    (case k19 => k_is)
    (case a20 => k_is)
    (case l20 => k_is)
    (case c20 => k_is)
    (case k20 => k_is)
    (case a21 => k_is)
    (case l21 => k_is)
    (case c21 => k_is)
    (case k21 => k_is)
    (case a22 => k_is)
    (case l22 => k_is)
    (case c22 => k_is)
    (case k22 => k_is)
    (case a23 => k_is)
    (case l23 => k_is)
    (case c23 => k_is)
    (case k23 => k_is)
    (case a24 => k_is)
    (case l24 => k_is)
    (case c24 => k_is)
    (case k24 => k_is)
    (case a25 => k_is)
    (case l25 => k_is)
    (case c25 => k_is)
    (case k25 => k_is)
    (case a26 => k_is)
    (case l26 => k_is)
    (case c26 => k_is)
    (case k26 => k_is)
    (case ac_TooMany => k_is)
    (case xc_TooMany => k_exc)
    (case kc_TooMany => k_is)
    (case sc_TooMany => k_is)
    (case tc_TooMany => k_is)
    (case hd_TooMany => k_is)
    (case ac_BadJob => k_is)
    (case xc_BadJob => k_exc)
    (case kc_BadJob => k_is)
    (case sc_BadJob => k_is)
    (case tc_BadJob => k_is)
    (case hd_BadJob => k_is)
    (case ac_OutOfPlace => k_is)
    (case xc_OutOfPlace => k_exc)
    (case kc_OutOfPlace => k_is)
    (case sc_OutOfPlace => k_is)
    (case tc_OutOfPlace => k_is)
    (case hd_OutOfPlace => k_is)
    (case ac_NoRow => k_is)
    (case xc_NoRow => k_exc)
    (case kc_NoRow => k_is)
    (case sc_NoRow => k_is)
    (case tc_NoRow => k_is)
    (case hd_NoRow => k_is)
    (case ac_RunError => k_is)
    (case xc_RunError => k_exc)
    (case kc_RunError => k_is)
    (case sc_RunError => k_is)
    (case tc_RunError => k_is)
    (case hd_RunError => k_is)
    (case ec_TooMany_TooMany => first | rfl | k_is)
    (case ec_TooMany_BadJob => first | rfl | k_is)
    (case ec_TooMany_OutOfPlace => first | rfl | k_is)
    (case ec_TooMany_NoRow => first | rfl | k_is)
    (case ec_TooMany_RunError => first | rfl | k_is)
    (case ec_BadJob_TooMany => first | rfl | k_is)
    (case ec_BadJob_BadJob => first | rfl | k_is)
    (case ec_BadJob_OutOfPlace => first | rfl | k_is)
    (case ec_BadJob_NoRow => first | rfl | k_is)
    (case ec_BadJob_RunError => first | rfl | k_is)
    (case ec_OutOfPlace_TooMany => first | rfl | k_is)
    (case ec_OutOfPlace_BadJob => first | rfl | k_is)
    (case ec_OutOfPlace_OutOfPlace => first | rfl | k_is)
    (case ec_OutOfPlace_NoRow => first | rfl | k_is)
    (case ec_OutOfPlace_RunError => first | rfl | k_is)
    (case qhg_OutOfPlace => k_is)
    (case qhk_OutOfPlace => k_is)
    (case qha_OutOfPlace => k_is)
    (case qhm_OutOfPlace => k_is)
    (case ss_NoRow => k_is)
    (case qhn => k_is)
    (case qht => k_is)
    (case z_tuple => k_is)
    (case z_all => k_is)
    (case z_type => k_is)
    (case z_len => k_is)
    (case z_int => k_is)
    (case z_enumerate => k_is)
    (case z_any => k_is)
    (case z_min => k_is)
    (case z_sorted => k_is)
    (case z_reversed => k_is)
    (case z_list => k_is)
    (case z_isinstance => k_is)
    (case z_bool => k_is)
    (case z_sum => k_is)
    (case z_range => k_is)
    (case w_LIMIT => k_is)

