import PyProof.Rows.All
import Wide.All
import OpenK.AllK
import Wide.FinOn
import HandS.ForMost
import HandS.ForExc
import HandS.Wide
import HandS.Evl
import HandS.SortRule
import HandS.IsInst
import HandS.Flow
import HandS.More
import HandS.Zip
import HandS.SortKw
import KE.DataAny
import KE.DatumOrd
import PyProof.TypeEq
import HandS.SortInts
import HandS.Rev
import HandS.TryMany
import HandS.ExcIs
import HandS.RaiseMore
import HandS.FStr
import HandS.Codes
import HandS.StrMore
import KE.GoesComp
import KE.GoesRaise
import HandS.NoneIn
import HandS.Deep
import PyProof.Rows.RegReprOcc
import PySem.Challenge.RW_deadlinerun_k14_notes
set_option Elab.async false
set_option linter.all false
set_option maxRecDepth 100000
namespace L2
open PySem PySem.Spec PyProof.Rows PySem.W
/-! ### rules of my own -/
section
variable {X : Cx} {a b c d : Expr} {ta tb tc td : TE} {pos : Pos}
/-- three comparisons in a row -/
def tChain3 (r r' r'' : R2) (ta tb tc td : TE) : TE := fun σ H Q => ta σ H fun x H1 => tb σ H1 fun y H2 => r x y H2 fun z H3 => ∃ k, z = .bl k ∧
  (if k = true then tc σ H3 fun w' H4 => r' y w' H4 fun z2 H5 => ∃ k2, z2 = .bl k2 ∧ (if k2 = true then td σ H5 fun w2 H6 => r'' w' w2 H6 Q else Q (.bl false) H5) else Q (.bl false) H3)
theorem pe_chain3 {op op' op'' : CmpOp} {r r' r'' : R2} (ho : OpR X (compareOp op) r) (ho' : OpR X (compareOp op') r') (ho'' : OpR X (compareOp op'') r'') (ha : PE X a ta) (hb : PE X b tb) (hc : PE X c tc) (hd : PE X d td)
    (hm : lastMarks [op, op', op''] [b, c, d] = false := by with_unfolding_all rfl) : PE X (.Compare a [op, op', op''] [b, c, d] pos) (tChain3 r r' r'' ta tb tc td) := by
  refine ⟨fun pn t₀ τ G Q J rd => ?_⟩
  refine Compare_chain (thn (ha.run pn t₀ τ G _ J rd) fun v₁ t₁ ⟨x₁, G₁, J₁, k₁, w₁⟩ => chain_link (thn (hb.run pn t₁ τ G₁ _ J₁ w₁) fun v₂ t₂ ⟨x₂, G₂, J₂, k₂, w₂⟩ =>
    thn (ho pn t₂ τ G₂ x₁ x₂ v₁ v₂ _ J₂ k₁ k₂ w₂) fun b₁ t₃ ⟨y₁, G₃, J₃, l₁, m, em, w₃⟩ => ?_)) hm
  subst em
  cases l₁
  refine wpAny_truthy_bool ?_
  cases m with
  | false =>
    refine ite_ff ⟨.bl false, G₃, J₃, rfl, w₃⟩
  | true =>
    refine ite_tt (chain_link (thn (hc.run pn t₃ τ G₃ _ J₃ w₃) fun v₃ t₄ ⟨x₃, G₄, J₄, k₃, w₄⟩ => thn (ho' pn t₄ τ G₄ x₂ x₃ v₂ v₃ _ J₄ k₂ k₃ w₄) fun b₂ t₅ ⟨y₂, G₅, J₅, l₂, m₂, em₂, w₅⟩ => ?_))
    subst em₂
    cases l₂
    refine wpAny_truthy_bool ?_
    cases m₂ with
    | false =>
      refine ite_ff ⟨.bl false, G₅, J₅, rfl, w₅⟩
    | true => exact ite_tt (chain_last (thn (hd.run pn t₅ τ G₅ _ J₅ w₅) fun v₄ t₆ ⟨x₄, G₆, J₆, k₄, w₆⟩ => ho'' pn t₆ τ G₆ x₃ x₄ v₃ v₄ Q J₆ k₃ k₄ w₆))

/-- xs[i], by values, for a store by an operator -/
theorem get_list : PGet X (rIxL X.K) := by
  intro pn t₀ τ G o i ov iv Q J ro ri rd
  obtain ⟨p, xs, k, z, rfl, rfl, isl, at_, q⟩ := rd
  cases ro
  obtain ⟨tk, rfl⟩ := ri
  obtain ⟨items, rel, place, size⟩ := J.list isl
  obtain ⟨n, n1, n2, n3, n4, n5⟩ := atI_get at_
  obtain ⟨u, eu, ru⟩ := rel.get n2
  have len := rel.length
  have most := line63
  have done : EP X pn τ Q u t₀ := ⟨z, G, J, ru, q⟩
  by_cases h0 : 0 ≤ k
  · have same : k.toNat = n := by
      rw [seqIndex_of h0 n5] at n1
      exact Option.some.inj n1
    exact thn (wpAny_getItem_list (Q := fun r t => r = u ∧ EP X pn τ Q r t) place.isList h0 (by omega) (by rw [same]; simpa using eu) ⟨rfl, done⟩) fun _ _ y => y.2
  · have same : (k + (items.toArray.size : Int)).toNat = n := by
      have n1' := n1
      rw [seqIndex_neg (by omega) n4] at n1'
      rw [List.size_toArray, ← len]
      exact Option.some.inj n1'
    exact thn (wpAny_getItem_list_neg (Q := fun r t => r = u ∧ EP X pn τ Q r t) place.isList (by omega) (by rw [List.size_toArray] <;> omega) (by omega) (by rw [same]; simpa using eu) ⟨rfl, done⟩) fun _ _ y => y.2

/-- any(xs) of whole numbers -/
theorem reads_ints {h : Heap} : ∀ {ns : List Int} {us : List Value}, Vals (ns.map V.int) us → ∃ as, ReadsAll h us (ns.map PyData.int) as
  | [], _, r => by cases r; exact ⟨_, ReadsAll.nil⟩
  | n :: ns, _, r => by
    cases r with
    | cons r1 r2 =>
      obtain ⟨t, rfl⟩ := r1
      obtain ⟨as, q⟩ := reads_ints r2
      exact ⟨_, ReadsAll.cons (Reads.int n t) q⟩
theorem plain_ints : ∀ ns : List Int, PyData.plainAll (ns.map PyData.int) = true
  | [] => rfl
  | n :: ns => by
    show ((PyData.int n).plain && PyData.plainAll (ns.map PyData.int)) = true
    rw [plain_ints ns]
    rfl
theorem any_ints (ns : List Int) : (ns.map PyData.int).any PyData.truthy = ns.any (fun n => n != 0) := by
  rw [List.any_map]
  rfl
def rAnyI (K : PySem.W.Frag) : List V → Hp → VK → Prop := fun vs H Q => ∃ (a : Addr) (ns : List Int), vs = [V.ref a] ∧ SqL K H a (ns.map V.int) ∧ Q (.bl (ns.any (fun n => n != 0))) H
theorem cr_anyI (hc : X.calm = true) : CallR X (.builtin "any") (rAnyI X.K) := by
  intro pn t₀ τ G vs us Q J rel rd
  obtain ⟨a, ns, rfl, isl, q⟩ := rd
  obtain ⟨items, each, place, _⟩ := J.list isl
  rw [Vals.ref1 rel]
  obtain ⟨as, hr⟩ := reads_ints (h := t₀.heap) each
  refine any_list_data (J.ok.hd hc) place.isList (vs := items.toArray) (xs := ns.map PyData.int) (as := as) (by simpa using hr) (plain_ints ns) (fun x hx => ?_) fun h' tk hk => ?_
  · obtain ⟨n, _, rfl⟩ := List.mem_map.mp hx
    trivial
  · rw [any_ints]
    exact ⟨.bl _, G, J.kept hk, rfl, q⟩
theorem alike_ints (ns : List Int) : AlikeAll (ns.map PyData.int) := by
  refine ⟨fun x hx y hy => ?_, fun x hx => ?_⟩
  · obtain ⟨n, _, rfl⟩ := List.mem_map.mp hx
    obtain ⟨m, _, rfl⟩ := List.mem_map.mp hy
    rfl
  · obtain ⟨n, _, rfl⟩ := List.mem_map.mp hx
    intro e; cases e
theorem depth_ints : ∀ ns : List Int, PyData.depthAll (ns.map PyData.int) ≤ 2
  | [] => by decide
  | n :: ns => by
    have h := depth_ints ns
    show max (PyData.int n).depth (PyData.depthAll (ns.map PyData.int)) ≤ 2
    have h1 : (PyData.int n).depth ≤ 2 := Nat.zero_le 2
    omega
/-- min(xs, default=d) of whole numbers -/
def rMinD (K : PySem.W.Frag) : List V → List V → Hp → VK → Prop := fun vs zs H Q => ∃ (a : Addr) (ns : List Int) (d : Int), vs = [V.ref a] ∧ zs = [V.int d] ∧ SqL K H a (ns.map V.int) ∧ (ns = [] → Q (.int d) H) ∧ (ns ≠ [] → ∀ m, m ∈ ns → (∀ y, y ∈ ns → m ≤ y) → Q (.int m) H)
theorem foldl_min : ∀ (ns : List Int) (n : Int), (ns.foldl min n = n ∨ ns.foldl min n ∈ ns) ∧ ns.foldl min n ≤ n ∧ ∀ y ∈ ns, ns.foldl min n ≤ y
  | [], n => ⟨.inl rfl, Int.le_refl _, fun y h => by simp at h⟩
  | m :: ns, n => by
    obtain ⟨h1, h2, h3⟩ := foldl_min ns (min n m)
    rw [List.foldl_cons]
    refine ⟨?_, by omega, fun y hy => ?_⟩
    · rcases h1 with e | e
      · by_cases c : n ≤ m
        · left; rw [e, Int.min_eq_left c]
        · right; rw [e, Int.min_eq_right (by omega)]; exact List.mem_cons_self
      · right; exact List.mem_cons_of_mem _ e
    · rcases List.mem_cons.mp hy with e | e
      · rw [e]; omega
      · exact h3 y e
theorem cr_minD (hc : X.calm = true) (hu : X.A.units + 64 < cLine) : CallRK X (.builtin "min") [Str.ofString "default"] (rMinD X.K) := by
  intro pn t₀ τ H vs zs us ws Q I rel relK rd
  obtain ⟨a, ns, d, rfl, rfl, isl, q0, q1⟩ := rd
  obtain ⟨items, each, place, _⟩ := I.list isl
  rw [Vals.ref1 rel]
  obtain ⟨wd, rfl, rd⟩ := vals1 relK
  obtain ⟨as, hr⟩ := reads_ints (h := t₀.heap) each
  show wpAny _ _ (call (.builtin "min") [.ref a] [(Str.ofString "default", wd)]) _ _ _
  refine min_list_default (I.ok.hd hc) place.isList (vs := items.toArray) (xs := ns.map PyData.int) (as := as) (by simpa using hr) (alike_ints ns) (by have := depth_ints ns; omega) (fun e h' tk hk => ?_) fun y ys i v h' tk bs e hv hrd hk => ?_
  · exact ⟨.int d, H, I.kept hk, rd, q0 (List.map_eq_nil_iff.mp e)⟩
  · cases ns with
    | nil => cases e
    | cons n ns =>
      rw [List.map_cons] at e
      injection e with e1 e2
      subst e1
      subst e2
      rw [minD_ints] at hrd
      obtain ⟨t, ev⟩ : ∃ t, v = Value.int (ns.foldl min n) t := by
        cases hrd with
        | int _ t => exact ⟨t, rfl⟩
      obtain ⟨g1, g2, g3⟩ := foldl_min ns n
      refine ⟨.int (ns.foldl min n), H, I.kept hk, ⟨t, ev⟩, q1 (List.cons_ne_nil _ _) _ ?_ fun y hy => ?_⟩
      · rcases g1 with z | z
        · rw [z]; exact List.mem_cons_self
        · exact List.mem_cons_of_mem _ z
      · rcases List.mem_cons.mp hy with z | z
        · rw [z]; exact g2
        · exact g3 y z

/-! ### == and != of built-in types -/
theorem meta_of {T : String} (h : T = "int" ∨ T = "bool" ∨ T = "str" ∨ T = "NoneType" ∨ T = "list" ∨ T = "tuple") : ∀ s' : Shared, s'.TypeIs (.type T) "type" := by
  intro s'
  rcases h with rfl | rfl | rfl | rfl | rfl | rfl
  · exact TypeEq.meta_int s'
  · exact TypeEq.meta_bool s'
  · exact TypeEq.meta_str s'
  · exact TypeEq.meta_NoneType s'
  · exact TypeEq.meta_list s'
  · exact TypeEq.meta_tuple s'
def SmallTy (T : String) : Prop := T = "int" ∨ T = "bool" ∨ T = "str" ∨ T = "NoneType" ∨ T = "list" ∨ T = "tuple"
def rEqTy : R2 := fun x y H Q => ∃ a b, x = .ty a ∧ y = .ty b ∧ SmallTy a ∧ SmallTy b ∧ Q (.bl (decide (a = b))) H
theorem op_eqTy : OpR X (compareOp .Eq) rEqTy := by
  intro pn t₀ τ G p₁ p₂ v₁ v₂ Q J rel₁ rel₂ rd
  obtain ⟨a, b, rfl, rfl, ha, hb, q⟩ := rd
  cases (show v₁ = Value.type a from rel₁)
  cases (show v₂ = Value.type b from rel₂)
  by_cases e : a = b
  · subst e
    exact TypeEq.eq_type_same (meta_of ha) (fin_bl J q (decide_eq_true rfl))
  · exact TypeEq.eq_type_other (meta_of ha) (meta_of hb) (beq_eq_false_iff_ne.mpr fun z => e (Value.type.inj z)) (fin_bl J q (decide_eq_false e))
end
end L2
namespace PySem.TypeEq
open Sem (wp)
theorem slot_type_ne : Slot "type" (cmpInfo .NotEq).2.1 "object.__ne__" := by
  refine .of (owner := "object") (n := "__ne__") ?_ (by decide +kernel) (by decide +kernel) (by decide +kernel) ?_ ?_
  · rw [typeLookup_type, builtinLookup_eq_fast]
    kernel_rfl
  · first
      | exact .inl (by decide +kernel)
      | exact .inr (by decide +kernel)
  · rw [isSubtype_type]
    kernel_rfl
theorem slot_type_ne_refl : Slot "type" (cmpInfo .NotEq).2.2 "object.__ne__" := slot_type_ne
section
variable {prog : Program} {w : World} {A : Around} {s : Shared} {E : Value → Shared → Prop}
theorem object_ne_run {X Y : String} {Q : Fin → Shared → Prop} (hX : ∀ s' : Shared, s'.TypeIs (.type X) "type")
    (h : if (Value.type X == Value.type Y) = true then Q (.done (.ret (.bool false))) s else Q (.done (.ret .notImplemented)) s) :
    wpAny (model prog w) A (Builtin.«object.__ne__» ⟨[.type X, .type Y], []⟩) Q E s := by
  show wpAny _ _ (Builtin.«object.__ne__» _) _ _ _
  delta Builtin.«object.__ne__»
  refine wpAny_bind (wpAny_pure (wpAny_bind (wpAny_cRoomFor_byValue rfl (wpAny_bind (wpAny_callSpecialIfBound?_slot (hX s) slot_type_eq ?_)))))
  by_cases e : (Value.type X == Value.type Y) = true
  · rw [if_pos e] at h
    refine call_gives slot_type_eq (hX s) F.entry_object_eq (F.args_object_eq_2 _ _) (object_eq_same rfl e) ?_
    refine wpAny_bind (wpAny_truthy_bool ?_)
    exact wpAny_pure h
  · rw [if_neg e] at h
    refine call_gives slot_type_eq (hX s) F.entry_object_eq (F.args_object_eq_2 _ _) (object_eq_other rfl (by simpa using e)) ?_
    exact wpAny_pure h
/-- != of two values of one type, where either method declines -/
theorem ne_declined {M : Model} {p q : Value} {T id : String} {k : Bool} {Q : Value → Shared → Prop} (tp : ∀ s' : Shared, s'.TypeIs p T) (tq : ∀ s' : Shared, s'.TypeIs q T)
    (one : Slot T (cmpInfo .NotEq).2.1 id) (two : Slot T (cmpInfo .NotEq).2.2 id) (off : [p, q].any Value.onHeap = false) (same : isSame p q = pure k)
    (run : wpAny M A (call (.builtin id) [p, q]) (fun v t₁ => v = .notImplemented ∧ wpAny M A (call (.builtin id) [q, p]) (fun v t₂ => v = .notImplemented ∧ Q (.bool (!k)) t₂) E t₁) E s) :
    wpAny M A (richCompare .NotEq p q) Q E s := by
  rcases how : cmpInfo .NotEq with ⟨g, f, r⟩
  rw [how] at one two
  simp only [richCompare, how, (tp s).oneThing_none]
  try with_reducible refine wpAny_holding ?_
  refine wpAny_bind (wpAny_cRoomFor_or (.inl off) (wpAny_bind (wpAny_typeOf (tp s) (wpAny_bind (wpAny_typeOf (tq s) ?_)))))
  simp only [Bool.not_false, if_true, if_false, Bool.false_eq_true, bne_self_eq_false, pure_bind]
  refine wpAny_bind (m := tryCompare p _ q) (wpAny_tryCompare_declines (tp s) one (wpAny_mono run (fun v t₁ z₁ => ⟨z₁.1, ?_⟩) fun _ _ y => y))
  refine wpAny_bind (m := tryCompare q _ p) (wpAny_tryCompare_declines (tq t₁) two (wpAny_mono z₁.2 (fun v t₂ z₂ => ⟨z₂.1, ?_⟩) fun _ _ y => y))
  exact wpAny_bind (wpAny_rule (wpAny_bind (wpAny_of_eq same (wpAny_pure z₂.2))))
theorem ne_type {X Y : String} {Q : Value → Shared → Prop} (hX : ∀ s' : Shared, s'.TypeIs (.type X) "type") (hY : ∀ s' : Shared, s'.TypeIs (.type Y) "type") (h : Q (.bool (!(Value.type X == Value.type Y))) s) : wpAny (model prog w) A (compareOp .NotEq (.type X) (.type Y)) Q E s := by
  show wpAny _ A (richCompare .NotEq _ _) Q E s
  by_cases e : (Value.type X == Value.type Y) = true
  · rw [e] at h
    refine wpAny_richCompare_same (T := "type") (hX s) (hY s) slot_type_ne (wpAny_call_entry slot_type_ne (hX s) F.entry_object_ne (object_ne_run hX ?_) (F.args_object_ne_2 _ _))
    rw [if_pos e]
    exact ⟨_, rfl, nofun, h⟩
  · have e0 : (Value.type X == Value.type Y) = false := by simpa using e
    have e' : ¬ (Value.type Y == Value.type X) = true := fun z => e (by rw [beq_iff_eq] at z ⊢; exact z.symm)
    rw [e0] at h
    refine ne_declined (T := "type") (k := false) hX hY slot_type_ne slot_type_ne_refl rfl (by rw [isSame_plain rfl, e0]) ?_
    refine wpAny_call_entry slot_type_ne (hX s) F.entry_object_ne (object_ne_run hX ?_) (F.args_object_ne_2 _ _)
    rw [if_neg e]
    refine ⟨_, rfl, rfl, ?_⟩
    refine wpAny_call_entry slot_type_ne_refl (hY s) F.entry_object_ne (object_ne_run hY ?_) (F.args_object_ne_2 _ _)
    rw [if_neg e']
    exact ⟨_, rfl, rfl, h⟩
end
end PySem.TypeEq
namespace L2
open PySem PySem.Spec PyProof.Rows PySem.W
section
variable {X : Cx}
def rNeTy : R2 := fun x y H Q => ∃ a b, x = .ty a ∧ y = .ty b ∧ SmallTy a ∧ SmallTy b ∧ Q (.bl (!decide (a = b))) H
theorem op_neTy : OpR X (compareOp .NotEq) rNeTy := by
  intro pn t₀ τ G p₁ p₂ v₁ v₂ Q J rel₁ rel₂ rd
  obtain ⟨a, b, rfl, rfl, ha, hb, q⟩ := rd
  cases (show v₁ = Value.type a from rel₁)
  cases (show v₂ = Value.type b from rel₂)
  exact TypeEq.ne_type (meta_of ha) (meta_of hb) (fin_bl J q (congrArg not (ty_beq a b).symm))
end
end L2
/-! the mathematics of the run, in plain Lean -/
namespace DL
abbrev T3 := Int × Int × Int
def cm (js : List T3) (i : Nat) : Int := (js.getD i (0, 0, 0)).1
def ln (js : List T3) (i : Nat) : Int := (js.getD i (0, 0, 0)).2.1
def du (js : List T3) (i : Nat) : Int := (js.getD i (0, 0, 0)).2.2
def SoundJ (j : T3) : Prop := 0 ≤ j.1 ∧ 1 ≤ j.2.1 ∧ j.1 < j.2.2
def Sound (js : List T3) : Prop := ∀ j ∈ js, SoundJ j
theorem getD_lt {α : Type} {l : List α} {i : Nat} {d : α} (h : i < l.length) : l.getD i d = l[i] := by
  simp [List.getD, List.getElem?_eq_getElem h]
theorem getD_of {α : Type} {l : List α} {i : Nat} {d x : α} (h : l[i]? = some x) : l.getD i d = x := by
  simp [List.getD, h]
theorem getD_ge {α : Type} {l : List α} {i : Nat} {d : α} (h : l.length ≤ i) : l.getD i d = d := by
  simp [List.getD, List.getElem?_eq_none h]
theorem getD_set_same {l : List Int} {i : Nat} {v : Int} (h : i < l.length) : (l.set i v).getD i 0 = v := by
  simp [List.getD, List.getElem?_set_self h]
theorem getD_set_ne {l : List Int} {i j : Nat} {v : Int} (h : i ≠ j) : (l.set i v).getD j 0 = l.getD j 0 := by
  simp [List.getD, List.getElem?_set_ne h]
theorem Sound.at {js : List T3} (S : Sound js) {i : Nat} (h : i < js.length) : 0 ≤ cm js i ∧ 1 ≤ ln js i ∧ cm js i < du js i := by
  have q := S js[i] (List.getElem_mem h)
  unfold cm ln du
  rw [getD_lt h]
  exact q

/-! ### who is chosen -/
def there (js : List T3) (left : List Int) (t : Int) (i : Nat) : Prop := cm js i ≤ t ∧ left.getD i 0 ≠ 0
instance (js : List T3) (left : List Int) (t : Int) (i : Nat) : Decidable (there js left t i) := by
  unfold there; infer_instance
def first (js : List T3) (p o : Nat) : Prop := du js p < du js o ∨ (du js p = du js o ∧ p ≤ o)
theorem first_refl (js : List T3) (p : Nat) : first js p p := .inr ⟨rfl, Nat.le_refl _⟩
theorem first_trans {js : List T3} {a b c : Nat} (h : first js a b) (k : first js b c) : first js a c := by
  unfold first at *; omega
def fdStep (js : List T3) (left : List Int) (t : Int) (best : Option Nat) (i : Nat) : Option Nat :=
  if there js left t i then
    match best with
    | none => some i
    | some b => if du js i < du js b then some i else some b
  else best
def fdUpto (js : List T3) (left : List Int) (t : Int) : Nat → Option Nat
  | 0 => none
  | k + 1 => fdStep js left t (fdUpto js left t k) k
def firstDue (js : List T3) (left : List Int) (t : Int) : Option Nat := fdUpto js left t js.length
theorem fdUpto_spec (js : List T3) (left : List Int) (t : Int) : ∀ k,
    (fdUpto js left t k = none ∧ ∀ i, i < k → ¬ there js left t i) ∨
    ∃ p, fdUpto js left t k = some p ∧ p < k ∧ there js left t p ∧ ∀ i, i < k → there js left t i → first js p i
  | 0 => .inl ⟨rfl, fun i h => absurd h (Nat.not_lt_zero _)⟩
  | k + 1 => by
    show (fdStep js left t (fdUpto js left t k) k = none ∧ _) ∨ ∃ p, fdStep js left t (fdUpto js left t k) k = some p ∧ _
    unfold fdStep
    by_cases ht : there js left t k
    · rw [if_pos ht]
      rcases fdUpto_spec js left t k with ⟨e, h⟩ | ⟨p, e, hp, tp, h⟩
      · rw [e]
        refine .inr ⟨k, rfl, Nat.lt_succ_self _, ht, fun i hi hti => ?_⟩
        rcases Nat.lt_succ_iff_lt_or_eq.mp hi with q | q
        · exact absurd hti (h i q)
        · rw [q]; exact first_refl _ _
      · rw [e]
        show _ ∨ ∃ p', (if du js k < du js p then some k else some p) = some p' ∧ _
        by_cases hd : du js k < du js p
        · rw [if_pos hd]
          refine .inr ⟨k, rfl, Nat.lt_succ_self _, ht, fun i hi hti => ?_⟩
          rcases Nat.lt_succ_iff_lt_or_eq.mp hi with q | q
          · have z := h i q hti
            unfold first at *; omega
          · rw [q]; exact first_refl _ _
        · rw [if_neg hd]
          refine .inr ⟨p, rfl, by omega, tp, fun i hi hti => ?_⟩
          rcases Nat.lt_succ_iff_lt_or_eq.mp hi with q | q
          · exact h i q hti
          · rw [q]; unfold first; omega
    · rw [if_neg ht]
      rcases fdUpto_spec js left t k with ⟨e, h⟩ | ⟨p, e, hp, tp, h⟩
      · refine .inl ⟨e, fun i hi hti => ?_⟩
        rcases Nat.lt_succ_iff_lt_or_eq.mp hi with q | q
        · exact h i q hti
        · rw [q] at hti; exact ht hti
      · refine .inr ⟨p, e, by omega, tp, fun i hi hti => ?_⟩
        rcases Nat.lt_succ_iff_lt_or_eq.mp hi with q | q
        · exact h i q hti
        · rw [q] at hti; exact absurd hti ht

/-! ### the least of a list -/
def lmin : List Int → Int
  | [] => 0
  | [x] => x
  | x :: y :: r => min x (lmin (y :: r))
theorem lmin_mem : ∀ {l : List Int}, l ≠ [] → lmin l ∈ l
  | [], h => absurd rfl h
  | [x], _ => List.mem_singleton.mpr rfl
  | x :: y :: r, _ => by
    have ih := lmin_mem (l := y :: r) (List.cons_ne_nil _ _)
    show min x (lmin (y :: r)) ∈ x :: y :: r
    by_cases h : x ≤ lmin (y :: r)
    · rw [Int.min_eq_left h]; exact List.mem_cons_self
    · rw [Int.min_eq_right (by omega)]; exact List.mem_cons_of_mem _ ih
theorem lmin_le : ∀ {l : List Int} {x : Int}, x ∈ l → lmin l ≤ x
  | [], _, h => by simp at h
  | [y], x, h => by rw [List.mem_singleton.mp h]; exact Int.le_refl _
  | z :: y :: r, x, h => by
    show min z (lmin (y :: r)) ≤ x
    rcases List.mem_cons.mp h with q | q
    · rw [q]; exact Int.min_le_left _ _
    · exact Int.le_trans (Int.min_le_right _ _) (lmin_le q)
theorem lmin_uniq {l : List Int} {m : Int} (hm : m ∈ l) (h : ∀ x ∈ l, m ≤ x) : m = lmin l := by
  have h1 := h _ (lmin_mem (List.ne_nil_of_mem hm))
  have h2 := lmin_le hm
  omega

/-! ### the run -/
structure RS where
  left : List Int
  pieces : List T3
  time : Int
def comesAfter (js : List T3) (t : Int) : List Int := (js.filter fun j => decide (t < j.1)).map (·.1)
def comesWithin (js : List T3) (t d : Int) : List Int := (js.filter fun j => decide (t < j.1) && decide (j.1 < d)).map (·.1)
def nextCome (js : List T3) (t : Int) : Int := lmin (comesAfter js t)
def endOf (js : List T3) (t rest : Int) : Int := if comesWithin js t (t + rest) = [] then t + rest else lmin (comesWithin js t (t + rest))
def addPiece (ps : List T3) (p : Int) (b e : Int) : List T3 :=
  match ps.getLast? with
  | some q => if q.1 = p then ps.dropLast ++ [(p, q.2.1, e)] else ps ++ [(p, b, e)]
  | none => ps ++ [(p, b, e)]
def step (js : List T3) (s : RS) : RS :=
  match firstDue js s.left s.time with
  | none => { s with time := nextCome js s.time }
  | some p =>
    { left := s.left.set p (s.left.getD p 0 - (endOf js s.time (s.left.getD p 0) - s.time))
      pieces := addPiece s.pieces (p : Int) s.time (endOf js s.time (s.left.getD p 0))
      time := endOf js s.time (s.left.getD p 0) }
def done (s : RS) : Prop := ∀ x ∈ s.left, x = 0
instance (s : RS) : Decidable (done s) := by unfold done; infer_instance
def runFrom (js : List T3) : Nat → RS → RS
  | 0, s => s
  | k + 1, s => if done s then s else runFrom js k (step js s)
def rs0 (js : List T3) : RS := ⟨js.map (·.2.1), [], 0⟩
def runM (js : List T3) : List T3 := (runFrom js (2 * js.length) (rs0 js)).pieces
theorem runFrom_done {js : List T3} {k : Nat} {s : RS} (h : done s) : runFrom js k s = s := by
  cases k with
  | zero => rfl
  | succ k => show (if done s then s else _) = s; rw [if_pos h]

theorem mem_comesAfter {js : List T3} {t x : Int} : x ∈ comesAfter js t ↔ t < x ∧ ∃ i, i < js.length ∧ cm js i = x := by
  unfold comesAfter
  rw [List.mem_map]
  constructor
  · rintro ⟨j, hj, e⟩
    obtain ⟨h1, h2⟩ := List.mem_filter.mp hj
    obtain ⟨i, hi, e2⟩ := List.getElem_of_mem h1
    refine ⟨by rw [← e]; exact of_decide_eq_true h2, i, hi, ?_⟩
    unfold cm
    rw [getD_lt hi, e2, e]
  · rintro ⟨h1, i, hi, e⟩
    unfold cm at e
    rw [getD_lt hi] at e
    exact ⟨js[i], List.mem_filter.mpr ⟨List.getElem_mem hi, by rw [e]; exact decide_eq_true h1⟩, e⟩
theorem mem_comesWithin {js : List T3} {t d x : Int} : x ∈ comesWithin js t d ↔ t < x ∧ x < d ∧ ∃ i, i < js.length ∧ cm js i = x := by
  unfold comesWithin
  rw [List.mem_map]
  constructor
  · rintro ⟨j, hj, e⟩
    obtain ⟨h1, h2⟩ := List.mem_filter.mp hj
    obtain ⟨i, hi, e2⟩ := List.getElem_of_mem h1
    rw [Bool.and_eq_true] at h2
    refine ⟨by rw [← e]; exact of_decide_eq_true h2.1, by rw [← e]; exact of_decide_eq_true h2.2, i, hi, ?_⟩
    unfold cm
    rw [getD_lt hi, e2, e]
  · rintro ⟨h1, h2, i, hi, e⟩
    unfold cm at e
    rw [getD_lt hi] at e
    exact ⟨js[i], List.mem_filter.mpr ⟨List.getElem_mem hi, by rw [e, Bool.and_eq_true]; exact ⟨decide_eq_true h1, decide_eq_true h2⟩⟩, e⟩
theorem nextCome_spec {js : List T3} {t : Int} {o : Nat} (ho : o < js.length) (h : t < cm js o) :
    t < nextCome js t ∧ (∃ i, i < js.length ∧ cm js i = nextCome js t) ∧ ∀ i, i < js.length → t < cm js i → nextCome js t ≤ cm js i := by
  have m : cm js o ∈ comesAfter js t := mem_comesAfter.mpr ⟨h, o, ho, rfl⟩
  have q := mem_comesAfter.mp (lmin_mem (List.ne_nil_of_mem m))
  exact ⟨q.1, q.2, fun i hi hc => lmin_le (mem_comesAfter.mpr ⟨hc, i, hi, rfl⟩)⟩
theorem endOf_spec (js : List T3) (t rest : Int) (hr : 0 < rest) :
    t < endOf js t rest ∧ endOf js t rest ≤ t + rest ∧ (endOf js t rest = t + rest ∨ ∃ i, i < js.length ∧ cm js i = endOf js t rest) ∧
    ∀ i, i < js.length → t < cm js i → endOf js t rest ≤ cm js i := by
  unfold endOf
  by_cases h : comesWithin js t (t + rest) = []
  · rw [if_pos h]
    refine ⟨by omega, Int.le_refl _, .inl rfl, fun i hi hc => ?_⟩
    by_cases hd : cm js i < t + rest
    · have m : cm js i ∈ comesWithin js t (t + rest) := mem_comesWithin.mpr ⟨hc, hd, i, hi, rfl⟩
      rw [h] at m; simp at m
    · omega
  · rw [if_neg h]
    have q := mem_comesWithin.mp (lmin_mem h)
    refine ⟨q.1, by omega, .inr q.2.2, fun i hi hc => ?_⟩
    by_cases hd : cm js i < t + rest
    · exact lmin_le (mem_comesWithin.mpr ⟨hc, hd, i, hi, rfl⟩)
    · omega

/-! ### how much is left -/
def takeOff (left : List Int) (q : T3) : List Int := left.set q.1.toNat (left.getD q.1.toNat 0 - (q.2.2 - q.2.1))
def leftAfter (js : List T3) (ps : List T3) : List Int := ps.foldl takeOff (js.map (·.2.1))
def timeAfter (ps : List T3) : Int := match ps.getLast? with
  | some q => q.2.2
  | none => 0
theorem takeOff_len (left : List Int) (q : T3) : (takeOff left q).length = left.length := List.length_set
theorem leftAfter_snoc (js ps : List T3) (q : T3) : leftAfter js (ps ++ [q]) = takeOff (leftAfter js ps) q := by
  unfold leftAfter; rw [List.foldl_append]; rfl
theorem leftAfter_nil (js : List T3) : leftAfter js [] = js.map (·.2.1) := rfl
theorem foldl_takeOff_len : ∀ (ps : List T3) (l : List Int), (ps.foldl takeOff l).length = l.length
  | [], _ => rfl
  | q :: r, l => by rw [List.foldl_cons, foldl_takeOff_len r, takeOff_len]
theorem leftAfter_len (js ps : List T3) : (leftAfter js ps).length = js.length := by
  unfold leftAfter; rw [foldl_takeOff_len, List.length_map]
theorem timeAfter_snoc (ps : List T3) (q : T3) : timeAfter (ps ++ [q]) = q.2.2 := by
  unfold timeAfter; rw [List.getLast?_concat]
theorem timeAfter_nil : timeAfter [] = 0 := rfl

structure PieceOk (js : List T3) (left : List Int) (time : Int) (q : T3) : Prop where
  p0 : 0 ≤ q.1
  pn : q.1.toNat < js.length
  tb : time ≤ q.2.1
  be : q.2.1 < q.2.2
  come : cm js q.1.toNat ≤ q.2.1
  rest : q.2.2 - q.2.1 ≤ left.getD q.1.toNat 0
  gap : time < q.2.1 → ∀ o, o < js.length → left.getD o 0 > 0 → q.2.1 ≤ cm js o
  edf : ∀ o, o < js.length → left.getD o 0 > 0 → cm js o < q.2.2 → first js q.1.toNat o
  goes : time = q.2.1 ∨ ∃ o, o < js.length ∧ cm js o = q.2.1
def WayOk (js ps : List T3) : Prop := ∀ i q, ps[i]? = some q → PieceOk js (leftAfter js (ps.take i)) (timeAfter (ps.take i)) q
theorem WayOk.nil (js : List T3) : WayOk js [] := fun i q h => by simp at h
theorem WayOk.snoc {js ps : List T3} {q : T3} (h : WayOk js ps) (k : PieceOk js (leftAfter js ps) (timeAfter ps) q) : WayOk js (ps ++ [q]) := fun i r e => by
  rcases Nat.lt_or_ge i ps.length with hi | hi
  · rw [List.getElem?_append_left hi] at e
    rw [List.take_append_of_le_length (Nat.le_of_lt hi)]
    exact h i r e
  · rw [List.getElem?_append_right hi] at e
    have h0 : i - ps.length = 0 := by
      cases z : i - ps.length with
      | zero => rfl
      | succ m => rw [z] at e; simp at e
    have hi2 : i = ps.length := by omega
    rw [h0] at e
    have eq : q = r := by simpa using e
    subst eq
    subst hi2
    rw [List.take_left]
    exact k
theorem WayOk.last {js ps : List T3} {q : T3} (h : WayOk js (ps ++ [q])) : PieceOk js (leftAfter js ps) (timeAfter ps) q := by
  have := h ps.length q (by simp)
  rw [List.take_left] at this
  exact this
theorem WayOk.init {js ps : List T3} {q : T3} (h : WayOk js (ps ++ [q])) : WayOk js ps := fun i r e => by
  have hi : i < ps.length := (List.getElem?_eq_some_iff.mp e).1
  have := h i r (by rw [List.getElem?_append_left hi]; exact e)
  rw [List.take_append_of_le_length (Nat.le_of_lt hi)] at this
  exact this

/-! ### the run's invariant -/
theorem countP_lt {P Q : Nat → Bool} : ∀ {l : List Nat}, (∀ i ∈ l, Q i = true → P i = true) → (∃ i ∈ l, P i = true ∧ Q i = false) → l.countP Q < l.countP P
  | [], _, ⟨i, hi, _⟩ => by simp at hi
  | x :: r, h, ⟨i, hi, hp, hq⟩ => by
    have hle : ∀ {l : List Nat}, (∀ i ∈ l, Q i = true → P i = true) → l.countP Q ≤ l.countP P := fun {l} h => List.countP_mono_left h
    rw [List.countP_cons, List.countP_cons]
    rcases List.mem_cons.mp hi with q | q
    · subst q
      have := hle (l := r) fun j hj => h j (List.mem_cons_of_mem _ hj)
      rw [hp, hq]; simp; omega
    · have ih := countP_lt (l := r) (fun j hj => h j (List.mem_cons_of_mem _ hj)) ⟨i, q, hp, hq⟩
      have hx := h x List.mem_cons_self
      cases e1 : P x <;> cases e2 : Q x <;> simp_all <;> omega
def ahead (js : List T3) (t : Int) : Nat := (List.range js.length).countP fun i => decide (t < cm js i)
def open_ (n : Nat) (left : List Int) : Nat := (List.range n).countP fun i => decide (left.getD i 0 ≠ 0)
def mu (js : List T3) (s : RS) : Nat := ahead js s.time + open_ js.length s.left
theorem ahead_le (js : List T3) (t : Int) : ahead js t ≤ js.length := by
  have := List.countP_le_length (p := fun i => decide (t < cm js i)) (l := List.range js.length)
  rw [List.length_range] at this; exact this
theorem open_le (n : Nat) (l : List Int) : open_ n l ≤ n := by
  have := List.countP_le_length (p := fun i => decide (l.getD i 0 ≠ 0)) (l := List.range n)
  rw [List.length_range] at this; exact this
theorem ahead_mono {js : List T3} {t u : Int} (h : t ≤ u) : ahead js u ≤ ahead js t :=
  List.countP_mono_left fun i _ q => decide_eq_true (by have := of_decide_eq_true q; omega)
theorem ahead_lt {js : List T3} {t u : Int} {o : Nat} (ho : o < js.length) (h1 : t < cm js o) (h2 : cm js o ≤ u) : ahead js u < ahead js t :=
  countP_lt (fun i _ q => decide_eq_true (by have := of_decide_eq_true q; omega)) ⟨o, List.mem_range.mpr ho, decide_eq_true h1, decide_eq_false (by omega)⟩

structure RInv (js : List T3) (s : RS) : Prop where
  len : s.left.length = js.length
  leq : s.left = leftAfter js s.pieces
  nn : ∀ i, 0 ≤ s.left.getD i 0
  way : WayOk js s.pieces
  t0 : 0 ≤ s.time
  le : timeAfter s.pieces ≤ s.time
  gap : timeAfter s.pieces = s.time ∨ ((∃ o, o < js.length ∧ cm js o = s.time) ∧ ∀ o, o < js.length → s.left.getD o 0 > 0 → s.time ≤ cm js o)
  apart : ∀ i q r, s.pieces[i]? = some q → s.pieces[i + 1]? = some r → q.1 ≠ r.1
  few : s.pieces.length + mu js s < 2 * js.length ∨ (s.pieces = [] ∧ s.time = 0 ∧ (∀ o, o < js.length → 0 < cm js o) ∧ s.left = js.map (·.2.1))
theorem left0 (js : List T3) {i : Nat} (h : i < js.length) : (js.map (·.2.1)).getD i 0 = ln js i := by
  unfold ln
  rw [getD_lt h, getD_lt (by rw [List.length_map]; exact h), List.getElem_map]
theorem RInv.start {js : List T3} (S : Sound js) : RInv js (rs0 js) where
  len := List.length_map _
  leq := rfl
  nn := fun i => by
    show 0 ≤ (js.map (·.2.1)).getD i 0
    rcases Nat.lt_or_ge i js.length with h | h
    · rw [left0 js h]; have := S.at h; omega
    · rw [getD_ge (by rw [List.length_map]; exact h)]; exact Int.le_refl _
  way := WayOk.nil js
  t0 := Int.le_refl _
  le := Int.le_refl _
  gap := .inl rfl
  apart := fun i q r h => by simp [rs0] at h
  few := by
    by_cases h : ∃ o, o < js.length ∧ cm js o ≤ 0
    · obtain ⟨o, ho, hc⟩ := h
      left
      show 0 + mu js (rs0 js) < _
      have h1 := open_le js.length (rs0 js).left
      have h2 : ahead js 0 < js.length := by
        have e : js.length = (List.range js.length).countP fun _ => true := by simp
        have : ahead js 0 < (List.range js.length).countP fun _ => true := countP_lt (fun _ _ _ => rfl) ⟨o, List.mem_range.mpr ho, rfl, decide_eq_false (by omega)⟩
        omega
      show 0 + (ahead js 0 + open_ js.length (rs0 js).left) < _
      omega
    · exact .inr ⟨rfl, rfl, fun o ho => by
        by_cases hc : cm js o ≤ 0
        · exact absurd ⟨o, ho, hc⟩ h
        · omega, rfl⟩
theorem mu_le (js : List T3) (s : RS) : mu js s ≤ 2 * js.length := by
  have h1 := ahead_le js s.time
  have h2 := open_le js.length s.left
  unfold mu; omega
theorem left_open {js : List T3} {s : RS} (I : RInv js s) (h : ¬ done s) : ∃ i, i < js.length ∧ s.left.getD i 0 ≠ 0 := by
  have : ∃ x, x ∈ s.left ∧ x ≠ 0 := by
    refine Classical.byContradiction fun c => h fun x hx => Classical.byContradiction fun e => c ⟨x, hx, e⟩
  obtain ⟨x, hx, e⟩ := this
  obtain ⟨i, hi, e2⟩ := List.getElem_of_mem hx
  refine ⟨i, by rw [← I.len]; exact hi, ?_⟩
  rw [getD_lt hi, e2]; exact e
/-- nobody is there: someone comes later -/
theorem none_next {js : List T3} {s : RS} (I : RInv js s) (h : ¬ done s) (e : firstDue js s.left s.time = none) : ∃ i, i < js.length ∧ s.time < cm js i := by
  obtain ⟨i, hi, hl⟩ := left_open I h
  rcases fdUpto_spec js s.left s.time js.length with ⟨_, z⟩ | ⟨p, e2, _⟩
  · refine ⟨i, hi, ?_⟩
    by_cases c : cm js i ≤ s.time
    · exact absurd ⟨c, hl⟩ (z i hi)
    · omega
  · unfold firstDue at e; rw [e] at e2; cases e2
theorem some_spec {js : List T3} {left : List Int} {t : Int} {p : Nat} (e : firstDue js left t = some p) : p < js.length ∧ there js left t p ∧ ∀ i, i < js.length → there js left t i → first js p i := by
  unfold firstDue at e
  rcases fdUpto_spec js left t js.length with ⟨e2, _⟩ | ⟨p', e2, h1, h2, h3⟩
  · rw [e] at e2; cases e2
  · rw [e] at e2; cases e2; exact ⟨h1, h2, h3⟩
theorem none_spec {js : List T3} {left : List Int} {t : Int} (e : firstDue js left t = none) : ∀ i, i < js.length → ¬ there js left t i := by
  unfold firstDue at e
  rcases fdUpto_spec js left t js.length with ⟨_, z⟩ | ⟨p', e2, h1, h2, h3⟩
  · exact z
  · rw [e] at e2; cases e2
theorem open_lt {n : Nat} {l l' : List Int} {p : Nat} (hp : p < n) (h1 : l.getD p 0 ≠ 0) (h2 : l'.getD p 0 = 0) (h : ∀ i, i ≠ p → l'.getD i 0 = l.getD i 0) : open_ n l' < open_ n l :=
  countP_lt (fun i _ q => by
    by_cases e : i = p
    · rw [e, h2] at q; simp at q
    · rw [h i e] at q; exact q) ⟨p, List.mem_range.mpr hp, decide_eq_true h1, decide_eq_false (by rw [h2]; simp)⟩
theorem open_mono {n : Nat} {l l' : List Int} {p : Nat} (h1 : l.getD p 0 ≠ 0) (h : ∀ i, i ≠ p → l'.getD i 0 = l.getD i 0) : open_ n l' ≤ open_ n l :=
  List.countP_mono_left fun i _ q => by
    by_cases e : i = p
    · rw [e]; exact decide_eq_true h1
    · rw [h i e] at q; exact q
theorem last_cases (ps : List T3) : ps = [] ∨ ∃ r q, ps = r ++ [q] := by
  rcases List.eq_nil_or_concat ps with h | ⟨r, q, h⟩
  · exact .inl h
  · exact .inr ⟨r, q, by rw [h, List.concat_eq_append]⟩
/-! ### one step keeps the invariant -/
theorem step_none {js : List T3} {s : RS} (e : firstDue js s.left s.time = none) : step js s = { s with time := nextCome js s.time } := by
  unfold step; rw [e]
theorem step_some {js : List T3} {s : RS} {p : Nat} (e : firstDue js s.left s.time = some p) : step js s =
    { left := s.left.set p (s.left.getD p 0 - (endOf js s.time (s.left.getD p 0) - s.time))
      pieces := addPiece s.pieces (p : Int) s.time (endOf js s.time (s.left.getD p 0))
      time := endOf js s.time (s.left.getD p 0) } := by
  unfold step; rw [e]
theorem RInv.idle {js : List T3} {s : RS} (S : Sound js) (I : RInv js s) (nd : ¬ done s) (e : firstDue js s.left s.time = none) :
    RInv js (step js s) ∧ mu js (step js s) < mu js s := by
  obtain ⟨o, ho, hc⟩ := none_next I nd e
  have N := nextCome_spec ho hc
  have ns := none_spec e
  rw [step_none e]
  have hmu : mu js { s with time := nextCome js s.time } < mu js s := by
    obtain ⟨i, hi, hci⟩ := N.2.1
    have := ahead_lt (js := js) (t := s.time) (u := nextCome js s.time) hi (by omega) (by omega)
    show ahead js (nextCome js s.time) + open_ js.length s.left < ahead js s.time + open_ js.length s.left
    omega
  refine ⟨{ len := I.len, leq := I.leq, nn := I.nn, way := I.way, t0 := by have := I.t0; show 0 ≤ nextCome js s.time; omega, le := by have := I.le; show timeAfter s.pieces ≤ nextCome js s.time; omega, gap := ?_, apart := I.apart, few := ?_ }, hmu⟩
  · refine .inr ⟨N.2.1, fun i hi hl => N.2.2 i hi ?_⟩
    have := ns i hi
    have hl' : s.left.getD i 0 > 0 := hl
    by_cases c : cm js i ≤ s.time
    · exact absurd ⟨c, by omega⟩ this
    · omega
  · rcases I.few with h | ⟨h1, h2, h3, h4⟩
    · left
      show s.pieces.length + _ < _
      omega
    · left
      show s.pieces.length + mu js { s with time := nextCome js s.time } < _
      have hm : mu js s ≤ 2 * js.length := mu_le js s
      have hz : s.pieces.length = 0 := by rw [h1]; rfl
      omega
theorem addPiece_nil (p b e : Int) : addPiece [] p b e = [(p, b, e)] := rfl
theorem addPiece_snoc (r : List T3) (q : T3) (p b e : Int) : addPiece (r ++ [q]) p b e = if q.1 = p then r ++ [(p, q.2.1, e)] else (r ++ [q]) ++ [(p, b, e)] := by
  unfold addPiece
  rw [List.getLast?_concat]
  show (if q.1 = p then (r ++ [q]).dropLast ++ [(p, q.2.1, e)] else _) = _
  rw [List.dropLast_concat]
theorem timeAfter_addPiece (ps : List T3) (p b e : Int) : timeAfter (addPiece ps p b e) = e := by
  rcases last_cases ps with h | ⟨r, q, h⟩
  · subst h; rfl
  · subst h
    rw [addPiece_snoc]
    by_cases c : q.1 = p
    · rw [if_pos c, timeAfter_snoc]
    · rw [if_neg c, timeAfter_snoc]
theorem addPiece_len (ps : List T3) (p b e : Int) : (addPiece ps p b e).length ≤ ps.length + 1 := by
  rcases last_cases ps with h | ⟨r, q, h⟩
  · subst h; exact Nat.le_refl _
  · subst h
    rw [addPiece_snoc]
    by_cases c : q.1 = p
    · rw [if_pos c]; simp
    · rw [if_neg c]; simp
theorem RInv.work {js : List T3} {s : RS} (S : Sound js) (I : RInv js s) {p : Nat} (e : firstDue js s.left s.time = some p) :
    RInv js (step js s) ∧ mu js (step js s) < mu js s := by
  obtain ⟨hp, ⟨hc, hl⟩, hf⟩ := some_spec e
  have hl0 := I.nn p
  obtain ⟨E1, E2, E3, E4⟩ := endOf_spec js s.time (s.left.getD p 0) (by omega)
  rw [step_some e]
  generalize endOf js s.time (s.left.getD p 0) = d at *
  have hpl : p < s.left.length := by rw [I.len]; exact hp
  have hset : ∀ i, i ≠ p → (s.left.set p (s.left.getD p 0 - (d - s.time))).getD i 0 = s.left.getD i 0 := fun i hi => getD_set_ne (Ne.symm hi)
  have hsetp : (s.left.set p (s.left.getD p 0 - (d - s.time))).getD p 0 = s.left.getD p 0 - (d - s.time) := getD_set_same hpl
  have hmu : mu js ⟨s.left.set p (s.left.getD p 0 - (d - s.time)), addPiece s.pieces p s.time d, d⟩ < mu js s := by
    show ahead js d + open_ js.length (s.left.set p (s.left.getD p 0 - (d - s.time))) < ahead js s.time + open_ js.length s.left
    have ha : ahead js d ≤ ahead js s.time := ahead_mono (by omega)
    have ho : open_ js.length (s.left.set p (s.left.getD p 0 - (d - s.time))) ≤ open_ js.length s.left := open_mono hl hset
    rcases E3 with q | ⟨i, hi, hci⟩
    · have := open_lt (n := js.length) (l := s.left) (l' := s.left.set p (s.left.getD p 0 - (d - s.time))) hp hl (by rw [hsetp]; omega) hset
      omega
    · have := ahead_lt (js := js) (t := s.time) (u := d) hi (by omega) (by omega)
      omega
  -- others that come ahead of d are there now
  have hthere : ∀ o, o < js.length → s.left.getD o 0 > 0 → cm js o < d → first js p o := fun o ho hlo hco => by
    refine hf o ho ⟨?_, by omega⟩
    by_cases c : cm js o ≤ s.time
    · exact c
    · have := E4 o ho (by omega); omega
  refine ⟨{ len := ?_, leq := ?_, nn := ?_, way := ?_, t0 := by have := I.t0; show 0 ≤ d; omega, le := ?_, gap := ?_, apart := ?_, few := ?_ }, hmu⟩
  · show (s.left.set _ _).length = _
    rw [List.length_set]; exact I.len
  · show s.left.set p _ = leftAfter js (addPiece s.pieces p s.time d)
    rcases last_cases s.pieces with h | ⟨r, q, h⟩
    · have hl' := I.leq
      rw [h] at hl' ⊢
      rw [addPiece_nil]
      show _ = leftAfter js ([] ++ [_])
      rw [leftAfter_snoc, ← hl']
      show _ = s.left.set (p : Int).toNat (s.left.getD (p : Int).toNat 0 - (d - s.time))
      rw [Int.toNat_natCast]
    · have hl' := I.leq
      have hg := I.gap
      have hw := I.way
      have hle := I.le
      rw [h] at hl' hg hw hle ⊢
      rw [addPiece_snoc]
      by_cases c : q.1 = (p : Int)
      · rw [if_pos c, leftAfter_snoc]
        rw [leftAfter_snoc] at hl'
        have et : q.2.2 = s.time := by
          rw [timeAfter_snoc] at hg hle
          rcases hg with z | ⟨_, z⟩
          · exact z
          · have := z p hp (by omega)
            have k := hw.last
            have k1 := k.come
            have k2 := k.be
            rw [c, Int.toNat_natCast] at k1
            omega
        have ec : q.1.toNat = p := by rw [c, Int.toNat_natCast]
        unfold takeOff at hl' ⊢
        show _ = List.set _ (p : Int).toNat (_ - (d - q.2.1))
        rw [Int.toNat_natCast]
        rw [ec] at hl'
        have hpl2 : p < (leftAfter js r).length := by rw [leftAfter_len]; exact hp
        rw [hl', List.set_set, getD_set_same hpl2]
        congr 1
        omega
      · rw [if_neg c, leftAfter_snoc, ← hl']
        show _ = s.left.set (p : Int).toNat (s.left.getD (p : Int).toNat 0 - (d - s.time))
        rw [Int.toNat_natCast]
  · intro i
    show 0 ≤ (s.left.set p _).getD i 0
    by_cases c : i = p
    · rw [c, hsetp]; omega
    · rw [hset i c]; exact I.nn i
  · show WayOk js (addPiece s.pieces p s.time d)
    rcases last_cases s.pieces with h | ⟨r, q, h⟩
    · have hl' := I.leq
      have hg := I.gap
      have hle := I.le
      rw [h] at hl' hg hle ⊢
      rw [addPiece_nil]
      refine WayOk.snoc (ps := []) (WayOk.nil js) ?_
      rw [← hl']
      exact {
        p0 := Int.natCast_nonneg p
        pn := by show (p : Int).toNat < _; rw [Int.toNat_natCast]; exact hp
        tb := hle
        be := E1
        come := by show cm js (p : Int).toNat ≤ _; rw [Int.toNat_natCast]; exact hc
        rest := by show d - s.time ≤ s.left.getD (p : Int).toNat 0; rw [Int.toNat_natCast]; omega
        gap := fun hlt o ho hlo => by
          rcases hg with z | ⟨_, z⟩
          · have hlt' : timeAfter [] < s.time := hlt
            omega
          · exact z o ho hlo
        edf := fun o ho hlo hco => by show first js (p : Int).toNat o; rw [Int.toNat_natCast]; exact hthere o ho hlo hco
        goes := by
          rcases hg with z | ⟨z, _⟩
          · exact .inl z
          · exact .inr z }
    · have hl' := I.leq
      have hg := I.gap
      have hw := I.way
      have hle := I.le
      rw [h] at hl' hg hw hle ⊢
      rw [addPiece_snoc]
      have k := hw.last
      by_cases c : q.1 = (p : Int)
      · rw [if_pos c]
        have ec : q.1.toNat = p := by rw [c, Int.toNat_natCast]
        rw [timeAfter_snoc] at hg hle
        have k1 := k.come
        have k2 := k.be
        have k3 := k.rest
        rw [ec] at k1 k3
        have et : q.2.2 = s.time := by
          rcases hg with z | ⟨_, z⟩
          · exact z
          · have := z p hp (by omega)
            omega
        rw [leftAfter_snoc] at hl'
        have hpl2 : p < (leftAfter js r).length := by rw [leftAfter_len]; exact hp
        have hA : ∀ o, o ≠ p → s.left.getD o 0 = (leftAfter js r).getD o 0 := fun o ho => by
          rw [hl']; unfold takeOff; rw [ec]; exact getD_set_ne (Ne.symm ho)
        have hAp : s.left.getD p 0 = (leftAfter js r).getD p 0 - (q.2.2 - q.2.1) := by
          rw [hl']; unfold takeOff; rw [ec]; exact getD_set_same hpl2
        refine WayOk.snoc hw.init ?_
        exact {
          p0 := Int.natCast_nonneg p
          pn := by show (p : Int).toNat < _; rw [Int.toNat_natCast]; exact hp
          tb := k.tb
          be := by show q.2.1 < d; omega
          come := by show cm js (p : Int).toNat ≤ _; rw [Int.toNat_natCast]; exact k1
          rest := by show d - q.2.1 ≤ (leftAfter js r).getD (p : Int).toNat 0; rw [Int.toNat_natCast]; omega
          gap := k.gap
          edf := fun o ho hlo hco => by
            show first js (p : Int).toNat o
            rw [Int.toNat_natCast]
            by_cases co : o = p
            · rw [co]; exact first_refl _ _
            · exact hthere o ho (by rw [hA o co]; exact hlo) hco
          goes := k.goes }
      · rw [if_neg c]
        refine WayOk.snoc hw ?_
        rw [← hl']
        exact {
          p0 := Int.natCast_nonneg p
          pn := by show (p : Int).toNat < _; rw [Int.toNat_natCast]; exact hp
          tb := hle
          be := E1
          come := by show cm js (p : Int).toNat ≤ _; rw [Int.toNat_natCast]; exact hc
          rest := by show d - s.time ≤ s.left.getD (p : Int).toNat 0; rw [Int.toNat_natCast]; omega
          gap := fun hlt o ho hlo => by
            rcases hg with z | ⟨_, z⟩
            · have hlt' : timeAfter (r ++ [q]) < s.time := hlt
              omega
            · exact z o ho hlo
          edf := fun o ho hlo hco => by show first js (p : Int).toNat o; rw [Int.toNat_natCast]; exact hthere o ho hlo hco
          goes := by
            rcases hg with z | ⟨z, _⟩
            · exact .inl z
            · exact .inr z }
  · show timeAfter (addPiece s.pieces p s.time d) ≤ d
    rw [timeAfter_addPiece]; exact Int.le_refl _
  · show timeAfter (addPiece s.pieces p s.time d) = d ∨ _
    exact .inl (timeAfter_addPiece _ _ _ _)
  · show ∀ i q r, (addPiece s.pieces p s.time d)[i]? = some q → (addPiece s.pieces p s.time d)[i + 1]? = some r → q.1 ≠ r.1
    have ha := I.apart
    rcases last_cases s.pieces with h | ⟨r, q, h⟩
    · rw [h, addPiece_nil]
      intro i q r h1 h2
      simp at h2
    · rw [h] at ha ⊢
      rw [addPiece_snoc]
      by_cases c : q.1 = (p : Int)
      · rw [if_pos c]
        intro i x y h1 h2
        have hi : i + 1 < (r ++ [((p : Int), q.2.1, d)]).length := (List.getElem?_eq_some_iff.mp h2).1
        rw [List.length_append, List.length_singleton] at hi
        rw [List.getElem?_append_left (by omega)] at h1
        have h1' : (r ++ [q])[i]? = some x := by rw [List.getElem?_append_left (by omega)]; exact h1
        rcases Nat.lt_or_ge (i + 1) r.length with z | z
        · rw [List.getElem?_append_left z] at h2
          exact ha i x y h1' (by rw [List.getElem?_append_left z]; exact h2)
        · have e1 : i + 1 = r.length := by omega
          rw [e1, List.getElem?_concat_length] at h2
          have := ha i x q h1' (by rw [e1, List.getElem?_concat_length])
          have e2 := Option.some.inj h2
          rw [← e2]
          show x.1 ≠ (p : Int)
          rw [← c]; exact this
      · rw [if_neg c]
        intro i x y h1 h2
        have hi : i + 1 < ((r ++ [q]) ++ [((p : Int), s.time, d)]).length := (List.getElem?_eq_some_iff.mp h2).1
        rw [List.length_append, List.length_singleton] at hi
        rw [List.getElem?_append_left (by omega)] at h1
        rcases Nat.lt_or_ge (i + 1) (r ++ [q]).length with z | z
        · rw [List.getElem?_append_left z] at h2
          exact ha i x y h1 h2
        · have e1 : i + 1 = (r ++ [q]).length := by omega
          rw [e1, List.getElem?_concat_length] at h2
          have e2 := Option.some.inj h2
          rw [← e2]
          show x.1 ≠ (p : Int)
          have e3 : i = r.length := by rw [List.length_append, List.length_singleton] at e1; omega
          rw [e3, List.getElem?_concat_length] at h1
          rw [← Option.some.inj h1]; exact c
  · show (addPiece s.pieces p s.time d).length + _ < _ ∨ _
    have hal := addPiece_len s.pieces p s.time d
    left
    rcases I.few with h | ⟨h1, h2, h3, h4⟩
    · omega
    · have := h3 p hp
      omega
theorem RInv.step {js : List T3} {s : RS} (S : Sound js) (I : RInv js s) (nd : ¬ done s) : RInv js (step js s) ∧ mu js (step js s) < mu js s := by
  cases e : firstDue js s.left s.time with
  | none => exact I.idle S nd e
  | some p => exact I.work S e
theorem run_ends {js : List T3} (S : Sound js) : ∀ (k : Nat) (s : RS), RInv js s → mu js s ≤ k → RInv js (runFrom js k s) ∧ done (runFrom js k s)
  | 0, s, I, h => ⟨I, fun x hx => Classical.byContradiction fun c => by
      have nd : ¬ done s := fun z => c (z x hx)
      have := (I.step S nd).2
      omega⟩
  | k + 1, s, I, h => by
    show RInv js (if done s then s else runFrom js k (DL.step js s)) ∧ done (if done s then s else runFrom js k (DL.step js s))
    by_cases nd : done s
    · rw [if_pos nd]; exact ⟨I, nd⟩
    · rw [if_neg nd]
      have q := I.step S nd
      exact run_ends S k _ q.1 (by omega)
/-- what is known of the run -/
structure RunOk (js ps : List T3) : Prop where
  way : WayOk js ps
  all : ∀ i, (leftAfter js ps).getD i 0 = 0
  apart : ∀ i q r, ps[i]? = some q → ps[i + 1]? = some r → q.1 ≠ r.1
  few : ps.length < 2 * js.length ∨ (ps = [] ∧ js = [])
theorem run_ok {js : List T3} (S : Sound js) : RunOk js (runM js) := by
  obtain ⟨I, d⟩ := run_ends S (2 * js.length) (rs0 js) (RInv.start S) (mu_le js _)
  have hd : ∀ i, (runFrom js (2 * js.length) (rs0 js)).left.getD i 0 = 0 := fun i => by
    rcases Nat.lt_or_ge i (runFrom js (2 * js.length) (rs0 js)).left.length with h | h
    · rw [getD_lt h]; exact d _ (List.getElem_mem h)
    · exact getD_ge h
  refine ⟨I.way, fun i => ?_, I.apart, ?_⟩
  · show (leftAfter js (runFrom js (2 * js.length) (rs0 js)).pieces).getD i 0 = 0
    rw [← I.leq]; exact hd i
  · rcases I.few with h | ⟨h1, h2, h3, h4⟩
    · left
      show (runFrom js (2 * js.length) (rs0 js)).pieces.length < _
      omega
    · right
      refine ⟨h1, ?_⟩
      cases js with
      | nil => rfl
      | cons j r =>
        have z := hd 0
        rw [h4, left0 _ (by simp)] at z
        have := S.at (i := 0) (by simp)
        omega
/-! ### sums -/
theorem sum_setI : ∀ {l : List Int} {j : Nat} {y : Int}, j < l.length → (l.set j y).sum = l.sum - l.getD j 0 + y
  | [], j, y, h => absurd h (Nat.not_lt_zero _)
  | a :: r, 0, y, h => by
    show (y :: r).sum = (a :: r).sum - a + y
    rw [List.sum_cons, List.sum_cons]; omega
  | a :: r, j + 1, y, h => by
    have ih := sum_setI (l := r) (j := j) (y := y) (Nat.lt_of_succ_lt_succ h)
    show (a :: r.set j y).sum = (a :: r).sum - r.getD j 0 + y
    rw [List.sum_cons, List.sum_cons, ih]; omega
theorem sum_left {js ps : List T3} (W : WayOk js ps) : ∀ k, k ≤ ps.length → (leftAfter js (ps.take k)).sum + ((ps.take k).map fun q => q.2.2 - q.2.1).sum = (js.map (·.2.1)).sum
  | 0, _ => by
    show (js.map (·.2.1)).sum + 0 = _
    omega
  | k + 1, h => by
    have ih := sum_left W k (by omega)
    have hk : ps[k]? = some ps[k] := List.getElem?_eq_getElem (by omega)
    have O := W k _ hk
    rw [List.take_add_one, hk]
    show (leftAfter js (ps.take k ++ [ps[k]])).sum + ((ps.take k ++ [ps[k]]).map fun q => q.2.2 - q.2.1).sum = _
    rw [leftAfter_snoc, List.map_append, List.sum_append]
    unfold takeOff
    rw [sum_setI (by rw [leftAfter_len]; exact O.pn)]
    show _ + (_ + ([(ps[k]).2.2 - (ps[k]).2.1] : List Int).sum) = _
    rw [List.sum_singleton]
    omega
theorem run_sum {js ps : List T3} (R : RunOk js ps) : (ps.map fun q => q.2.2 - q.2.1).sum = (js.map (·.2.1)).sum := by
  have h := sum_left R.way ps.length (Nat.le_refl _)
  rw [List.take_length] at h
  have z : (leftAfter js ps).sum = 0 := by
    have : ∀ l : List Int, (∀ i, l.getD i 0 = 0) → l.sum = 0 := fun l => by
      induction l with
      | nil => intro _; rfl
      | cons a r ih =>
        intro h
        have h0 := h 0
        have h1 := ih fun i => h (i + 1)
        rw [List.sum_cons, h1]
        show a + 0 = 0
        have : a = 0 := h0
        omega
    exact this _ R.all
  omega
theorem RunOk.len {js ps : List T3} (R : RunOk js ps) (h : js.length ≤ 60) : ps.length ≤ 200 := by
  rcases R.few with z | z
  · omega
  · rw [z.1]; exact Nat.zero_le _
end DL
/-! whether a way meets the jobs -/
namespace DL
def fitB (js : List T3) (t : Int) (q : T3) : Bool :=
  decide (0 ≤ q.1) && (decide (q.1 < js.length) && (decide (t ≤ q.2.1) && (decide (cm js q.1.toNat ≤ q.2.1) && (decide (q.2.1 < q.2.2) && decide (q.2.2 ≤ du js q.1.toNat)))))
def fitsAll (js : List T3) : Int → List T3 → Bool
  | _, [] => true
  | t, q :: r => fitB js t q && fitsAll js q.2.2 r
def putOn (l : List Int) (q : T3) : List Int := l.set q.1.toNat (l.getD q.1.toNat 0 + (q.2.2 - q.2.1))
def workedFrom (l : List Int) (ws : List T3) : List Int := ws.foldl putOn l
def sumAt (ws : List T3) (k : Nat) : Int := ((ws.filter fun q => decide (q.1 = (k : Int))).map fun q => q.2.2 - q.2.1).sum
def meetsB (js ws : List T3) : Bool := fitsAll js 0 ws && decide (workedFrom (List.replicate js.length 0) ws = js.map (·.2.1))
def start0 (ws : List T3) : Int := match ws with
  | [] => 0
  | q :: _ => q.2.1
def dueB (js ws : List T3) : Bool := fitsAll js (start0 ws) ws && (List.range js.length).all fun k => decide (sumAt ws k = ln js k)
theorem fitB_iff {js : List T3} {t : Int} {q : T3} : fitB js t q = true ↔ 0 ≤ q.1 ∧ q.1 < js.length ∧ t ≤ q.2.1 ∧ cm js q.1.toNat ≤ q.2.1 ∧ q.2.1 < q.2.2 ∧ q.2.2 ≤ du js q.1.toNat := by
  unfold fitB
  simp only [Bool.and_eq_true, decide_eq_true_eq]
theorem workedFrom_len : ∀ (ws : List T3) (l : List Int), (workedFrom l ws).length = l.length
  | [], _ => rfl
  | q :: r, l => by
    show (workedFrom (putOn l q) r).length = _
    rw [workedFrom_len r]
    exact List.length_set
theorem sumAt_cons (q : T3) (r : List T3) (k : Nat) : sumAt (q :: r) k = (if q.1 = (k : Int) then q.2.2 - q.2.1 else 0) + sumAt r k := by
  unfold sumAt
  rw [List.filter_cons]
  by_cases h : q.1 = (k : Int)
  · rw [if_pos (decide_eq_true h), if_pos h, List.map_cons, List.sum_cons]
  · rw [if_neg (by simpa using h), if_neg h]
    omega
theorem worked_at : ∀ (ws : List T3) (l : List Int) (k : Nat), (∀ q ∈ ws, 0 ≤ q.1 ∧ q.1 < l.length) → k < l.length → (workedFrom l ws).getD k 0 = l.getD k 0 + sumAt ws k
  | [], l, k, _, _ => by
    show l.getD k 0 = l.getD k 0 + 0
    omega
  | q :: r, l, k, h, hk => by
    obtain ⟨h0, h1⟩ := h q List.mem_cons_self
    have hl : (putOn l q).length = l.length := List.length_set
    have ih := worked_at r (putOn l q) k (fun x hx => by rw [hl]; exact h x (List.mem_cons_of_mem _ hx)) (by rw [hl]; exact hk)
    show (workedFrom (putOn l q) r).getD k 0 = _
    rw [ih, sumAt_cons]
    unfold putOn
    by_cases e : q.1 = (k : Int)
    · have e2 : q.1.toNat = k := by omega
      rw [e2, getD_set_same hk, if_pos e]
      omega
    · have e2 : q.1.toNat ≠ k := by omega
      rw [getD_set_ne e2, if_neg e]
      omega
theorem fits_range {js : List T3} : ∀ {t : Int} {ws : List T3}, fitsAll js t ws = true → ∀ q ∈ ws, 0 ≤ q.1 ∧ q.1 < js.length
  | _, [], _, q, h => by simp at h
  | t, x :: r, h, q, hq => by
    obtain ⟨h1, h2⟩ := Bool.and_eq_true_iff.mp h
    rcases List.mem_cons.mp hq with e | e
    · rw [e]
      have := fitB_iff.mp h1
      exact ⟨this.1, this.2.1⟩
    · exact fits_range h2 q e
theorem list_ext0 {a b : List Int} (hl : a.length = b.length) (h : ∀ k, k < a.length → a.getD k 0 = b.getD k 0) : a = b := by
  refine List.ext_getElem hl fun k h1 h2 => ?_
  have := h k h1
  rw [getD_lt h1, getD_lt h2] at this
  exact this
theorem worked_eq {js ws : List T3} (h : ∀ q ∈ ws, 0 ≤ q.1 ∧ q.1 < js.length) : decide (workedFrom (List.replicate js.length 0) ws = js.map (·.2.1)) = (List.range js.length).all fun k => decide (sumAt ws k = ln js k) := by
  rw [Bool.eq_iff_iff, decide_eq_true_iff, List.all_eq_true]
  have hw : ∀ k, k < js.length → (workedFrom (List.replicate js.length 0) ws).getD k 0 = sumAt ws k := fun k hk => by
    have := worked_at ws (List.replicate js.length 0) k (fun q hq => by rw [List.length_replicate]; exact h q hq) (by rw [List.length_replicate]; exact hk)
    rw [this, getD_lt (by rw [List.length_replicate]; exact hk), List.getElem_replicate]
    omega
  constructor
  · intro e k hk
    have hk := List.mem_range.mp hk
    refine decide_eq_true ?_
    rw [← hw k hk, e]
    exact left0 js hk
  · intro e
    refine list_ext0 (by rw [workedFrom_len, List.length_replicate, List.length_map]) fun k hk => ?_
    rw [workedFrom_len, List.length_replicate] at hk
    rw [hw k hk, left0 js hk]
    exact of_decide_eq_true (e k (List.mem_range.mpr hk))
theorem fit_start {js : List T3} (S : Sound js) (q : T3) : fitB js 0 q = fitB js q.2.1 q := by
  rw [Bool.eq_iff_iff, fitB_iff, fitB_iff]
  constructor
  · rintro ⟨h1, h2, h3, h4⟩
    exact ⟨h1, h2, Int.le_refl _, h4⟩
  · rintro ⟨h1, h2, h3, h4, h5⟩
    have := S.at (i := q.1.toNat) (by omega)
    exact ⟨h1, h2, by omega, h4, h5⟩
theorem meets_due {js ws : List T3} (S : Sound js) : meetsB js ws = dueB js ws := by
  unfold meetsB dueB
  have e : fitsAll js 0 ws = fitsAll js (start0 ws) ws := by
    cases ws with
    | nil => rfl
    | cons q r =>
      show (fitB js 0 q && _) = (fitB js q.2.1 q && _)
      rw [fit_start S]
  rw [← e]
  cases h : fitsAll js 0 ws with
  | false => rfl
  | true => rw [worked_eq (fits_range h)]
/-- the time ahead of the i-th piece -/
def timeAt (t : Int) (ws : List T3) (i : Nat) : Int := match i with
  | 0 => t
  | k + 1 => (ws.getD k (0, 0, 0)).2.2
theorem fits_step {js : List T3} {t : Int} {ws : List T3} {i : Nat} {q : T3} (h : ws[i]? = some q) : fitsAll js (timeAt t ws i) (ws.drop i) = (fitB js (timeAt t ws i) q && fitsAll js (timeAt t ws (i + 1)) (ws.drop (i + 1))) := by
  have hi := (List.getElem?_eq_some_iff.mp h).1
  have e : ws.drop i = q :: ws.drop (i + 1) := by
    rw [List.drop_eq_getElem_cons hi]
    congr 1
    exact (List.getElem?_eq_some_iff.mp h).2
  rw [e]
  show (_ && fitsAll js q.2.2 _) = (_ && fitsAll js (ws.getD i (0, 0, 0)).2.2 _)
  rw [getD_of h]
theorem workedFrom_snoc (l : List Int) {ws : List T3} {i : Nat} {q : T3} (h : ws[i]? = some q) : workedFrom l (ws.take (i + 1)) = putOn (workedFrom l (ws.take i)) q := by
  unfold workedFrom
  rw [List.take_add_one, h, List.foldl_append]
  rfl
theorem cm_at {js : List T3} {i : Nat} {j : T3} (h : js[i]? = some j) : cm js i = j.1 ∧ ln js i = j.2.1 ∧ du js i = j.2.2 := by
  unfold cm ln du
  rw [getD_of h]
  exact ⟨rfl, rfl, rfl⟩
end DL
/-! late jobs, stretches that ask for more than they have -/
namespace DL
def inB (b e : Int) (j : T3) : Bool := decide (b ≤ j.1) && decide (j.2.2 ≤ e)
def loadJ (js : List T3) (b e : Int) : Int := ((js.filter (inB b e)).map (·.2.1)).sum
/-! ### sums over some places -/
def sumOn : (Nat → Bool) → List Int → Int
  | _, [] => 0
  | S, x :: r => (if S 0 then x else 0) + sumOn (fun i => S (i + 1)) r
theorem sumOn_set : ∀ {l : List Int} {S : Nat → Bool} {j : Nat} {y : Int}, j < l.length → sumOn S (l.set j y) = sumOn S l + if S j then y - l.getD j 0 else 0
  | [], _, j, y, h => absurd h (Nat.not_lt_zero _)
  | a :: r, S, 0, y, h => by
    show (if S 0 then y else 0) + sumOn _ r = (if S 0 then a else 0) + sumOn _ r + if S 0 then y - a else 0
    split <;> omega
  | a :: r, S, j + 1, y, h => by
    have ih := sumOn_set (l := r) (S := fun i => S (i + 1)) (j := j) (y := y) (Nat.lt_of_succ_lt_succ h)
    show (if S 0 then a else 0) + sumOn _ (r.set j y) = (if S 0 then a else 0) + sumOn _ r + if S (j + 1) then y - r.getD j 0 else 0
    rw [ih]
    omega
theorem sumOn_nn : ∀ {l : List Int} {S : Nat → Bool}, (∀ i, 0 ≤ l.getD i 0) → 0 ≤ sumOn S l
  | [], _, _ => Int.le_refl _
  | a :: r, S, h => by
    have ih := sumOn_nn (l := r) (S := fun i => S (i + 1)) fun i => h (i + 1)
    have h0 : 0 ≤ a := h 0
    show 0 ≤ (if S 0 then a else 0) + sumOn _ r
    split <;> omega
theorem sumOn_one : ∀ {l : List Int} {S : Nat → Bool} {j : Nat}, (∀ i, 0 ≤ l.getD i 0) → S j = true → l.getD j 0 ≤ sumOn S l
  | [], _, _, _, _ => Int.le_refl _
  | a :: r, S, 0, h, hj => by
    have ih := sumOn_nn (l := r) (S := fun i => S (i + 1)) fun i => h (i + 1)
    show a ≤ (if S 0 then a else 0) + sumOn _ r
    rw [if_pos hj]
    omega
  | a :: r, S, j + 1, h, hj => by
    have ih := sumOn_one (l := r) (S := fun i => S (i + 1)) (j := j) (fun i => h (i + 1)) hj
    have h0 : 0 ≤ a := h 0
    show r.getD j 0 ≤ (if S 0 then a else 0) + sumOn _ r
    split <;> omega
theorem sumOn_congr : ∀ {l l' : List Int} {S : Nat → Bool}, l.length = l'.length → (∀ i, i < l.length → S i = true → l.getD i 0 = l'.getD i 0) → sumOn S l = sumOn S l'
  | [], [], _, _, _ => rfl
  | [], _ :: _, _, h, _ => by cases h
  | _ :: _, [], _, h, _ => by cases h
  | a :: r, b :: s, S, h, k => by
    have ih := sumOn_congr (l := r) (l' := s) (S := fun i => S (i + 1)) (Nat.succ.inj h) fun i hi hs => k (i + 1) (Nat.succ_lt_succ hi) hs
    show (if S 0 then a else 0) + sumOn _ r = (if S 0 then b else 0) + sumOn _ s
    rw [ih]
    by_cases c : S 0 = true
    · have : a = b := k 0 (Nat.zero_lt_succ _) c
      rw [this]
    · rw [if_neg c, if_neg c]
theorem sumOn_zero : ∀ {l : List Int} {S : Nat → Bool}, (∀ i, l.getD i 0 = 0) → sumOn S l = 0
  | [], _, _ => rfl
  | a :: r, S, h => by
    have ih := sumOn_zero (l := r) (S := fun i => S (i + 1)) fun i => h (i + 1)
    have h0 : a = 0 := h 0
    show (if S 0 then a else 0) + sumOn _ r = 0
    rw [ih, h0]
    split <;> rfl
def inS (js : List T3) (b e : Int) (i : Nat) : Bool := inB b e (js.getD i (0, 0, 0))
theorem inS_iff {js : List T3} {b e : Int} {i : Nat} : inS js b e i = true ↔ b ≤ cm js i ∧ du js i ≤ e := by
  unfold inS inB cm du
  rw [Bool.and_eq_true, decide_eq_true_iff, decide_eq_true_iff]
theorem sumOn_load : ∀ {js : List T3} {b e : Int}, sumOn (inS js b e) (js.map (·.2.1)) = loadJ js b e
  | [], _, _ => rfl
  | j :: r, b, e => by
    have ih := sumOn_load (js := r) (b := b) (e := e)
    show (if inB b e j then j.2.1 else 0) + sumOn (inS r b e) (r.map (·.2.1)) = _
    rw [ih]
    unfold loadJ
    rw [List.filter_cons]
    by_cases c : inB b e j = true
    · rw [if_pos c, if_pos c, List.map_cons, List.sum_cons]
    · rw [if_neg c, if_neg c]
      omega
theorem load_append (js ks : List T3) (b e : Int) : loadJ (js ++ ks) b e = loadJ js b e + loadJ ks b e := by
  unfold loadJ
  rw [List.filter_append, List.map_append, List.sum_append]
theorem load_one (j : T3) (b e : Int) : loadJ [j] b e = if b ≤ j.1 ∧ j.2.2 ≤ e then j.2.1 else 0 := by
  unfold loadJ inB
  rw [List.filter_cons]
  by_cases c : b ≤ j.1 ∧ j.2.2 ≤ e
  · rw [if_pos c, if_pos (by rw [Bool.and_eq_true]; exact ⟨decide_eq_true c.1, decide_eq_true c.2⟩)]
    show ([j.2.1] : List Int).sum = _
    rw [List.sum_singleton]
  · rw [if_neg c, if_neg (by rw [Bool.and_eq_true, decide_eq_true_iff, decide_eq_true_iff]; exact c)]
    rfl
theorem load_nn {js : List T3} (S : Sound js) (b e : Int) : 0 ≤ loadJ js b e := by
  rw [← sumOn_load]
  refine sumOn_nn fun i => ?_
  rcases Nat.lt_or_ge i js.length with h | h
  · rw [left0 js h]; have := S.at h; omega
  · rw [getD_ge (by rw [List.length_map]; exact h)]; exact Int.le_refl _
/-! ### what is left of a job ahead of the k-th piece -/
def lf (js ps : List T3) (k i : Nat) : Int := (leftAfter js (ps.take k)).getD i 0
theorem lf_zero {js ps : List T3} {i : Nat} (h : i < js.length) : lf js ps 0 i = ln js i := left0 js h
theorem la_step {js ps : List T3} {k : Nat} {q : T3} (h : ps[k]? = some q) : leftAfter js (ps.take (k + 1)) = takeOff (leftAfter js (ps.take k)) q := by
  rw [List.take_add_one, h]
  exact leftAfter_snoc js (ps.take k) q
theorem ta_step {ps : List T3} {k : Nat} {q : T3} (h : ps[k]? = some q) : timeAfter (ps.take (k + 1)) = q.2.2 := by
  rw [List.take_add_one, h]
  exact timeAfter_snoc (ps.take k) q
theorem take_past {ps : List T3} {k : Nat} (h : ps[k]? = none) : ps.take (k + 1) = ps.take k := by
  rw [List.take_add_one, h]
  exact List.append_nil _
theorem lf_other {js ps : List T3} {k i : Nat} {q : T3} (h : ps[k]? = some q) (ne : q.1.toNat ≠ i) : lf js ps (k + 1) i = lf js ps k i := by
  unfold lf
  rw [la_step h]
  exact getD_set_ne ne
theorem lf_same {js ps : List T3} {k : Nat} {q : T3} (W : WayOk js ps) (h : ps[k]? = some q) : lf js ps (k + 1) q.1.toNat = lf js ps k q.1.toNat - (q.2.2 - q.2.1) := by
  unfold lf
  rw [la_step h]
  exact getD_set_same (by rw [leftAfter_len]; exact (W k q h).pn)
theorem lf_le {js ps : List T3} (W : WayOk js ps) (k i : Nat) : lf js ps (k + 1) i ≤ lf js ps k i := by
  cases h : ps[k]? with
  | none =>
    unfold lf
    rw [take_past h]
    exact Int.le_refl _
  | some q =>
    by_cases c : q.1.toNat = i
    · subst c
      have := lf_same W h
      have := (W k q h).be
      omega
    · rw [lf_other h c]
      exact Int.le_refl _
theorem lf_mono {js ps : List T3} (W : WayOk js ps) (i : Nat) {k : Nat} : ∀ {m : Nat}, k ≤ m → lf js ps m i ≤ lf js ps k i
  | 0, h => by
    have : k = 0 := by omega
    subst this
    exact Int.le_refl _
  | m + 1, h => by
    rcases Nat.lt_or_ge k (m + 1) with c | c
    · have := lf_mono W i (show k ≤ m by omega)
      have := lf_le W m i
      omega
    · have : k = m + 1 := by omega
      subst this
      exact Int.le_refl _
theorem lf_nn {js ps : List T3} (S : Sound js) (W : WayOk js ps) : ∀ k i, 0 ≤ lf js ps k i
  | 0, i => by
    rcases Nat.lt_or_ge i js.length with h | h
    · rw [lf_zero h]; have := S.at h; omega
    · show 0 ≤ (js.map (·.2.1)).getD i 0
      rw [getD_ge (by rw [List.length_map]; exact h)]; exact Int.le_refl _
  | k + 1, i => by
    have ih := lf_nn S W k i
    cases h : ps[k]? with
    | none =>
      unfold lf at *
      rw [take_past h]
      exact ih
    | some q =>
      by_cases c : q.1.toNat = i
      · subst c
        have := lf_same W h
        have := (W k q h).rest
        unfold lf at *
        omega
      · rw [lf_other h c]
        exact ih
theorem lf_full {js ps : List T3} {i : Nat} (hi : i < js.length) : ∀ {k : Nat}, (∀ m q, m < k → ps[m]? = some q → q.1.toNat ≠ i) → lf js ps k i = ln js i
  | 0, _ => lf_zero hi
  | k + 1, h => by
    have ih := lf_full hi (k := k) fun m q hm hq => h m q (by omega) hq
    cases e : ps[k]? with
    | none =>
      unfold lf at *
      rw [take_past e]
      exact ih
    | some q => rw [lf_other e (h k q (by omega) e)]; exact ih
theorem lf_pos {js ps : List T3} {k : Nat} {q : T3} (W : WayOk js ps) (h : ps[k]? = some q) : 0 < lf js ps k q.1.toNat := by
  have O := W k q h
  have := O.rest
  have := O.be
  unfold lf
  omega
theorem ta_le {js ps : List T3} (W : WayOk js ps) : ∀ {k m : Nat}, k ≤ m → timeAfter (ps.take k) ≤ timeAfter (ps.take m)
  | k, 0, h => by
    have : k = 0 := by omega
    subst this
    exact Int.le_refl _
  | k, m + 1, h => by
    rcases Nat.lt_or_ge k (m + 1) with c | c
    · have ih := ta_le W (show k ≤ m by omega)
      cases e : ps[m]? with
      | none => rw [take_past e]; exact ih
      | some q =>
        rw [ta_step e]
        have := (W m q e).tb
        have := (W m q e).be
        omega
    · have : k = m + 1 := by omega
      subst this
      exact Int.le_refl _
theorem ord {js ps : List T3} (W : WayOk js ps) {i j : Nat} {q r : T3} (h : i < j) (hq : ps[i]? = some q) (hr : ps[j]? = some r) : q.2.2 ≤ r.2.1 := by
  have h1 := ta_le W (show i + 1 ≤ j by omega)
  rw [ta_step hq] at h1
  have := (W j r hr).tb
  omega
theorem ta_nn {js ps : List T3} (W : WayOk js ps) (k : Nat) : 0 ≤ timeAfter (ps.take k) := ta_le W (Nat.zero_le k)
/-! ### a late job -/
structure LateAt (js ps : List T3) (p M : Nat) (z : T3) : Prop where
  pn : p < js.length
  at_ : ps[M]? = some z
  pl : z.1.toNat = p
  past : du js p < z.2.2
theorem least_ex {P : Nat → Prop} : ∀ n, P n → ∃ m, m ≤ n ∧ P m ∧ ∀ i, i < m → ¬ P i
  | n, h => by
    induction n using Nat.strongRecOn with
    | _ n ih =>
      by_cases c : ∃ i, i < n ∧ P i
      · obtain ⟨i, hi, hp⟩ := c
        obtain ⟨m, h1, h2, h3⟩ := ih i hi hp
        exact ⟨m, by omega, h2, h3⟩
      · exact ⟨n, Nat.le_refl _, h, fun i hi hp => c ⟨i, hi, hp⟩⟩
theorem cover {js ps : List T3} (S : Sound js) (W : WayOk js ps) {p M : Nat} {z : T3} (L : LateAt js ps p M z) :
    ∃ m q, m ≤ M ∧ ps[m]? = some q ∧ q.2.1 < du js p ∧ du js p ≤ q.2.2 ∧ du js q.1.toNat ≤ du js p := by
  have sp := S.at L.pn
  obtain ⟨m, hm, ⟨q, hq, hd⟩, hl⟩ := least_ex (P := fun m => ∃ q, ps[m]? = some q ∧ du js p ≤ q.2.2) M ⟨z, L.at_, by have := L.past; omega⟩
  have O := W m q hq
  have hp : 0 < lf js ps m p := by
    have h1 := lf_pos W L.at_
    rw [L.pl] at h1
    have := lf_mono W p hm
    omega
  have hb : q.2.1 < du js p := by
    refine Classical.byContradiction fun c => ?_
    have hlt : timeAfter (ps.take m) < q.2.1 := by
      cases m with
      | zero =>
        show 0 < q.2.1
        omega
      | succ k =>
        have hk : k < ps.length := by have := (List.getElem?_eq_some_iff.mp hq).1; omega
        have e := List.getElem?_eq_getElem hk
        rw [ta_step e]
        have := hl k (by omega)
        have : ¬ du js p ≤ (ps[k]).2.2 := fun y => this ⟨_, e, y⟩
        omega
    have := O.gap hlt p L.pn hp
    omega
  refine ⟨m, q, hm, hq, hb, hd, ?_⟩
  have := O.edf p L.pn hp (by omega)
  unfold first at this
  omega
/-- from the k-th piece to the m-th one the run never waits and works at no job that is due later than d -/
structure Bk (js ps : List T3) (d : Int) (k m : Nat) : Prop where
  km : k ≤ m
  due : ∀ i q, k ≤ i → i ≤ m → ps[i]? = some q → du js q.1.toNat ≤ d
  tight : ∀ i q r, k ≤ i → i < m → ps[i]? = some q → ps[i + 1]? = some r → q.2.2 = r.2.1
  stop : k = 0 ∨ ∃ q r, ps[k - 1]? = some q ∧ ps[k]? = some r ∧ (q.2.2 < r.2.1 ∨ d < du js q.1.toNat)
theorem bk_ex {js ps : List T3} (W : WayOk js ps) {d : Int} : ∀ {m : Nat} {q : T3}, ps[m]? = some q → du js q.1.toNat ≤ d → ∃ k, Bk js ps d k m
  | 0, q, hq, hd => ⟨0, Nat.le_refl _, fun i r h1 h2 hr => by
      have : i = 0 := by omega
      subst this
      rw [hq] at hr
      cases hr
      exact hd, fun i r s h1 h2 => absurd h2 (Nat.not_lt_zero _), .inl rfl⟩
  | m + 1, q, hq, hd => by
    have hm : m < ps.length := by have := (List.getElem?_eq_some_iff.mp hq).1; omega
    have e := List.getElem?_eq_getElem hm
    by_cases c : (ps[m]).2.2 < q.2.1 ∨ d < du js (ps[m]).1.toNat
    · exact ⟨m + 1, Nat.le_refl _, fun i r h1 h2 hr => by
        have : i = m + 1 := by omega
        subst this
        rw [hq] at hr
        cases hr
        exact hd, fun i r s h1 h2 => by omega, .inr ⟨_, _, e, hq, c⟩⟩
    · obtain ⟨k, B⟩ := bk_ex W (d := d) e (by omega)
      refine ⟨k, by have := B.km; omega, fun i r h1 h2 hr => ?_, fun i r s h1 h2 hr hs => ?_, B.stop⟩
      · rcases Nat.lt_or_ge i (m + 1) with y | y
        · exact B.due i r h1 (by omega) hr
        · have : i = m + 1 := by omega
          subst this
          rw [hq] at hr
          cases hr
          exact hd
      · rcases Nat.lt_or_ge i m with y | y
        · exact B.tight i r s h1 y hr hs
        · have : i = m := by omega
          subst this
          rw [e] at hr
          rw [hq] at hs
          cases hr
          cases hs
          have := ord W (Nat.lt_succ_self _) e hq
          omega
/-- whoever came ahead of the stretch and is due within it is done at its begin -/
theorem bk_done {js ps : List T3} (S : Sound js) (W : WayOk js ps) {d : Int} {k m : Nat} {r : T3} (B : Bk js ps d k m) (hr : ps[k]? = some r) {o : Nat} (ho : o < js.length) (hc : cm js o < r.2.1) (hd : du js o ≤ d) : lf js ps k o ≤ 0 := by
  refine Classical.byContradiction fun c => ?_
  have hp : 0 < lf js ps k o := by omega
  have O := W k r hr
  have tb := O.tb
  by_cases g : timeAfter (ps.take k) < r.2.1
  · have := O.gap g o ho hp
    omega
  · rcases B.stop with e | ⟨q, r', hq, hr', e⟩
    · subst e
      have := S.at ho
      have : ¬ (0 : Int) < r.2.1 := g
      omega
    · rw [hr] at hr'
      cases hr'
      cases k with
      | zero =>
        have : ¬ (0 : Int) < r.2.1 := g
        have := S.at ho
        omega
      | succ j =>
        have hq : ps[j]? = some q := hq
        rw [ta_step hq] at g tb
        have hj := lf_le W j o
        have := (W j q hq).edf o ho (by show lf js ps j o > 0; omega) (by omega)
        unfold first at this
        omega
theorem crowded {js ps : List T3} (S : Sound js) (W : WayOk js ps) {p M k m : Nat} {z q r : T3} (L : LateAt js ps p M z) (hq : ps[m]? = some q) (hqb : q.2.1 < du js p) (hqe : du js p ≤ q.2.2) (B : Bk js ps (du js p) k m) (hr : ps[k]? = some r) :
    0 ≤ r.2.1 ∧ r.2.1 ≤ cm js p ∧ r.2.1 < du js p ∧ du js p - r.2.1 < loadJ js r.2.1 (du js p) := by
  have sp := S.at L.pn
  have Or := W k r hr
  have hmM : m ≤ M := by
    rcases Nat.lt_or_ge M m with c | c
    · have := ord W c L.at_ hq
      have := L.past
      omega
    · exact c
  have hM : 0 < lf js ps M p := by
    have := lf_pos W L.at_
    rw [L.pl] at this
    exact this
  have hb0 : 0 ≤ r.2.1 := by
    have := Or.tb
    have := ta_nn W k
    omega
  have hbp : r.2.1 ≤ cm js p := by
    refine Classical.byContradiction fun c => ?_
    have h1 := bk_done S W B hr L.pn (by omega) (Int.le_refl _)
    have h2 := lf_mono W p (show k ≤ M by have := B.km; omega)
    omega
  refine ⟨hb0, hbp, by omega, ?_⟩
  have hin : ∀ i x, k ≤ i → i ≤ m → ps[i]? = some x → inS js r.2.1 (du js p) x.1.toNat = true := fun i x h1 h2 hx => by
    refine inS_iff.mpr ⟨?_, B.due i x h1 h2 hx⟩
    refine Classical.byContradiction fun c => ?_
    have h3 := bk_done S W B hr (W i x hx).pn (by omega) (B.due i x h1 h2 hx)
    have h4 := lf_mono W x.1.toNat h1
    have h5 := lf_pos W hx
    omega
  have hstart : sumOn (inS js r.2.1 (du js p)) (leftAfter js (ps.take k)) = loadJ js r.2.1 (du js p) := by
    rw [← sumOn_load]
    refine sumOn_congr (by rw [leftAfter_len, List.length_map]) fun i hi hs => ?_
    rw [leftAfter_len] at hi
    rw [left0 js hi]
    refine lf_full hi fun j x hj hx e => ?_
    have h1 := ord W hj hx hr
    have h2 := (W j x hx).come
    have h3 := (W j x hx).be
    rw [e] at h2
    have := (inS_iff.mp hs).1
    omega
  have hone : ∀ i x, k ≤ i → i ≤ m → ps[i]? = some x → sumOn (inS js r.2.1 (du js p)) (leftAfter js (ps.take (i + 1))) = sumOn (inS js r.2.1 (du js p)) (leftAfter js (ps.take i)) - (x.2.2 - x.2.1) := fun i x h1 h2 hx => by
    rw [la_step hx]
    unfold takeOff
    rw [sumOn_set (by rw [leftAfter_len]; exact (W i x hx).pn), if_pos (hin i x h1 h2 hx)]
    omega
  have htel : ∀ j x, k + j ≤ m → ps[k + j]? = some x → sumOn (inS js r.2.1 (du js p)) (leftAfter js (ps.take (k + j + 1))) = loadJ js r.2.1 (du js p) - (x.2.2 - r.2.1) := by
    intro j
    induction j with
    | zero =>
      intro x hx1 hx
      rw [Nat.add_zero] at *
      rw [hr] at hx
      cases hx
      rw [hone k r (Nat.le_refl _) hx1 hr, hstart]
    | succ j ih =>
      intro x hx1 hx
      have hy : k + j < ps.length := by have := (List.getElem?_eq_some_iff.mp hx).1; omega
      have e := List.getElem?_eq_getElem hy
      have h1 := ih _ (by omega) e
      rw [hone (k + (j + 1)) x (by omega) hx1 hx]
      have h2 := B.tight (k + j) _ x (by omega) (by omega) e hx
      show sumOn _ (leftAfter js (ps.take (k + j + 1))) - _ = _
      rw [h1]
      omega
  have hkm := B.km
  have hend := htel (m - k) q (by omega) (by rw [show k + (m - k) = m by omega]; exact hq)
  rw [show k + (m - k) + 1 = m + 1 by omega] at hend
  have hnn : ∀ i, 0 ≤ (leftAfter js (ps.take (m + 1))).getD i 0 := fun i => lf_nn S W (m + 1) i
  rcases Nat.lt_or_ge m M with c | c
  · have h1 := sumOn_one (S := inS js r.2.1 (du js p)) (j := p) hnn (inS_iff.mpr ⟨hbp, Int.le_refl _⟩)
    have h2 : lf js ps M p ≤ (leftAfter js (ps.take (m + 1))).getD p 0 := lf_mono W p c
    omega
  · have : m = M := by omega
    subst this
    have h1 := L.at_
    rw [hq] at h1
    cases h1
    have := L.past
    have := sumOn_nn (S := inS js r.2.1 (du js p)) hnn
    omega
/-! ### no stretch is crowded where none is late -/
def NoLate (js ps : List T3) : Prop := ∀ (i : Nat) (q : T3), ps[i]? = some q → q.2.2 ≤ du js q.1.toNat
theorem load_le {js ps : List T3} (R : RunOk js ps) (N : NoLate js ps) {b e : Int} (h : b ≤ e) : loadJ js b e ≤ e - b := by
  have W := R.way
  have key : ∀ k, k ≤ ps.length → loadJ js b e ≤ sumOn (inS js b e) (leftAfter js (ps.take k)) + (min e (max b (timeAfter (ps.take k))) - b) := by
    intro k
    induction k with
    | zero =>
      intro _
      have : sumOn (inS js b e) (leftAfter js (ps.take 0)) = loadJ js b e := sumOn_load
      rw [this]
      omega
    | succ k ih =>
      intro hk
      have ih := ih (by omega)
      have hq := List.getElem?_eq_getElem (show k < ps.length by omega)
      have O := W k _ hq
      have tb := O.tb
      have be := O.be
      rw [la_step hq, ta_step hq]
      unfold takeOff
      rw [sumOn_set (by rw [leftAfter_len]; exact O.pn)]
      by_cases c : inS js b e (ps[k]).1.toNat = true
      · rw [if_pos c]
        obtain ⟨c1, c2⟩ := inS_iff.mp c
        have := O.come
        have := N k _ hq
        omega
      · rw [if_neg c]
        omega
  have h1 := key ps.length (Nat.le_refl _)
  rw [List.take_length, sumOn_zero R.all] at h1
  omega
theorem late_at {js ps : List T3} (W : WayOk js ps) (h : ¬ NoLate js ps) : ∃ p M z, LateAt js ps p M z := by
  refine Classical.byContradiction fun c => h fun i q hq => ?_
  refine Classical.byContradiction fun d => c ⟨q.1.toNat, i, q, (W i q hq).pn, hq, rfl, by omega⟩
/-- a job is late just where some stretch asks for more than it has -/
theorem noLate_iff {js ps : List T3} (S : Sound js) (R : RunOk js ps) : NoLate js ps ↔ ∀ b e : Int, b ≤ e → loadJ js b e ≤ e - b := by
  refine ⟨fun N b e h => load_le R N h, fun h => Classical.byContradiction fun c => ?_⟩
  obtain ⟨p, M, z, L⟩ := late_at R.way c
  obtain ⟨m, q, hm, hq, h1, h2, h3⟩ := cover S R.way L
  obtain ⟨k, B⟩ := bk_ex R.way hq h3
  have hk : k < ps.length := by have := (List.getElem?_eq_some_iff.mp hq).1; have := B.km; omega
  have := crowded S R.way L hq h1 h2 B (List.getElem?_eq_getElem hk)
  have := h (ps[k]).2.1 (du js p) (by omega)
  omega
end DL
/-! ends, dues made later, one job more -/
namespace DL
def endsAfter (n : Nat) (ps : List T3) : List Int := ps.foldl (fun l q => l.set q.1.toNat q.2.2) (List.replicate n 0)
def endsM (js : List T3) : List Int := endsAfter js.length (runM js)
theorem endsAfter_step {n : Nat} {ps : List T3} {i : Nat} {q : T3} (h : ps[i]? = some q) : endsAfter n (ps.take (i + 1)) = (endsAfter n (ps.take i)).set q.1.toNat q.2.2 := by
  unfold endsAfter
  rw [List.take_add_one, h, List.foldl_append]
  rfl
theorem foldl_set_len : ∀ (ps : List T3) (l : List Int), (ps.foldl (fun l q => l.set q.1.toNat q.2.2) l).length = l.length
  | [], _ => rfl
  | q :: r, l => by rw [List.foldl_cons, foldl_set_len r, List.length_set]
theorem endsAfter_len (n : Nat) (ps : List T3) : (endsAfter n ps).length = n := by
  unfold endsAfter
  rw [foldl_set_len, List.length_replicate]
theorem ends_upto {n : Nat} {ps : List T3} {i : Nat} (hi : i < n) : ∀ k, (∀ (m : Nat) (q : T3), m < k → ps[m]? = some q → q.1.toNat ≠ i) ∨
    ∃ (M : Nat) (z : T3), M < k ∧ ps[M]? = some z ∧ z.1.toNat = i ∧ z.2.2 = (endsAfter n (ps.take k)).getD i 0 ∧ ∀ m q, m < k → ps[m]? = some q → q.1.toNat = i → m ≤ M
  | 0 => .inl fun m q h => absurd h (Nat.not_lt_zero _)
  | k + 1 => by
    have ih := ends_upto (ps := ps) hi k
    cases e : ps[k]? with
    | none =>
      rw [take_past e]
      rcases ih with h | ⟨M, z, h1, h2, h3, h4, h5⟩
      · refine .inl fun m q hm hq => ?_
        rcases Nat.lt_or_ge m k with c | c
        · exact h m q c hq
        · have : m = k := by omega
          subst this
          rw [e] at hq
          cases hq
      · refine .inr ⟨M, z, by omega, h2, h3, h4, fun m q hm hq => ?_⟩
        rcases Nat.lt_or_ge m k with c | c
        · exact h5 m q c hq
        · have : m = k := by omega
          subst this
          rw [e] at hq
          cases hq
    | some r =>
      rw [endsAfter_step e]
      by_cases c : r.1.toNat = i
      · refine .inr ⟨k, r, by omega, e, c, ?_, fun m q hm hq _ => by omega⟩
        rw [c, getD_set_same (by rw [endsAfter_len]; exact hi)]
      · rw [getD_set_ne c]
        rcases ih with h | ⟨M, z, h1, h2, h3, h4, h5⟩
        · refine .inl fun m q hm hq => ?_
          rcases Nat.lt_or_ge m k with y | y
          · exact h m q y hq
          · have : m = k := by omega
            subst this
            rw [e] at hq
            cases hq
            exact c
        · refine .inr ⟨M, z, by omega, h2, h3, h4, fun m q hm hq hp => ?_⟩
          rcases Nat.lt_or_ge m k with y | y
          · exact h5 m q y hq hp
          · have : m = k := by omega
            subst this
            rw [e] at hq
            cases hq
            exact absurd hp c
theorem ends_at {js ps : List T3} (S : Sound js) (R : RunOk js ps) {i : Nat} (hi : i < js.length) :
    ∃ (M : Nat) (z : T3), ps[M]? = some z ∧ z.1.toNat = i ∧ z.2.2 = (endsAfter js.length ps).getD i 0 ∧ ∀ (m : Nat) (q : T3), ps[m]? = some q → q.1.toNat = i → m ≤ M ∧ q.2.2 ≤ z.2.2 := by
  have h := ends_upto (ps := ps) hi ps.length
  rw [List.take_length] at h
  rcases h with h | ⟨M, z, h1, h2, h3, h4, h5⟩
  · have h1 := lf_full hi (k := ps.length) fun m q hm hq => h m q hm hq
    unfold lf at h1
    rw [List.take_length, R.all i] at h1
    have := S.at hi
    omega
  · refine ⟨M, z, h2, h3, h4, fun m q hq hp => ?_⟩
    have := h5 m q (List.getElem?_eq_some_iff.mp hq).1 hq hp
    refine ⟨this, ?_⟩
    rcases Nat.lt_or_ge m M with c | c
    · have := ord R.way c hq h2
      have := (R.way M z h2).be
      omega
    · have : m = M := by omega
      subst this
      rw [h2] at hq
      cases hq
      exact Int.le_refl _
theorem late_of_end {js ps : List T3} (S : Sound js) (R : RunOk js ps) {i : Nat} (hi : i < js.length) (h : du js i < (endsAfter js.length ps).getD i 0) : ∃ M z, LateAt js ps i M z := by
  obtain ⟨M, z, h1, h2, h3, _⟩ := ends_at S R hi
  exact ⟨M, z, hi, h1, h2, by rw [h3]; exact h⟩
theorem LateAt.end_ {js ps : List T3} {p M : Nat} {z : T3} (S : Sound js) (R : RunOk js ps) (L : LateAt js ps p M z) : du js p < (endsAfter js.length ps).getD p 0 := by
  obtain ⟨M', z', h1, h2, h3, h4⟩ := ends_at S R L.pn
  have := (h4 M z L.at_ L.pl).2
  have := L.past
  omega
theorem noLate_ends {js ps : List T3} (S : Sound js) (R : RunOk js ps) : NoLate js ps ↔ ∀ i, i < js.length → (endsAfter js.length ps).getD i 0 ≤ du js i := by
  constructor
  · intro N i hi
    obtain ⟨M, z, h1, h2, h3, _⟩ := ends_at S R hi
    have := N M z h1
    rw [h2] at this
    omega
  · intro h
    refine Classical.byContradiction fun c => ?_
    obtain ⟨p, M, z, L⟩ := late_at R.way c
    have := L.end_ S R
    have := h p L.pn
    omega
/-! ### the run meets the jobs where none is late -/
theorem run_left {js ps : List T3} (R : RunOk js ps) : leftAfter js ps = List.replicate js.length 0 := by
  refine List.eq_replicate_iff.mpr ⟨leftAfter_len js ps, fun x hx => ?_⟩
  obtain ⟨i, hi, e⟩ := List.getElem_of_mem hx
  have := R.all i
  rw [getD_lt hi, e] at this
  exact this
/-! ### dues made later -/
def shiftJs (js : List T3) (x : Int) : List T3 := js.map fun j => (j.1, j.2.1, j.2.2 + x)
theorem shift_len (js : List T3) (x : Int) : (shiftJs js x).length = js.length := List.length_map _
theorem cm_shift (js : List T3) (x : Int) (i : Nat) : cm (shiftJs js x) i = cm js i := by
  unfold cm shiftJs
  rcases Nat.lt_or_ge i js.length with h | h
  · rw [getD_lt h, getD_lt (by rw [List.length_map]; exact h), List.getElem_map]
  · rw [getD_ge h, getD_ge (by rw [List.length_map]; exact h)]
theorem du_shift {js : List T3} {x : Int} {i : Nat} (h : i < js.length) : du (shiftJs js x) i = du js i + x := by
  unfold du shiftJs
  rw [getD_lt h, getD_lt (by rw [List.length_map]; exact h), List.getElem_map]
theorem shift_sound {js : List T3} {x : Int} (S : Sound js) (h : 0 ≤ x) : Sound (shiftJs js x) := fun j hj => by
  obtain ⟨i, hi, rfl⟩ := List.mem_map.mp hj
  have := S i hi
  unfold SoundJ at *
  dsimp only
  omega
theorem there_shift (js : List T3) (x : Int) (left : List Int) (t : Int) (i : Nat) : there (shiftJs js x) left t i ↔ there js left t i := by
  unfold there
  rw [cm_shift]
theorem fd_shift (js : List T3) (x : Int) (left : List Int) (t : Int) : ∀ k, k ≤ js.length → fdUpto (shiftJs js x) left t k = fdUpto js left t k
  | 0, _ => rfl
  | k + 1, h => by
    show fdStep (shiftJs js x) left t (fdUpto (shiftJs js x) left t k) k = fdStep js left t (fdUpto js left t k) k
    rw [fd_shift js x left t k (by omega)]
    unfold fdStep
    by_cases c : there js left t k
    · rw [if_pos c, if_pos ((there_shift js x left t k).mpr c)]
      rcases fdUpto_spec js left t k with ⟨e, _⟩ | ⟨p, e, hp, _⟩
      · rw [e]
      · rw [e]
        show (if du (shiftJs js x) k < du (shiftJs js x) p then some k else some p) = if du js k < du js p then some k else some p
        rw [du_shift (by omega), du_shift (by omega)]
        by_cases d : du js k < du js p
        · rw [if_pos d, if_pos (by omega)]
        · rw [if_neg d, if_neg (by omega)]
    · rw [if_neg c, if_neg fun z => c ((there_shift js x left t k).mp z)]
theorem firstDue_shift (js : List T3) (x : Int) (left : List Int) (t : Int) : firstDue (shiftJs js x) left t = firstDue js left t := by
  unfold firstDue
  rw [shift_len]
  exact fd_shift js x left t _ (Nat.le_refl _)
theorem comesAfter_shift (js : List T3) (x t : Int) : comesAfter (shiftJs js x) t = comesAfter js t := by
  unfold comesAfter shiftJs
  rw [List.filter_map, List.map_map]
  rfl
theorem comesWithin_shift (js : List T3) (x t d : Int) : comesWithin (shiftJs js x) t d = comesWithin js t d := by
  unfold comesWithin shiftJs
  rw [List.filter_map, List.map_map]
  rfl
theorem step_shift (js : List T3) (x : Int) (s : RS) : step (shiftJs js x) s = step js s := by
  unfold step
  rw [firstDue_shift]
  unfold nextCome endOf
  simp only [comesAfter_shift, comesWithin_shift]
theorem runFrom_shift (js : List T3) (x : Int) : ∀ k s, runFrom (shiftJs js x) k s = runFrom js k s
  | 0, _ => rfl
  | k + 1, s => by
    show (if done s then s else runFrom (shiftJs js x) k (step (shiftJs js x) s)) = if done s then s else runFrom js k (step js s)
    rw [step_shift, runFrom_shift js x k]
theorem runM_shift (js : List T3) (x : Int) : runM (shiftJs js x) = runM js := by
  unfold runM
  rw [runFrom_shift, shift_len]
  congr 1
  congr 1
  unfold rs0 shiftJs
  rw [List.map_map]
  rfl
theorem endsM_shift (js : List T3) (x : Int) : endsM (shiftJs js x) = endsM js := by
  unfold endsM
  rw [runM_shift, shift_len]
theorem noLate_shift {js : List T3} (S : Sound js) (x : Int) : NoLate (shiftJs js x) (runM js) ↔ ∀ i, i < js.length → (endsM js).getD i 0 ≤ du js i + x := by
  have R := run_ok S
  constructor
  · intro N i hi
    obtain ⟨M, z, h1, h2, h3, _⟩ := ends_at S R hi
    have := N M z h1
    rw [h2, du_shift hi] at this
    unfold endsM
    omega
  · intro h m q hq
    have hp := (R.way m q hq).pn
    obtain ⟨M, z, h1, h2, h3, h4⟩ := ends_at S R hp
    have := (h4 m q hq rfl).2
    have := h _ hp
    unfold endsM at this
    rw [du_shift hp]
    omega
/-! ### one job more -/
def putJ (js : List T3) (at_ : Nat) (j : T3) : List T3 := js.take at_ ++ [j] ++ js.drop at_
theorem putIn_sound {js : List T3} {at_ : Nat} {j : T3} (S : Sound js) (h : SoundJ j) : Sound (putJ js at_ j) := fun x hx => by
  rcases List.mem_append.mp hx with y | y
  · rcases List.mem_append.mp y with y | y
    · exact S x (List.mem_of_mem_take y)
    · rw [List.mem_singleton.mp y]; exact h
  · exact S x (List.mem_of_mem_drop y)
theorem load_putIn (js : List T3) (at_ : Nat) (j : T3) (b e : Int) : loadJ (putJ js at_ j) b e = loadJ js b e + if b ≤ j.1 ∧ j.2.2 ≤ e then j.2.1 else 0 := by
  unfold putJ
  rw [load_append, load_append, load_one]
  have : loadJ js b e = loadJ (js.take at_) b e + loadJ (js.drop at_) b e := by rw [← load_append, List.take_append_drop]
  omega
theorem load_congr {js : List T3} {b b' e e' : Int} (h : ∀ j ∈ js, inB b e j = inB b' e' j) : loadJ js b e = loadJ js b' e' := by
  unfold loadJ
  rw [List.filter_congr h]
/-- a stretch's begin may be a come, its end a due -/
theorem snap_begin (js : List T3) {b c : Int} (e : Int) (hb : b ≤ c) : ∃ b', (b' = c ∨ ∃ j ∈ js, j.1 = b') ∧ b ≤ b' ∧ b' ≤ c ∧ loadJ js b e = loadJ js b' e := by
  have key : (c :: (js.filter fun j => decide (b ≤ j.1)).map (·.1)) ≠ [] := List.cons_ne_nil _ _
  have hm := lmin_mem key
  have hl : ∀ x, x ∈ (c :: (js.filter fun j => decide (b ≤ j.1)).map (·.1)) → lmin (c :: (js.filter fun j => decide (b ≤ j.1)).map (·.1)) ≤ x := fun x hx => lmin_le hx
  generalize lmin (c :: (js.filter fun j => decide (b ≤ j.1)).map (·.1)) = v at *
  have hbv : b ≤ v := by
    rcases List.mem_cons.mp hm with z | z
    · omega
    · obtain ⟨j, hj, rfl⟩ := List.mem_map.mp z
      exact of_decide_eq_true (List.mem_filter.mp hj).2
  refine ⟨v, ?_, hbv, hl c List.mem_cons_self, load_congr fun j hj => ?_⟩
  · rcases List.mem_cons.mp hm with z | z
    · exact .inl z
    · obtain ⟨j, hj, e⟩ := List.mem_map.mp z
      exact .inr ⟨j, (List.mem_filter.mp hj).1, e⟩
  · unfold inB
    congr 1
    refine decide_eq_decide.mpr ⟨fun h => hl _ (List.mem_cons_of_mem _ (List.mem_map.mpr ⟨j, List.mem_filter.mpr ⟨hj, decide_eq_true h⟩, rfl⟩)), fun h => by omega⟩
def lmax (d : Int) (l : List Int) : Int := l.foldl max d
theorem lmax_ge : ∀ (l : List Int) (d : Int), d ≤ lmax d l ∧ ∀ x ∈ l, x ≤ lmax d l
  | [], d => ⟨Int.le_refl _, fun x h => by simp at h⟩
  | a :: r, d => by
    obtain ⟨h1, h2⟩ := lmax_ge r (max d a)
    show d ≤ lmax (max d a) r ∧ ∀ x ∈ a :: r, x ≤ lmax (max d a) r
    refine ⟨by omega, fun x hx => ?_⟩
    rcases List.mem_cons.mp hx with e | e
    · rw [e]; omega
    · exact h2 x e
theorem lmax_mem : ∀ (l : List Int) (d : Int), lmax d l = d ∨ lmax d l ∈ l
  | [], d => .inl rfl
  | a :: r, d => by
    show lmax (max d a) r = d ∨ lmax (max d a) r ∈ a :: r
    rcases lmax_mem r (max d a) with h | h
    · rcases Int.le_total d a with c | c
      · rw [Int.max_eq_right c] at h ⊢
        exact .inr (by rw [h]; exact List.mem_cons_self)
      · rw [Int.max_eq_left c] at h ⊢
        exact .inl h
    · exact .inr (List.mem_cons_of_mem _ h)
theorem snap_end (js : List T3) {e d : Int} (b : Int) (hd : d ≤ e) : ∃ e', (e' = d ∨ ∃ j ∈ js, j.2.2 = e') ∧ d ≤ e' ∧ e' ≤ e ∧ loadJ js b e = loadJ js b e' := by
  obtain ⟨h1, h2⟩ := lmax_ge ((js.filter fun j => decide (j.2.2 ≤ e)).map (·.2.2)) d
  have h3 := lmax_mem ((js.filter fun j => decide (j.2.2 ≤ e)).map (·.2.2)) d
  generalize lmax d ((js.filter fun j => decide (j.2.2 ≤ e)).map (·.2.2)) = v at *
  refine ⟨v, ?_, h1, ?_, load_congr fun j hj => ?_⟩
  · rcases h3 with z | z
    · exact .inl z
    · obtain ⟨j, hj, e⟩ := List.mem_map.mp z
      exact .inr ⟨j, (List.mem_filter.mp hj).1, e⟩
  · rcases h3 with z | z
    · omega
    · obtain ⟨j, hj, e⟩ := List.mem_map.mp z
      have := of_decide_eq_true (List.mem_filter.mp hj).2
      omega
  · unfold inB
    congr 1
    refine decide_eq_decide.mpr ⟨fun h => h2 _ (List.mem_map.mpr ⟨j, List.mem_filter.mpr ⟨hj, decide_eq_true h⟩, rfl⟩), fun h => ?_⟩
    rcases h3 with z | z
    · omega
    · obtain ⟨j', hj', e'⟩ := List.mem_map.mp z
      have := of_decide_eq_true (List.mem_filter.mp hj').2
      omega
/-- no job is late with one of this length more, just where all stretches that hold its come and due leave as much -/
theorem noLate_putIn {js : List T3} (S : Sound js) (hf : NoLate js (runM js)) (at_ : Nat) {j : T3} (hj : SoundJ j) :
    NoLate (putJ js at_ j) (runM (putJ js at_ j)) ↔ ∀ b e : Int, b ≤ j.1 → j.2.2 ≤ e → loadJ js b e + j.2.1 ≤ e - b := by
  have S2 := putIn_sound (at_ := at_) S hj
  rw [noLate_iff S2 (run_ok S2)]
  constructor
  · intro h b e h1 h2
    have := h b e (by have := hj.2.2; omega)
    rw [load_putIn, if_pos ⟨h1, h2⟩] at this
    exact this
  · intro h b e hbe
    rw [load_putIn]
    by_cases c : b ≤ j.1 ∧ j.2.2 ≤ e
    · rw [if_pos c]
      exact h b e c.1 c.2
    · rw [if_neg c]
      have := load_le (run_ok S) hf hbe
      omega
/-- all these stretches are seen by those that begin at a come and end at a due -/
theorem room_seen {js : List T3} {c d x : Int} (h : ∀ b e : Int, (b = c ∨ ∃ j ∈ js, j.1 = b) → b ≤ c → (e = d ∨ ∃ j ∈ js, j.2.2 = e) → d ≤ e → loadJ js b e + x ≤ e - b) : ∀ b e : Int, b ≤ c → d ≤ e → loadJ js b e + x ≤ e - b := by
  intro b e hb he
  obtain ⟨b', h1, h2, h3, h4⟩ := snap_begin js e hb
  obtain ⟨e', g1, g2, g3, g4⟩ := snap_end js b' he
  have := h b' e' h1 h3 g1 g2
  rw [h4, g4]
  omega
end DL
/-! the begin of a stretch, looked for from the first piece on -/
namespace DL
def BInv (js ps : List T3) (d : Int) (i : Nat) (b : Int) : Prop :=
  (b = timeAfter (ps.take i) ∧ (i = 0 ∨ ∃ q, ps[i - 1]? = some q ∧ d < du js q.1.toNat)) ∨
  ∃ (k : Nat) (r : T3), k < i ∧ ps[k]? = some r ∧ r.2.1 = b ∧ Bk js ps d k (i - 1)
theorem BInv.start (js ps : List T3) (d : Int) : BInv js ps d 0 0 := .inl ⟨rfl, .inl rfl⟩
def nextBegin (js ps : List T3) (d : Int) (i : Nat) (b : Int) (q : T3) : Int :=
  if d < du js q.1.toNat then q.2.2 else if timeAfter (ps.take i) < q.2.1 then q.2.1 else b
theorem bk_self {js ps : List T3} {d : Int} {i : Nat} {q : T3} (h : ps[i]? = some q) (hd : du js q.1.toNat ≤ d)
    (st : i = 0 ∨ ∃ q r, ps[i - 1]? = some q ∧ ps[i]? = some r ∧ (q.2.2 < r.2.1 ∨ d < du js q.1.toNat)) : Bk js ps d i i :=
  ⟨Nat.le_refl _, fun j x h1 h2 hx => by
    have : j = i := by omega
    subst this
    rw [h] at hx
    cases hx
    exact hd, fun j x y h1 h2 => by omega, st⟩
theorem bk_more {js ps : List T3} {d : Int} {k i : Nat} {p q : T3} (B : Bk js ps d k i) (hp : ps[i]? = some p) (h : ps[i + 1]? = some q) (hd : du js q.1.toNat ≤ d) (ht : p.2.2 = q.2.1) : Bk js ps d k (i + 1) := by
  refine ⟨by have := B.km; omega, fun j x h1 h2 hx => ?_, fun j x y h1 h2 hx hy => ?_, B.stop⟩
  · rcases Nat.lt_or_ge j (i + 1) with c | c
    · exact B.due j x h1 (by omega) hx
    · have : j = i + 1 := by omega
      subst this
      rw [h] at hx
      cases hx
      exact hd
  · rcases Nat.lt_or_ge j i with c | c
    · exact B.tight j x y h1 c hx hy
    · have : j = i := by omega
      subst this
      rw [hp] at hx
      rw [h] at hy
      cases hx
      cases hy
      exact ht
theorem BInv.step {js ps : List T3} (W : WayOk js ps) {d : Int} {i : Nat} {b : Int} {q : T3} (I : BInv js ps d i b) (h : ps[i]? = some q) : BInv js ps d (i + 1) (nextBegin js ps d i b q) := by
  have tb := (W i q h).tb
  unfold nextBegin
  by_cases c : d < du js q.1.toNat
  · rw [if_pos c]
    exact .inl ⟨(ta_step h).symm, .inr ⟨q, h, c⟩⟩
  · rw [if_neg c]
    have hi : i < ps.length := (List.getElem?_eq_some_iff.mp h).1
    by_cases g : timeAfter (ps.take i) < q.2.1
    · rw [if_pos g]
      refine .inr ⟨i, q, by omega, h, rfl, bk_self h (by omega) ?_⟩
      cases i with
      | zero => exact .inl rfl
      | succ j =>
        have e := List.getElem?_eq_getElem (show j < ps.length by omega)
        rw [ta_step e] at g
        exact .inr ⟨_, q, e, h, .inl g⟩
    · rw [if_neg g]
      rcases I with ⟨e, st⟩ | ⟨k, r, hk, hr, hb, B⟩
      · refine .inr ⟨i, q, by omega, h, by omega, bk_self h (by omega) ?_⟩
        rcases st with z | ⟨x, hx, hd⟩
        · exact .inl z
        · exact .inr ⟨x, q, hx, h, .inr hd⟩
      · refine .inr ⟨k, r, by omega, hr, hb, ?_⟩
        obtain ⟨j, rfl⟩ : ∃ j, i = j + 1 := ⟨i - 1, by omega⟩
        have e := List.getElem?_eq_getElem (show j < ps.length by omega)
        rw [ta_step e] at g tb
        exact bk_more B e h (by omega) (by omega)
/-- behind the piece at which the due falls it is the begin -/
theorem BInv.end_ {js ps : List T3} {d : Int} {m : Nat} {b : Int} {q : T3} (I : BInv js ps d (m + 1) b) (h : ps[m]? = some q) (hd : du js q.1.toNat ≤ d) : ∃ (k : Nat) (r : T3), ps[k]? = some r ∧ r.2.1 = b ∧ Bk js ps d k m := by
  rcases I with ⟨e, st⟩ | ⟨k, r, hk, hr, hb, B⟩
  · rcases st with z | ⟨x, hx, hd2⟩
    · omega
    · have hx : ps[m]? = some x := hx
      rw [h] at hx
      cases hx
      omega
  · exact ⟨k, r, hr, hb, B⟩
end DL
/-! room for one job more -/
namespace DL
def comesB (js : List T3) (c : Int) : List Int := c :: (js.filter fun j => decide (j.1 < c)).map (·.1)
def duesE (js : List T3) (d : Int) : List Int := d :: (js.filter fun j => decide (d < j.2.2)).map (·.2.2)
def minE (js : List T3) (b : Int) (es : List Int) (a : Int) : Int := es.foldl (fun a e => min a (e - b - loadJ js b e)) a
def minB (js : List T3) (es bs : List Int) (a : Int) : Int := bs.foldl (fun a b => minE js b es a) a
def leastM (js : List T3) (c d : Int) : Int := minB js (duesE js d) (comesB js c) (d - c)
theorem minE_snoc {js : List T3} {b a : Int} {es : List Int} {i : Nat} {e : Int} (h : es[i]? = some e) : minE js b (es.take (i + 1)) a = min (minE js b (es.take i) a) (e - b - loadJ js b e) := by
  unfold minE
  rw [List.take_add_one, h, List.foldl_append]
  rfl
theorem minB_snoc {js : List T3} {a : Int} {es bs : List Int} {i : Nat} {b : Int} (h : bs[i]? = some b) : minB js es (bs.take (i + 1)) a = minE js b es (minB js es (bs.take i) a) := by
  unfold minB
  rw [List.take_add_one, h, List.foldl_append]
  rfl
theorem minE_le (js : List T3) (b : Int) : ∀ (es : List Int) (a : Int), minE js b es a ≤ a ∧ ∀ e ∈ es, minE js b es a ≤ e - b - loadJ js b e
  | [], a => ⟨Int.le_refl _, fun e h => by simp at h⟩
  | x :: r, a => by
    obtain ⟨h1, h2⟩ := minE_le js b r (min a (x - b - loadJ js b x))
    show minE js b r (min a (x - b - loadJ js b x)) ≤ a ∧ ∀ e ∈ x :: r, minE js b r (min a (x - b - loadJ js b x)) ≤ e - b - loadJ js b e
    refine ⟨by omega, fun e he => ?_⟩
    rcases List.mem_cons.mp he with z | z
    · rw [z]; omega
    · exact h2 e z
theorem minE_mem (js : List T3) (b : Int) : ∀ (es : List Int) (a : Int), minE js b es a = a ∨ ∃ e ∈ es, minE js b es a = e - b - loadJ js b e
  | [], a => .inl rfl
  | x :: r, a => by
    show minE js b r (min a (x - b - loadJ js b x)) = a ∨ ∃ e ∈ x :: r, minE js b r (min a (x - b - loadJ js b x)) = e - b - loadJ js b e
    rcases minE_mem js b r (min a (x - b - loadJ js b x)) with h | ⟨e, he, h⟩
    · rcases Int.le_total a (x - b - loadJ js b x) with c | c
      · rw [Int.min_eq_left c] at h ⊢
        exact .inl h
      · rw [Int.min_eq_right c] at h ⊢
        exact .inr ⟨x, List.mem_cons_self, h⟩
    · exact .inr ⟨e, List.mem_cons_of_mem _ he, h⟩
theorem minB_le (js : List T3) (es : List Int) : ∀ (bs : List Int) (a : Int), minB js es bs a ≤ a ∧ ∀ b ∈ bs, ∀ e ∈ es, minB js es bs a ≤ e - b - loadJ js b e
  | [], a => ⟨Int.le_refl _, fun e h => by simp at h⟩
  | x :: r, a => by
    obtain ⟨h1, h2⟩ := minB_le js es r (minE js x es a)
    obtain ⟨g1, g2⟩ := minE_le js x es a
    show minB js es r (minE js x es a) ≤ a ∧ ∀ b ∈ x :: r, ∀ e ∈ es, minB js es r (minE js x es a) ≤ e - b - loadJ js b e
    refine ⟨by omega, fun b hb e he => ?_⟩
    rcases List.mem_cons.mp hb with z | z
    · subst z
      have := g2 e he
      omega
    · exact h2 b z e he
theorem minB_mem (js : List T3) (es : List Int) : ∀ (bs : List Int) (a : Int), minB js es bs a = a ∨ ∃ b ∈ bs, ∃ e ∈ es, minB js es bs a = e - b - loadJ js b e
  | [], a => .inl rfl
  | x :: r, a => by
    show minB js es r (minE js x es a) = a ∨ ∃ b ∈ x :: r, ∃ e ∈ es, minB js es r (minE js x es a) = e - b - loadJ js b e
    rcases minB_mem js es r (minE js x es a) with h | ⟨b, hb, e, he, h⟩
    · rcases minE_mem js x es a with g | ⟨e, he, g⟩
      · rw [g] at h ⊢
        exact .inl h
      · exact .inr ⟨x, List.mem_cons_self, e, he, by rw [h, g]⟩
    · exact .inr ⟨b, List.mem_cons_of_mem _ hb, e, he, h⟩
theorem mem_comesB {js : List T3} {c b : Int} : b ∈ comesB js c ↔ (b = c ∨ ∃ j ∈ js, j.1 = b) ∧ b ≤ c := by
  unfold comesB
  rw [List.mem_cons, List.mem_map]
  constructor
  · rintro (h | ⟨j, hj, e⟩)
    · exact ⟨.inl h, by omega⟩
    · obtain ⟨h1, h2⟩ := List.mem_filter.mp hj
      have := of_decide_eq_true h2
      exact ⟨.inr ⟨j, h1, e⟩, by omega⟩
  · rintro ⟨h | ⟨j, hj, e⟩, hb⟩
    · exact .inl h
    · by_cases g : b = c
      · exact .inl g
      · exact .inr ⟨j, List.mem_filter.mpr ⟨hj, decide_eq_true (by omega)⟩, e⟩
theorem mem_duesE {js : List T3} {d e : Int} : e ∈ duesE js d ↔ (e = d ∨ ∃ j ∈ js, j.2.2 = e) ∧ d ≤ e := by
  unfold duesE
  rw [List.mem_cons, List.mem_map]
  constructor
  · rintro (h | ⟨j, hj, z⟩)
    · exact ⟨.inl h, by omega⟩
    · obtain ⟨h1, h2⟩ := List.mem_filter.mp hj
      have := of_decide_eq_true h2
      exact ⟨.inr ⟨j, h1, z⟩, by omega⟩
  · rintro ⟨h | ⟨j, hj, z⟩, hb⟩
    · exact .inl h
    · by_cases g : e = d
      · exact .inl g
      · exact .inr ⟨j, List.mem_filter.mpr ⟨hj, decide_eq_true (by omega)⟩, z⟩
theorem least_le (js : List T3) (c d : Int) : leastM js c d ≤ d - c := (minB_le js _ _ _).1
theorem least_all (js : List T3) (c d : Int) : ∀ b e : Int, b ≤ c → d ≤ e → loadJ js b e + leastM js c d ≤ e - b := by
  refine room_seen fun b e hb hbc he hde => ?_
  have := (minB_le js (duesE js d) (comesB js c) (d - c)).2 b (mem_comesB.mpr ⟨hb, hbc⟩) e (mem_duesE.mpr ⟨he, hde⟩)
  unfold leastM
  omega
theorem least_nn {js : List T3} (S : Sound js) (N : NoLate js (runM js)) {c d : Int} (h : c < d) : 0 ≤ leastM js c d := by
  unfold leastM
  rcases minB_mem js (duesE js d) (comesB js c) (d - c) with g | ⟨b, hb, e, he, g⟩
  · omega
  · have h1 := (mem_comesB.mp hb).2
    have h2 := (mem_duesE.mp he).2
    have := load_le (run_ok S) N (show b ≤ e by omega)
    omega
theorem least_fits {js : List T3} (S : Sound js) (N : NoLate js (runM js)) {c d : Int} (h0 : 0 ≤ c) (h : c < d) (at_ : Nat) (hp : 0 < leastM js c d) :
    NoLate (putJ js at_ (c, leastM js c d, d)) (runM (putJ js at_ (c, leastM js c d, d))) := by
  rw [noLate_putIn S N at_ (j := (c, leastM js c d, d)) ⟨h0, by show 1 ≤ leastM js c d; omega, h⟩]
  exact fun b e h1 h2 => least_all js c d b e h1 h2
theorem least_most {js : List T3} (S : Sound js) (N : NoLate js (runM js)) {c d : Int} (h0 : 0 ≤ c) (h : c < d) (at_ : Nat) :
    ¬ NoLate (putJ js at_ (c, leastM js c d + 1, d)) (runM (putJ js at_ (c, leastM js c d + 1, d))) := by
  have nn := least_nn S N h
  rw [noLate_putIn S N at_ (j := (c, leastM js c d + 1, d)) ⟨h0, by show 1 ≤ leastM js c d + 1; omega, h⟩]
  intro z
  rcases minB_mem js (duesE js d) (comesB js c) (d - c) with g | ⟨b, hb, e, he, g⟩
  · have := z c d (Int.le_refl _) (Int.le_refl _)
    have := load_nn S c d
    unfold leastM at *
    dsimp only at *
    omega
  · have := z b e (mem_comesB.mp hb).2 (mem_duesE.mp he).2
    unfold leastM at *
    dsimp only at *
    omega
end DL
/-! lists of triples in the heap -/
namespace DL
open PySem PySem.Spec PyProof.Rows L2 Evl
abbrev St := L2.St
def tv (j : T3) : List V := [.int j.1, .int j.2.1, .int j.2.2]
abbrev AtT (H : Hp) (t : Addr) (j : T3) : Prop := H t = some (.tup (tv j))
abbrev Tps (H : Hp) : List Addr → List T3 → Prop := Paired (AtT H)
def TL (H : Hp) (p : Addr) (js : List T3) : Prop := ∃ ts : List Addr, H p = some (.lst (ts.map V.ref)) ∧ Tps H ts js
def IL (H : Hp) (p : Addr) (ns : List Int) : Prop := H p = some (.lst (ns.map V.int))
theorem Tps.mono {H H' : Hp} (e : Ex H H') : ∀ {ts : List Addr} {js : List T3}, Tps H ts js → Tps H' ts js
  | _, _, .nil => .nil
  | _, _, .cons r s => .cons (e _ _ r) (Tps.mono e s)
theorem TL.mono {H H' : Hp} {p : Addr} {js : List T3} (e : Ex H H') (h : TL H p js) : TL H' p js := by
  obtain ⟨ts, h1, h2⟩ := h
  exact ⟨ts, e _ _ h1, Tps.mono e h2⟩
theorem IL.mono {H H' : Hp} {p : Addr} {ns : List Int} (e : Ex H H') (h : IL H p ns) : IL H' p ns := e _ _ h
theorem Tps.append {H : Hp} : ∀ {ts us : List Addr} {js ks : List T3}, Tps H ts js → Tps H us ks → Tps H (ts ++ us) (js ++ ks)
  | _, _, _, _, .nil, s => s
  | _, _, _, _, .cons r t, s => .cons r (Tps.append t s)
theorem Tps.take {H : Hp} : ∀ {ts : List Addr} {js : List T3} (n : Nat), Tps H ts js → Tps H (ts.take n) (js.take n)
  | _, _, 0, _ => .nil
  | _, _, _ + 1, .nil => .nil
  | _, _, n + 1, .cons r t => .cons r (Tps.take n t)
theorem Tps.drop {H : Hp} : ∀ {ts : List Addr} {js : List T3} (n : Nat), Tps H ts js → Tps H (ts.drop n) (js.drop n)
  | _, _, 0, r => r
  | _, _, _ + 1, .nil => .nil
  | _, _, n + 1, .cons _ t => Tps.drop n t
theorem Tps.len {H : Hp} {ts : List Addr} {js : List T3} (h : Tps H ts js) : ts.length = js.length := Paired.length h
theorem Tps.get {H : Hp} : ∀ {ts : List Addr} {js : List T3} {i : Nat} {j : T3}, Tps H ts js → js[i]? = some j → ∃ t, ts[i]? = some t ∧ AtT H t j
  | _, _, _, _, .nil, e => by simp at e
  | _, _, 0, _, .cons r _, e => by
    have e' := Option.some.inj e
    subst e'
    exact ⟨_, rfl, r⟩
  | _, _, i + 1, j, .cons _ t, e => Tps.get (i := i) (j := j) t e
theorem Tps.getA {H : Hp} {ts : List Addr} {js : List T3} {i : Nat} {t : Addr} (h : Tps H ts js) (e : ts[i]? = some t) : ∃ j, js[i]? = some j ∧ AtT H t j := by
  have hi : i < js.length := by
    rw [← h.len]; exact (List.getElem?_eq_some_iff.mp e).1
  obtain ⟨u, e2, a⟩ := h.get (List.getElem?_eq_getElem hi)
  rw [e] at e2
  cases e2
  exact ⟨_, List.getElem?_eq_getElem hi, a⟩
theorem Tps.inj {H : Hp} : ∀ {ts : List Addr} {js ks : List T3}, Tps H ts js → Tps H ts ks → js = ks
  | _, _, _, .nil, .nil => rfl
  | _, _, _, .cons (a := t) r s, .cons r' s' => by
    have e : tv _ = tv _ := HO.tup.inj (Option.some.inj (r.symm.trans r'))
    rw [Tps.inj s s']
    congr 1
    unfold tv at e
    simp only [List.cons.injEq, V.int.injEq, and_true] at e
    obtain ⟨e1, e2, e3⟩ := e
    exact Prod.ext e1 (Prod.ext e2 e3)
theorem TL.nil {H : Hp} {p : Addr} (h : H p = some (.lst [])) : TL H p [] := ⟨[], h, .nil⟩
theorem TL.atI {H : Hp} {p : Addr} {js : List T3} {i : Nat} {j : T3} (h : TL H p js) (e : js[i]? = some j) : ∃ (t : Addr) (ts : List Addr), H p = some (HO.lst (ts.map V.ref)) ∧ (ts.map V.ref)[i]? = some (V.ref t) ∧ AtT H t j := by
  obtain ⟨ts, h1, h2⟩ := h
  obtain ⟨t, e1, a⟩ := h2.get e
  exact ⟨t, ts, h1, by rw [List.getElem?_map, e1]; rfl, a⟩
theorem Tps.keep {H H' : Hp} : ∀ {ts : List Addr} {js : List T3}, (∀ t xs, H t = some (.tup xs) → H' t = some (.tup xs)) → Tps H ts js → Tps H' ts js
  | _, _, _, .nil => .nil
  | _, _, k, .cons r s => .cons (k _ _ r) (Tps.keep k s)
theorem tup_upd {H : Hp} {l : Addr} {xs ys : List V} (hl : H l = some (.lst xs)) : ∀ t zs, H t = some (.tup zs) → (upd H l (.lst ys)) t = some (.tup zs) := fun t zs e => by
  rw [upd_ne (ne_of e hl (by intro q; cases q))]
  exact e
theorem TL.updL {H : Hp} {p l : Addr} {js : List T3} {xs ys : List V} (h : TL H p js) (hl : H l = some (.lst xs)) (ne : p ≠ l) : TL (L2.upd H l (HO.lst ys)) p js := by
  obtain ⟨ts, h1, h2⟩ := h
  exact ⟨ts, by rw [upd_ne ne]; exact h1, h2.keep (tup_upd hl)⟩
theorem TL.put {H : Hp} {l : Addr} {js : List T3} {ts : List Addr} {xs : List V} (hl : H l = some (.lst xs)) (h : Tps H ts js) : TL (L2.upd H l (HO.lst (ts.map V.ref))) l js :=
  ⟨ts, upd_same, h.keep (tup_upd hl)⟩
theorem TL.sq {K : PySem.W.Frag} {H : Hp} {p : Addr} {js : List T3} (h : TL H p js) : ∃ xs, SqL K H p xs ∧ xs.length = js.length := by
  obtain ⟨ts, h1, h2⟩ := h
  exact ⟨_, SqL.of h1, by rw [List.length_map, h2.len]⟩
/-- equality of lists of triples, as == tells it -/
def tD (j : T3) : PyData := .tuple [.int j.1, .int j.2.1, .int j.2.2]
theorem depth_ints0 : ∀ ns : List Int, PyData.depthAll (ns.map PyData.int) ≤ 0
  | [] => by decide
  | n :: ns => by
    have h := depth_ints0 ns
    show max (PyData.int n).depth (PyData.depthAll (ns.map PyData.int)) ≤ 0
    have h1 : (PyData.int n).depth ≤ 0 := Nat.le_refl 0
    omega
theorem dp_tup {K : PySem.W.Frag} {H : Hp} {t : Addr} {j : T3} (h : AtT H t j) : Dp K H (.ref t) (tD j) := .tup (SqT.of h) (.cons (.int _) (.cons (.int _) (.cons (.int _) .nil)))
theorem dp_all {K : PySem.W.Frag} {H : Hp} : ∀ {ts : List Addr} {js : List T3}, Tps H ts js → DpAll K H (ts.map V.ref) (js.map tD)
  | _, _, .nil => .nil
  | _, _, .cons r s => .cons (dp_tup r) (dp_all s)
theorem TL.dp {K : PySem.W.Frag} {H : Hp} {p : Addr} {js : List T3} (h : TL H p js) : Dp K H (.ref p) (.list (js.map tD)) := by
  obtain ⟨ts, h1, h2⟩ := h
  exact .lst (SqL.of h1) (dp_all h2)
theorem dp_ints {K : PySem.W.Frag} {H : Hp} : ∀ ns : List Int, DpAll K H (ns.map V.int) (ns.map PyData.int)
  | [] => .nil
  | n :: ns => .cons (.int n) (dp_ints ns)
theorem IL.dp {K : PySem.W.Frag} {H : Hp} {p : Addr} {ns : List Int} (h : IL H p ns) : Dp K H (.ref p) (.list (ns.map PyData.int)) := .lst (SqL.of h) (dp_ints ns)
theorem lay_trip : ∀ js : List T3, PyData.canLayAll0 (js.map tD) = true
  | [] => rfl
  | j :: js => by
    show (PyData.canLay0 (tD j) && PyData.canLayAll0 (js.map tD)) = true
    rw [lay_trip js]
    rfl
theorem lay_ints : ∀ ns : List Int, PyData.canLayAll0 (ns.map PyData.int) = true
  | [] => rfl
  | n :: ns => by
    show (PyData.canLay0 (.int n) && PyData.canLayAll0 (ns.map PyData.int)) = true
    rw [lay_ints ns]
    rfl
theorem dep_trip : ∀ js : List T3, PyData.depthAll (js.map tD) ≤ 2
  | [] => by decide
  | j :: js => by
    have h := dep_trip js
    show max (tD j).depth (PyData.depthAll (js.map tD)) ≤ 2
    have h1 : (tD j).depth ≤ 2 := by
      show PyData.depthAll [PyData.int j.1, PyData.int j.2.1, PyData.int j.2.2] + 1 ≤ 2
      have := depth_ints0 [j.1, j.2.1, j.2.2]
      exact Nat.succ_le_succ (Nat.le_trans this (by decide))
    omega
theorem sh_trip (js : List T3) : SeqAt.shaped (.list (js.map tD)) = true := by
  unfold SeqAt.shaped
  rw [Bool.and_eq_true]
  refine ⟨lay_trip js, decide_eq_true ?_⟩
  have := dep_trip js
  show PyData.depthAll _ + 1 ≤ 64
  omega
theorem sh_ints (ns : List Int) : SeqAt.shaped (.list (ns.map PyData.int)) = true := by
  unfold SeqAt.shaped
  rw [Bool.and_eq_true]
  refine ⟨lay_ints ns, decide_eq_true ?_⟩
  have := depth_ints ns
  show PyData.depthAll _ + 1 ≤ 64
  omega
theorem eqv_trip (js : List T3) : PyData.eqv (.list (js.map tD)) (.list (js.map tD)) = true := SeqAt.eqv_refl _ (lay_trip js)
theorem eqv_tD (j k : T3) : PyData.eqv (tD j) (tD k) = decide (j = k) := by
  obtain ⟨a, b, c⟩ := j
  obtain ⟨d, e, f⟩ := k
  show ((a == d) && ((b == e) && ((c == f) && true))) = _
  rw [Bool.eq_iff_iff]
  simp
theorem eqvAll_trip : ∀ js ks : List T3, PyData.eqvAll (js.map tD) (ks.map tD) = decide (js = ks)
  | [], [] => rfl
  | [], _ :: _ => rfl
  | _ :: _, [] => rfl
  | j :: js, k :: ks => by
    show (PyData.eqv (tD j) (tD k) && PyData.eqvAll (js.map tD) (ks.map tD)) = _
    rw [eqv_tD, eqvAll_trip js ks, Bool.eq_iff_iff]
    simp
theorem eqvAll_ints : ∀ js ks : List Int, PyData.eqvAll (js.map PyData.int) (ks.map PyData.int) = decide (js = ks)
  | [], [] => rfl
  | [], _ :: _ => rfl
  | _ :: _, [] => rfl
  | j :: js, k :: ks => by
    show ((j == k) && PyData.eqvAll (js.map PyData.int) (ks.map PyData.int)) = _
    rw [eqvAll_ints js ks, Bool.eq_iff_iff]
    simp
theorem eqv_ints (js ks : List Int) : PyData.eqv (.list (js.map PyData.int)) (.list (ks.map PyData.int)) = decide (js = ks) := eqvAll_ints js ks

/-! ### values: == and != of lists -/
section
variable {K : PySem.W.Frag} {σ : St} {H H' : Hp} {ta tb te : TE} {t' : TT} {D : Ends} {tu tz : TS} {g : TG} {p q : Addr}
theorem rv_eqT {js ks : List T3} (h : TL H p js) (h' : TL H q ks) : RV (rEqD K) (.ref p) (.ref q) H (.bl (decide (js = ks))) := fun H1 e Q k =>
  ⟨_, _, (h.mono e).dp, (h'.mono e).dp, sh_trip js, sh_trip ks, by
    show Q (.bl (PyData.eqvAll (js.map tD) (ks.map tD))) H1
    rw [eqvAll_trip]; exact k H1 (Ex.refl H1)⟩
theorem rv_neT {js ks : List T3} (h : TL H p js) (h' : TL H q ks) : RV (rNeD K) (.ref p) (.ref q) H (.bl (!decide (js = ks))) := fun H1 e Q k =>
  ⟨_, _, (h.mono e).dp, (h'.mono e).dp, sh_trip js, sh_trip ks, by
    show Q (.bl (!PyData.eqvAll (js.map tD) (ks.map tD))) H1
    rw [eqvAll_trip]; exact k H1 (Ex.refl H1)⟩
theorem rv_eqN {js ks : List Int} (h : IL H p js) (h' : IL H q ks) : RV (rEqD K) (.ref p) (.ref q) H (.bl (decide (js = ks))) := fun H1 e Q k =>
  ⟨_, _, (h.mono e).dp, (h'.mono e).dp, sh_ints js, sh_ints ks, by
    show Q (.bl (PyData.eqvAll (js.map PyData.int) (ks.map PyData.int))) H1
    rw [eqvAll_ints]; exact k H1 (Ex.refl H1)⟩
theorem rv_neN {js ks : List Int} (h : IL H p js) (h' : IL H q ks) : RV (rNeD K) (.ref p) (.ref q) H (.bl (!decide (js = ks))) := fun H1 e Q k =>
  ⟨_, _, (h.mono e).dp, (h'.mono e).dp, sh_ints js, sh_ints ks, by
    show Q (.bl (!PyData.eqvAll (js.map PyData.int) (ks.map PyData.int))) H1
    rw [eqvAll_ints]; exact k H1 (Ex.refl H1)⟩

/-! ### what is walked -/
theorem for_TL {js : List T3} (Pv : Nat → St → Hp → Prop) (h0 : Pv 0 σ H) (hl : ∀ i σ H, i ≤ js.length → Pv i σ H → TL H p js)
    (hs : ∀ i q t σ H, js[i]? = some q → AtT H t q → Pv i σ H → g (.ref t) σ H fun σ2 H2 => tu { D with nx := Pv (i + 1), ct := Pv (i + 1), bk := D.nx } σ2 H2) (hd : ∀ σ H, Pv js.length σ H → D.nx σ H) :
    ∃ W : Nat → Nat → St → Hp → Prop, (∃ m, W 0 m σ H) ∧ ∀ i m σ H, W i m σ H →
      ((Itl K p).stop i H ∧ D.nx σ H) ∨ ((Itl K p).go i H ∧ ∃ N : St → Hp → Prop, (∀ σ' H', N σ' H' → ∃ m', m' < m ∧ W (i + 1) m' σ' H') ∧ ∀ x H', (Itl K p).yld i H x H' → g x σ H' fun σ2 H2 => tu { D with nx := N, ct := N, bk := D.nx } σ2 H2) := by
  refine ⟨fun i m σ H => m = js.length - i ∧ i ≤ js.length ∧ Pv i σ H, ⟨js.length, by simp, Nat.zero_le _, h0⟩, ?_⟩
  rintro i m σ H ⟨rfl, hi, pv⟩
  have q := hl i σ H hi pv
  by_cases hlt : i < js.length
  · obtain ⟨t, ts, h1, h2, a⟩ := q.atI (List.getElem?_eq_getElem hlt)
    refine .inr ⟨⟨_, _, SqL.of h1, h2⟩, Pv (i + 1), fun σ' H' p' => ⟨js.length - (i + 1), by omega, rfl, hlt, p'⟩, fun x H' y => ?_⟩
    obtain ⟨e, y⟩ := y
    subst e
    have z := (y _ (SqL.of h1)).symm.trans h2
    cases z
    exact hs i _ t σ _ (List.getElem?_eq_getElem hlt) a pv
  · have e : i = js.length := by omega
    subst e
    obtain ⟨xs, h1, h2⟩ := q.sq (K := K)
    exact .inl ⟨⟨xs, h1, by omega⟩, hd σ H pv⟩
theorem s_forTL {js : List T3} {tl : TE} (h : Ev tl σ H (.ref p)) (hx : TL H p js) (Pv : Nat → St → Hp → Prop) (h0 : ∀ H1, Ex H H1 → Pv 0 σ H1) (hl : ∀ i σ H, i ≤ js.length → Pv i σ H → TL H p js)
    (hs : ∀ i q t σ H, js[i]? = some q → AtT H t q → Pv i σ H → g (.ref t) σ H fun σ2 H2 => tu { D with nx := Pv (i + 1), ct := Pv (i + 1), bk := D.nx } σ2 H2) (hd : ∀ σ H, Pv js.length σ H → D.nx σ H) : tFor (iList K tl) g tu D σ H :=
  h H (Ex.refl H) _ fun H1 e => ⟨p, rfl, (by obtain ⟨xs, h1, _⟩ := (hx.mono e).sq (K := K); exact ⟨xs, h1⟩), for_TL Pv (h0 H1 e) hl hs hd⟩
theorem q_forTL {js : List T3} {tl : TE} (h : Ev tl σ H (.ref p)) (hx : TL H p js) (Pv : Nat → St → Hp → Prop) (h0 : ∀ H1, Ex H H1 → Pv 0 σ H1) (hl : ∀ i σ H, i ≤ js.length → Pv i σ H → TL H p js)
    (hs : ∀ i q t σ H, js[i]? = some q → AtT H t q → Pv i σ H → g (.ref t) σ H fun σ2 H2 => tu { D with nx := Pv (i + 1), ct := Pv (i + 1), bk := tz D } σ2 H2) (hd : ∀ σ H, Pv js.length σ H → tz D σ H) : tSeq (tFor (iList K tl) g tu) tz D σ H :=
  s_forTL (D := { D with nx := tz D }) h hx Pv h0 hl hs hd
/-- a target of three names -/
theorem g_three {a b c : Nat} {t : Addr} {j : T3} {Q : St → Hp → Prop} (ht : AtT H t j) (h : Q (((σ.set a (some (.int j.1))).set b (some (.int j.2.1))).set c (some (.int j.2.2))) H) :
    gTup K 3 (gCons (gName a) (gCons (gName b) (gCons (gName c) gNil))) (.ref t) σ H Q :=
  ⟨t, tv j, rfl, SqT.of ht, rfl, _, _, rfl, _, _, rfl, _, _, rfl, rfl, h⟩

/-! ### comprehensions over a list of triples -/
theorem filter_snoc {js : List T3} {i : Nat} {q : T3} (f : T3 → Bool) (h : js[i]? = some q) : (js.take (i + 1)).filter f = (js.take i).filter f ++ if f q = true then [q] else [] := by
  rw [List.take_add_one, h, List.filter_append]
  congr 1
  show [q].filter f = _
  rw [List.filter_cons]
  rfl
theorem filter_take_le (js : List T3) (f : T3 → Bool) (i : Nat) : ((js.take i).filter f).length ≤ js.length :=
  Nat.le_trans (List.length_filter_le _ _) (by rw [List.length_take]; exact Nat.min_le_right _ _)
theorem el_lcTL {js : List T3} {tl : TE} {vs : List Nat} (f : T3 → Bool) (v : T3 → V) (s2 : T3 → Addr → St) (h : Ev tl σ H (.ref p)) (hx : TL H p js) (hz : js.length ≤ 40000)
    (hg : ∀ q t H1 (Q : St → Hp → Prop), AtT H1 t q → Q (s2 q t) H1 → g (.ref t) (wipe σ vs) H1 Q) (hw : ∀ q t, wipe (s2 q t) vs = wipe σ vs)
    (ht : ∀ q t H1, q ∈ js → Ex H H1 → AtT H1 t q → EvT t' (s2 q t) H1 (f q)) (he : ∀ q t H1, q ∈ js → Ex H H1 → AtT H1 t q → f q = true → Ev te (s2 q t) H1 (v q)) :
    EvL (tLc (iList K tl) g t' te vs) σ H ((js.filter f).map v) := fun H0 e Q k => h H0 e _ fun H1 e1 => by
  obtain ⟨ts, h1, h2⟩ := hx.mono (e.trans e1)
  refine ⟨p, rfl, ⟨_, SqL.of h1⟩, fun Dl hD => ?_⟩
  have hlen : (ts.map V.ref).length = js.length := by rw [List.length_map, h2.len]
  refine lc_list (K := K) (xs := ts.map V.ref) (fun i H' => Ex H1 H' ∧ H' Dl = some (.lst (((js.take i).filter f).map v))) ⟨Ex.new hD, upd_same⟩ (fun i H' _ p => SqL.of (p.1 _ _ h1)) (fun i x H' hi pv => ?_) fun H' pv => ?_
  · have hlt : i < js.length := by rw [← hlen]; exact (List.getElem?_eq_some_iff.mp hi).1
    obtain ⟨t, e2, a⟩ := h2.get (List.getElem?_eq_getElem hlt)
    rw [List.getElem?_map, e2] at hi
    cases hi
    obtain ⟨p1, p2⟩ := pv
    have hm : js[i] ∈ js := List.getElem_mem hlt
    have eb := (e.trans e1).trans p1
    refine hg js[i] t H' _ (p1 _ _ a) ⟨hw _ _, ?_⟩
    refine ht js[i] t H' hm eb (p1 _ _ a) H' (Ex.refl _) _ fun H3 e3 => ?_
    have hs := filter_snoc f (List.getElem?_eq_getElem hlt)
    cases hf : f js[i] with
    | true =>
      show te _ H3 _
      refine he js[i] t H3 hm (eb.trans e3) (e3 _ _ (p1 _ _ a)) hf H3 (Ex.refl _) _ fun H4 e4 => ?_
      refine ⟨_, e4 _ _ (e3 _ _ p2), sz_lt ?_, Ex.mut ((p1.trans e3).trans e4) hD, ?_⟩
      · rw [List.length_map]
        have := filter_take_le js f i
        omega
      · rw [hs, hf, if_pos rfl, List.map_append]
        exact upd_same
    | false =>
      show Ex H1 H3 ∧ _
      refine ⟨p1.trans e3, ?_⟩
      rw [hs, hf]
      show H3 Dl = some (.lst ((((js.take i).filter f) ++ []).map v))
      rw [List.append_nil]
      exact e3 _ _ p2
  · obtain ⟨p1, p2⟩ := pv
    rw [hlen, List.take_length] at p2
    exact k Dl H' (fresh_back e1 hD) (e1.trans p1) p2
/-- a new list of triples -/
def EvTL (te : TE) (σ : St) (H : Hp) (js : List T3) : Prop := ∀ H1, Ex H H1 → ∀ Q : VK, (∀ p H2, H1 p = none → Ex H1 H2 → TL H2 p js → Q (.ref p) H2) → te σ H1 Q
theorem EvTL.mono {js : List T3} (e : Ex H H') (h : EvTL te σ H js) : EvTL te σ H' js := fun H1 a Q q => h H1 (e.trans a) Q q
theorem etl_lc {js : List T3} {tl : TE} {vs : List Nat} (f : T3 → Bool) (v : T3 → T3) (s2 : T3 → Addr → St) (h : Ev tl σ H (.ref p)) (hx : TL H p js) (hz : js.length ≤ 40000)
    (hg : ∀ q t H1 (Q : St → Hp → Prop), AtT H1 t q → Q (s2 q t) H1 → g (.ref t) (wipe σ vs) H1 Q) (hw : ∀ q t, wipe (s2 q t) vs = wipe σ vs)
    (ht : ∀ q t H1, q ∈ js → Ex H H1 → AtT H1 t q → EvT t' (s2 q t) H1 (f q)) (he : ∀ q t H1, q ∈ js → Ex H H1 → AtT H1 t q → f q = true → EvU te (s2 q t) H1 (tv (v q)) ∨ (v q = q ∧ Ev te (s2 q t) H1 (.ref t))) :
    EvTL (tLc (iList K tl) g t' te vs) σ H ((js.filter f).map v) := fun H0 e Q k => h H0 e _ fun H1 e1 => by
  obtain ⟨ts, h1, h2⟩ := hx.mono (e.trans e1)
  refine ⟨p, rfl, ⟨_, SqL.of h1⟩, fun Dl hD => ?_⟩
  have hlen : (ts.map V.ref).length = js.length := by rw [List.length_map, h2.len]
  refine lc_list (K := K) (xs := ts.map V.ref) (fun i H' => Ex H1 H' ∧ ∃ us : List Addr, H' Dl = some (.lst (us.map V.ref)) ∧ Tps H' us (((js.take i).filter f).map v)) ⟨Ex.new hD, [], upd_same, .nil⟩ (fun i H' _ p => SqL.of (p.1 _ _ h1)) (fun i x H' hi pv => ?_) fun H' pv => ?_
  · have hlt : i < js.length := by rw [← hlen]; exact (List.getElem?_eq_some_iff.mp hi).1
    obtain ⟨t, e2, a⟩ := h2.get (List.getElem?_eq_getElem hlt)
    rw [List.getElem?_map, e2] at hi
    cases hi
    obtain ⟨p1, us, p2, p3⟩ := pv
    have hm : js[i] ∈ js := List.getElem_mem hlt
    have eb := (e.trans e1).trans p1
    refine hg js[i] t H' _ (p1 _ _ a) ⟨hw _ _, ?_⟩
    refine ht js[i] t H' hm eb (p1 _ _ a) H' (Ex.refl _) _ fun H3 e3 => ?_
    have hs := filter_snoc f (List.getElem?_eq_getElem hlt)
    have hul : us.length < 100000 := by
      rw [p3.len, List.length_map]
      have := filter_take_le js f i
      omega
    cases hf : f js[i] with
    | true =>
      show te _ H3 _
      have fin : ∀ (u : Addr) (H4 : Hp), Ex H3 H4 → AtT H4 u (v js[i]) → ∃ acc, H4 Dl = some (.lst acc) ∧ acc.length < sizeLine ∧ (Ex H1 (upd H4 Dl (.lst (acc ++ [V.ref u]))) ∧ ∃ us' : List Addr, (upd H4 Dl (.lst (acc ++ [V.ref u]))) Dl = some (.lst (us'.map V.ref)) ∧ Tps (upd H4 Dl (.lst (acc ++ [V.ref u]))) us' (((js.take (i + 1)).filter f).map v)) := fun u H4 e4 hu => by
        have hDl := e4 _ _ (e3 _ _ p2)
        refine ⟨_, hDl, sz_lt (by rw [List.length_map]; exact hul), Ex.mut ((p1.trans e3).trans e4) hD, us ++ [u], ?_, ?_⟩
        · rw [List.map_append]; exact upd_same
        · rw [hs, hf, if_pos rfl, List.map_append]
          exact Tps.append ((p3.mono (e3.trans e4)).keep (tup_upd hDl)) (.cons (tup_upd hDl _ _ hu) .nil)
      rcases he js[i] t H3 hm (eb.trans e3) (e3 _ _ (p1 _ _ a)) hf with z | ⟨z1, z2⟩
      · exact z H3 (Ex.refl _) _ fun u H4 _ e4 hu => fin u H4 e4 hu
      · exact z2 H3 (Ex.refl _) _ fun H4 e4 => fin t H4 e4 (by rw [z1]; exact e4 _ _ (e3 _ _ (p1 _ _ a)))
    | false =>
      show Ex H1 H3 ∧ _
      refine ⟨p1.trans e3, us, e3 _ _ p2, ?_⟩
      rw [hs, hf]
      show Tps H3 us ((((js.take i).filter f) ++ []).map v)
      rw [List.append_nil]
      exact p3.mono e3
  · obtain ⟨p1, us, p2, p3⟩ := pv
    rw [hlen, List.take_length] at p3
    exact k Dl H' (fresh_back e1 hD) (e1.trans p1) ⟨us, p2, p3⟩
theorem s_asgTL {i : Nat} {js : List T3} (h : EvTL te σ H js) (k : ∀ p H1, H p = none → Ex H H1 → TL H1 p js → D.nx (σ.set i (some (.ref p))) H1) : tAsg te (gName i) D σ H := h H (Ex.refl H) _ fun p H1 hp e h1 => k p H1 hp e h1
theorem q_asgTL {i : Nat} {js : List T3} (h : EvTL te σ H js) (k : ∀ p H1, H p = none → Ex H H1 → TL H1 p js → tz D (σ.set i (some (.ref p))) H1) : tSeq (tAsg te (gName i)) tz D σ H := s_asgTL (D := { D with nx := tz D }) h k
theorem s_retTL {js : List T3} (h : EvTL te σ H js) (k : ∀ p H1, H p = none → Ex H H1 → TL H1 p js → D.rt (.ref p) H1) : tRet te D σ H := h H (Ex.refl H) _ k
theorem etl_list {js : List T3} (ha : Ev ta σ H (.ref p)) (h : TL H p js) : EvTL (tCB (rListS K) (tCons ta tNil)) σ H js := fun H1 e Q q =>
  ha H1 e _ fun H2 e2 => by
    obtain ⟨ts, h1, h2⟩ := h.mono (e.trans e2)
    exact ⟨p, _, rfl, Or.inl (SqL.of h1), fun l hl => q l _ (fresh_back e2 hl) (e2.trans (Ex.new hl)) ⟨ts, upd_same, h2.mono (Ex.new hl)⟩⟩
end
end DL
namespace DL
open PySem PySem.Spec PyProof.Rows L2 Evl
theorem cut_take (xs : List V) (n : Nat) : cutV xs none (some (n : Int)) = xs.take n := by
  unfold cutV
  rw [HT.sIx_none, HT.sIx_nat]
  show (xs.drop 0).take (min n xs.length - 0) = _
  rw [List.drop_zero, Nat.sub_zero]
  rcases Nat.le_total n xs.length with h | h
  · rw [Nat.min_eq_left h]
  · rw [Nat.min_eq_right h, List.take_of_length_le (Nat.le_refl _), List.take_of_length_le h]
theorem cut_drop (xs : List V) (n : Nat) : cutV xs (some (n : Int)) none = xs.drop n := by
  unfold cutV
  rw [HT.sIx_none, HT.sIx_nat]
  rcases Nat.le_total n xs.length with h | h
  · rw [Nat.min_eq_left h]
    exact List.take_of_length_le (by rw [List.length_drop]; exact Nat.le_refl _)
  · rw [Nat.min_eq_right h, List.drop_of_length_le h, List.drop_of_length_le (Nat.le_refl _), List.take_nil]
theorem cut_init (xs : List V) : cutV xs none (some (-1)) = xs.dropLast := by
  unfold cutV
  rw [HT.sIx_none]
  have e : HT.sIx xs.length xs.length (some (-1)) = xs.length - 1 := by
    unfold HT.sIx
    simp
    omega
  rw [e, List.dropLast_eq_take]
  rfl
theorem t3_0 (j : T3) : atI (tv j) 0 = some (.int j.1) := atI_nat (j := 0) rfl
theorem t3_1 (j : T3) : atI (tv j) 1 = some (.int j.2.1) := atI_nat (j := 1) rfl
theorem t3_2 (j : T3) : atI (tv j) 2 = some (.int j.2.2) := atI_nat (j := 2) rfl
/-- all but the list at l is kept, tuples in any case -/
structure Mod (l : Addr) (H H1 : Hp) : Prop where
  but : ∀ a o, a ≠ l → H a = some o → H1 a = some o
  tup : ∀ t zs, H t = some (.tup zs) → H1 t = some (.tup zs)
theorem Mod.upd {l : Addr} {H : Hp} {xs ys : List V} (h : H l = some (.lst xs)) : Mod l H (L2.upd H l (.lst ys)) := ⟨fun a o ne e => by rw [upd_ne ne]; exact e, tup_upd h⟩
theorem Mod.ex {l : Addr} {H H1 : Hp} (e : Ex H H1) : Mod l H H1 := ⟨fun a o _ h => e a o h, fun t zs h => e _ _ h⟩
theorem Mod.trans {l : Addr} {H H1 H2 : Hp} (a : Mod l H H1) (b : Mod l H1 H2) : Mod l H H2 := ⟨fun c o ne h => b.but c o ne (a.but c o ne h), fun t zs h => b.tup t zs (a.tup t zs h)⟩
theorem Mod.base {l : Addr} {H0 H H1 : Hp} (m : Mod l H H1) (e : Ex H0 H) (n : H0 l = none) : Ex H0 H1 := fun a o h => m.but a o (ne_of_none h n) (e a o h)
theorem Mod.tps {l : Addr} {H H1 : Hp} (m : Mod l H H1) {ts : List Addr} {js : List T3} (h : Tps H ts js) : Tps H1 ts js := h.keep m.tup
theorem Mod.tl {l p : Addr} {H H1 : Hp} (m : Mod l H H1) {js : List T3} (h : TL H p js) (ne : p ≠ l) : TL H1 p js := by
  obtain ⟨ts, h1, h2⟩ := h
  exact ⟨ts, m.but _ _ ne h1, m.tps h2⟩
theorem Mod.il {l p : Addr} {H H1 : Hp} (m : Mod l H H1) {ns : List Int} (h : IL H p ns) (ne : p ≠ l) : IL H1 p ns := m.but _ _ ne h
section
variable {K : PySem.W.Frag} {σ : St} {H H' : Hp} {ta tb te ti : TE} {D : Ends} {tu tz : TS} {g : TG} {p q l : Addr} {js ks : List T3} {j : T3} {ns : List Int}
theorem etl_take {n : Nat} (h : Ev te σ H (.ref p)) (hi : Ev ti σ H (.int (n : Int))) (hp : TL H p js) : EvTL (tSl (rSlL K) te tNoPart (tPart ti)) σ H (js.take n) := fun H1 e Q k => by
  obtain ⟨ts, h1, h2⟩ := hp.mono e
  refine el_sl (K := K) (h.mono e) eo_none (eo_some (hi.mono e)) (SqL.of h1) H1 (Ex.refl _) Q fun d H2 hd e2 hl => k d H2 hd e2 ⟨ts.take n, ?_, (h2.mono e2).take n⟩
  rw [hl, cut_take, List.map_take]
theorem etl_drop {n : Nat} (h : Ev te σ H (.ref p)) (hi : Ev ti σ H (.int (n : Int))) (hp : TL H p js) : EvTL (tSl (rSlL K) te (tPart ti) tNoPart) σ H (js.drop n) := fun H1 e Q k => by
  obtain ⟨ts, h1, h2⟩ := hp.mono e
  refine el_sl (K := K) (h.mono e) (eo_some (hi.mono e)) eo_none (SqL.of h1) H1 (Ex.refl _) Q fun d H2 hd e2 hl => k d H2 hd e2 ⟨ts.drop n, ?_, (h2.mono e2).drop n⟩
  rw [hl, cut_drop, List.map_drop]
theorem etl_cat (ha : EvTL ta σ H js) (hb : EvTL tb σ H ks) (hz : js.length + ks.length ≤ 100000) : EvTL (tOp rCat ta tb) σ H (js ++ ks) := fun H1 e Q k =>
  ha H1 e _ fun a H2 na e2 pa => hb H2 (e.trans e2) _ fun b H3 nb e3 pb => by
    obtain ⟨ts, h1, h2⟩ := pa.mono e3
    obtain ⟨us, g1, g2⟩ := pb
    refine ⟨a, b, _, _, rfl, rfl, h1, g1, sz_of (by rw [List.length_map, List.length_map, h2.len, g2.len]; exact hz), fun d nd => k d _ (fresh_back (e2.trans e3) nd) ((e2.trans e3).trans (Ex.new nd)) ⟨ts ++ us, ?_, (h2.append g2).mono (Ex.new nd)⟩⟩
    rw [upd_same, List.map_append]
theorem etl_one (h : EvU te σ H (tv j)) : EvTL (tLst (tCons te tNil)) σ H [j] := fun H1 e Q k =>
  h H1 e _ fun t H2 nt e2 ht => ⟨sz_of (show 1 ≤ 100000 by decide), fun d nd => k d _ (fresh_back e2 nd) (e2.trans (Ex.new nd)) ⟨[t], upd_same, .cons (Ex.new nd _ _ ht) .nil⟩⟩
theorem etl_oneR {t : Addr} (h : Ev te σ H (.ref t)) (a : AtT H t j) : EvTL (tLst (tCons te tNil)) σ H [j] := fun H1 e Q k =>
  h H1 e _ fun H2 e2 => ⟨sz_of (show 1 ≤ 100000 by decide), fun d nd => k d _ (fresh_back e2 nd) (e2.trans (Ex.new nd)) ⟨[t], upd_same, .cons (Ex.new nd _ _ (e2 _ _ (e _ _ a))) .nil⟩⟩
theorem etl_nil : EvTL (tLst tNil) σ H [] := fun H1 e Q k => ⟨sz_of (by decide), fun d nd => k d _ nd (Ex.new nd) ⟨[], upd_same, .nil⟩⟩
theorem etl_is (h : EvTL te σ H js) (e : js = ks) : EvTL te σ H ks := e ▸ h
theorem eu_three {a b c : Int} (ha : Ev ta σ H (.int a)) (hb : Ev tb σ H (.int b)) (hc : Ev te σ H (.int c)) : EvU (tTup (tCons ta (tCons tb (tCons te tNil)))) σ H (tv (a, b, c)) :=
  eu_tup (ea_cons ha (ea_cons hb (ea_cons hc ea_nil))) (show 3 ≤ 100000 by decide)
theorem eu_is {xs ys : List V} (h : EvU te σ H xs) (e : xs = ys) : EvU te σ H ys := e ▸ h
theorem s_appT (hl : TL H l js) (ha : Ev ta σ H (.ref l)) (h : EvU te σ H (tv j)) (hz : js.length < 100000) (k : ∀ H1, Mod l H H1 → TL H1 l (js ++ [j]) → D.nx σ H1) :
    tDrop (tBM K "list" rAppend ta (tCons te tNil)) D σ H := by
  obtain ⟨ts, h1, h2⟩ := hl
  refine s_appU h1 ha h (by rw [List.length_map, h2.len]; exact hz) fun t H1 nt e ht => ?_
  have m : Mod l H (upd H1 l (.lst (ts.map V.ref ++ [.ref t]))) := (Mod.ex e).trans (Mod.upd (e _ _ h1))
  refine k _ m ⟨ts ++ [t], ?_, (m.tps h2).append (.cons (tup_upd (e _ _ h1) _ _ ht) .nil)⟩
  rw [upd_same, List.map_append]
  rfl
theorem q_appT (hl : TL H l js) (ha : Ev ta σ H (.ref l)) (h : EvU te σ H (tv j)) (hz : js.length < 100000) (k : ∀ H1, Mod l H H1 → TL H1 l (js ++ [j]) → tz D σ H1) :
    tSeq (tDrop (tBM K "list" rAppend ta (tCons te tNil))) tz D σ H := s_appT (D := { D with nx := tz D }) hl ha h hz k
/-- sums, leasts, greatests of new lists -/
theorem ev_sumN (h : EvL te σ H (ns.map V.int)) : Ev (tCB (rSum K) (tCons te tNil)) σ H (.int ns.sum) := fun H1 e Q k =>
  h H1 e _ fun a H2 _ e2 hl => ⟨a, ns, rfl, SqL.of hl, k H2 e2⟩
theorem ev_minN (h : EvL te σ H (ns.map V.int)) (h0 : ns ≠ []) : Ev (tCB (rMin K) (tCons te tNil)) σ H (.int (lmin ns)) := fun H1 e Q k =>
  h H1 e _ fun a H2 _ e2 hl => ⟨a, ns, rfl, SqL.of hl, List.length_pos_iff.mpr h0, fun m hm hle => by
    rw [lmin_uniq hm hle]; exact k H2 e2⟩
theorem ev_minD {d : Int} (h : EvL te σ H (ns.map V.int)) (hd : ∀ H1, Ex H H1 → Ev ti σ H1 (.int d)) : Ev (tCKw (rMinD K) (tCons te tNil) (tCons ti tNil)) σ H (.int (if ns = [] then d else lmin ns)) := fun H1 e Q k =>
  h H1 e _ fun a H2 _ e2 hl => hd H2 (e.trans e2) H2 (Ex.refl _) _ fun H3 e3 => ⟨a, ns, d, rfl, rfl, SqL.of (e3 _ _ hl), fun z => by
      have := k H3 (e2.trans e3); rw [if_pos z] at this; exact this, fun z m hm hle => by
      have := k H3 (e2.trans e3); rw [if_neg z] at this
      rw [lmin_uniq hm hle]; exact this⟩
theorem ev_allN {bs : List Bool} (h : EvL te σ H (bs.map V.bl)) : Ev (tCB (rAll K) (tCons te tNil)) σ H (.bl (bs.all id)) := fun H1 e Q k =>
  h H1 e _ fun a H2 _ e2 hl => ⟨a, bs, rfl, SqL.of hl, k H2 e2⟩
theorem ev_anyI (h : Ev te σ H (.ref p)) (hl : IL H p ns) : Ev (tCB (rAnyI K) (tCons te tNil)) σ H (.bl (ns.any fun n => n != 0)) := fun H1 e Q k =>
  h H1 e _ fun H2 e2 => ⟨p, ns, rfl, SqL.of (hl.mono (e.trans e2)), k H2 e2⟩
theorem ev_min2 {a b : Int} (ha : Ev ta σ H (.int a)) (hb : Ev tb σ H (.int b)) {r : List V → Hp → VK → Prop} (hr : ∀ H1 (Q : VK), Q (.int (if b < a then b else a)) H1 → r [.int a, .int b] H1 Q) : Ev (tCB r (tCons ta (tCons tb tNil))) σ H (.int (min a b)) := fun H1 e Q k =>
  ha H1 e _ fun H2 e2 => hb H2 (e.trans e2) _ fun H3 e3 => hr H3 Q (by
    have := k H3 (e2.trans e3)
    rw [Int.min_def] at this
    by_cases c : b < a
    · rw [if_pos c]; rw [if_neg (by omega)] at this; exact this
    · rw [if_neg c]; rw [if_pos (by omega)] at this; exact this)
theorem ev_mx2 {a b : Int} (ha : Ev ta σ H (.int a)) (hb : Ev tb σ H (.int b)) {r : List V → Hp → VK → Prop} (hr : ∀ H1 (Q : VK), Q (.int (if b > a then b else a)) H1 → r [.int a, .int b] H1 Q) : Ev (tCB r (tCons ta (tCons tb tNil))) σ H (.int (max a b)) := fun H1 e Q k =>
  ha H1 e _ fun H2 e2 => hb H2 (e.trans e2) _ fun H3 e3 => hr H3 Q (by
    have := k H3 (e2.trans e3)
    rw [Int.max_def] at this
    by_cases c : b > a
    · rw [if_pos c]; rw [if_pos (by omega)] at this; exact this
    · rw [if_neg c]
      by_cases d : a ≤ b
      · rw [if_pos d] at this; rw [show a = b by omega]; exact this
      · rw [if_neg d] at this; exact this)
/-- len of a tracked list -/
theorem ev_lenT (h : Ev te σ H (.ref p)) (hp : TL H p js) : Ev (tCB (rLenS K) (tCons te tNil)) σ H (.int (js.length : Int)) := by
  obtain ⟨ts, h1, h2⟩ := hp
  have := ev_len (K := K) h (SqL.of h1)
  rw [List.length_map, h2.len] at this
  exact this
theorem ev_lenI (h : Ev te σ H (.ref p)) (hp : IL H p ns) : Ev (tCB (rLenS K) (tCons te tNil)) σ H (.int (ns.length : Int)) := by
  have := ev_len (K := K) h (SqL.of hp)
  rw [List.length_map] at this
  exact this
theorem ev_lenU {xs : List V} (h : Ev te σ H (.ref p)) (hp : H p = some (.tup xs)) : Ev (tCB (rLenS K) (tCons te tNil)) σ H (.int (xs.length : Int)) := fun H1 e Q q =>
  h H1 e _ fun H2 e2 => ⟨p, xs, rfl, Or.inr (st_of (e2 _ _ (e _ _ hp))), q H2 e2⟩
/-- an item of a list of whole numbers -/
theorem il_at {i : Nat} (h : i < ns.length) : (ns.map V.int)[i]? = some (.int (ns.getD i 0)) := by
  rw [List.getElem?_map, List.getElem?_eq_getElem h, getD_lt h]
  rfl
theorem ev_ixI {i : Nat} (ha : Ev ta σ H (.ref p)) (hi : Ev ti σ H (.int (i : Int))) (hp : IL H p ns) (h : i < ns.length) : Ev (tOp (rIxL K) ta ti) σ H (.int (ns.getD i 0)) :=
  ev_op ha hi (rv_ixL (SqL.of hp) (atI_nat (il_at h)))
/-- a job's field by its place: jobs[i][0], .. -/
theorem ev_field {i : Nat} {z : Int} {v : V} (hj : js[i]? = some j) (ha : Ev ta σ H (.ref p)) (hi : Ev ti σ H (.int (i : Int))) (hp : TL H p js) (hz : Ev te σ H (.int z)) (hv : atI (tv j) z = some v) : Ev (tOp (rIxT K) (tOp (rIxL K) ta ti) te) σ H v := by
  obtain ⟨t, ts, h1, h2, a⟩ := hp.atI hj
  exact ev_op (ev_op ha hi (rv_ixL (SqL.of h1) (atI_nat h2))) hz (rv_ixT (SqT.of a) hv)
theorem ev_fld1 {t : Addr} {z : Int} {v : V} (ha : Ev ta σ H (.ref t)) (h : AtT H t j) (hz : Ev te σ H (.int z)) (hv : atI (tv j) z = some v) : Ev (tOp (rIxT K) ta te) σ H v := ev_op ha hz (rv_ixT (SqT.of h) hv)
/-- calls by their promise -/
theorem s_retC {sp : Sp} {dvs vs : List V} {E : XK} {ta : TA} (h : EvA ta σ H vs) (k : ∀ H1, Ex H H1 → sp (vs ++ dvs) H1 D.rt E) : tRet (tCall sp dvs E ta) D σ H := h H (Ex.refl H) _ k
theorem s_asgC {i : Nat} {sp : Sp} {dvs vs : List V} {E : XK} {ta : TA} (h : EvA ta σ H vs) (k : ∀ H1, Ex H H1 → sp (vs ++ dvs) H1 (fun x H2 => D.nx (σ.set i (some x)) H2) E) : tAsg (tCall sp dvs E ta) (gName i) D σ H := h H (Ex.refl H) _ k
theorem q_asgC {i : Nat} {sp : Sp} {dvs vs : List V} {E : XK} {ta : TA} (h : EvA ta σ H vs) (k : ∀ H1, Ex H H1 → sp (vs ++ dvs) H1 (fun x H2 => tz D (σ.set i (some x)) H2) E) : tSeq (tAsg (tCall sp dvs E ta) (gName i)) tz D σ H := h H (Ex.refl H) _ k
theorem s_dropC {sp : Sp} {dvs vs : List V} {E : XK} {ta : TA} (h : EvA ta σ H vs) (k : ∀ H1, Ex H H1 → sp (vs ++ dvs) H1 (fun _ H2 => D.nx σ H2) E) : tDrop (tCall sp dvs E ta) D σ H := h H (Ex.refl H) _ k
theorem q_dropC {sp : Sp} {dvs vs : List V} {E : XK} {ta : TA} (h : EvA ta σ H vs) (k : ∀ H1, Ex H H1 → sp (vs ++ dvs) H1 (fun _ H2 => tz D σ H2) E) : tSeq (tDrop (tCall sp dvs E ta)) tz D σ H := h H (Ex.refl H) _ k
end
end DL
namespace DL
open PySem PySem.Spec PyProof.Rows L2 Evl
section
variable {K : PySem.W.Frag} {σ : St} {H H' : Hp} {ta tb te ti : TE} {t' : TT} {D : Ends} {tu tz : TS} {g : TG} {p q l : Addr} {js ks : List T3} {j : T3} {ns : List Int}
theorem ev_type {x : V} {T : String} (h : Ev te σ H x) (ty : ∀ H1, Ex H H1 → TyB K H1 x T) : Ev (tCB (rTyp K) (tCons te tNil)) σ H (.ty T) := fun H1 e Q k =>
  h H1 e _ fun H2 e2 => ⟨x, T, rfl, ty H2 (e.trans e2), k H2 e2⟩
theorem rv_eqTy {a b : String} (ha : SmallTy a) (hb : SmallTy b) : RV rEqTy (.ty a) (.ty b) H (.bl (decide (a = b))) := fun H1 e Q k => ⟨a, b, rfl, rfl, ha, hb, k H1 (Ex.refl _)⟩
theorem rv_neTy {a b : String} (ha : SmallTy a) (hb : SmallTy b) : RV rNeTy (.ty a) (.ty b) H (.bl (!decide (a = b))) := fun H1 e Q k => ⟨a, b, rfl, rfl, ha, hb, k H1 (Ex.refl _)⟩
theorem st_int : SmallTy "int" := .inl rfl
theorem st_bool : SmallTy "bool" := .inr (.inl rfl)
theorem st_str : SmallTy "str" := .inr (.inr (.inl rfl))
theorem st_none : SmallTy "NoneType" := .inr (.inr (.inr (.inl rfl)))
theorem st_list : SmallTy "list" := .inr (.inr (.inr (.inr (.inl rfl))))
theorem st_tup : SmallTy "tuple" := .inr (.inr (.inr (.inr (.inr rfl))))
/-- isinstance(x, T), T built in -/
theorem ev_isi {x : V} {T T' : String} {b : Bool} (h : Ev te σ H x) (ty : ∀ H1, Ex H H1 → TyOf K H1 x (.type T)) (hk : PySem.W.kitOne K (.type T) (.type T') = some b) (hc : Ev tb σ H (.ty T')) : Ev (tCB (rIsi K) (tCons te (tCons tb tNil))) σ H (.bl b) := fun H1 e Q k =>
  h H1 e _ fun H2 e2 => hc H2 (e.trans e2) _ fun H3 e3 => ⟨x, .ty T', .type T, .type T', b, rfl, .ty T', .base (ty H3 ((e.trans e2).trans e3)), hk, k H3 (e2.trans e3)⟩
/-- a comprehension over a tuple, no test -/
theorem el_lcU {xs : List V} {tl : TE} {jj : Nat} {vs : List Nat} (v : V → V) (h : Ev tl σ H (.ref p)) (hx : SqT K H p xs) (hz : xs.length ≤ 40000) (hw : ∀ x, wipe ((wipe σ vs).set jj (some x)) vs = wipe σ vs)
    (he : ∀ x H1, x ∈ xs → Ex H H1 → Ev te ((wipe σ vs).set jj (some x)) H1 (v x)) : EvL (tLc (iTup K tl) (gName jj) tYes te vs) σ H (xs.map v) := fun H0 e Q k => h H0 e _ fun H1 e1 => by
  have hx1 := ex_t (e.trans e1) hx
  refine ⟨p, rfl, ⟨_, hx1⟩, fun Dl hD => ?_⟩
  refine lc_tup (K := K) (xs := xs) (fun i H' => Ex H1 H' ∧ H' Dl = some (.lst ((xs.take i).map v))) ⟨Ex.new hD, upd_same⟩ (fun i H' _ p => ex_t p.1 hx1) (fun i x H' hi pv => ?_) fun H' pv => ?_
  · obtain ⟨p1, p2⟩ := pv
    refine ⟨hw x, ?_⟩
    have hlt : i < xs.length := (List.getElem?_eq_some_iff.mp hi).1
    show te _ H' _
    refine he x H' (List.mem_of_getElem? hi) ((e.trans e1).trans p1) H' (Ex.refl _) _ fun H4 e4 => ?_
    refine ⟨_, e4 _ _ p2, sz_lt (by rw [List.length_map, List.length_take]; omega), Ex.mut (p1.trans e4) hD, ?_⟩
    rw [List.take_add_one, hi, List.map_append]
    exact upd_same
  · obtain ⟨p1, p2⟩ := pv
    rw [List.take_length] at p2
    exact k Dl H' (fresh_back e1 hD) (e1.trans p1) p2
/-- for i, x in enumerate(l) -/
theorem s_forEn {xs : List V} {tl : TE} (h : Ev tl σ H (.ref p)) (hx : SqL K H p xs) (Pv : Nat → St → Hp → Prop) (h0 : ∀ H1, Ex H H1 → Pv 0 σ H1) (hl : ∀ i σ H, i ≤ xs.length → Pv i σ H → SqL K H p xs)
    (hs : ∀ i x T σ H, xs[i]? = some x → H T = none → Pv i σ H → g (.ref T) σ (upd H T (.tup [.int (i : Int), x])) fun σ2 H2 => tu { D with nx := Pv (i + 1), ct := Pv (i + 1), bk := D.nx } σ2 H2) (hd : ∀ σ H, Pv xs.length σ H → D.nx σ H) :
    tFor (iEnum K (tCons tl tNil)) g tu D σ H := h H (Ex.refl H) _ fun H1 e => by
  refine ⟨p, xs, rfl, ex_l e hx, fun i m σ H => m = xs.length - i ∧ i ≤ xs.length ∧ Pv i σ H, ⟨xs.length, by simp, Nat.zero_le _, h0 H1 e⟩, ?_⟩
  rintro i m σ H ⟨rfl, hi, pv⟩
  have q := hl i σ H hi pv
  by_cases hlt : i < xs.length
  · refine .inr ⟨⟨xs, xs[i], q, List.getElem?_eq_getElem hlt⟩, Pv (i + 1), fun σ' H' p' => ⟨xs.length - (i + 1), by omega, rfl, hlt, p'⟩, fun v H' y => ?_⟩
    obtain ⟨T, x, rfl, nT, rfl, y⟩ := y
    exact hs i x T σ H (y _ q) nT pv
  · have e : i = xs.length := by omega
    subst e
    exact .inl ⟨⟨xs, q, Nat.le_refl _⟩, hd σ H pv⟩
theorem q_forEn {xs : List V} {tl : TE} (h : Ev tl σ H (.ref p)) (hx : SqL K H p xs) (Pv : Nat → St → Hp → Prop) (h0 : ∀ H1, Ex H H1 → Pv 0 σ H1) (hl : ∀ i σ H, i ≤ xs.length → Pv i σ H → SqL K H p xs)
    (hs : ∀ i x T σ H, xs[i]? = some x → H T = none → Pv i σ H → g (.ref T) σ (upd H T (.tup [.int (i : Int), x])) fun σ2 H2 => tu { D with nx := Pv (i + 1), ct := Pv (i + 1), bk := tz D } σ2 H2) (hd : ∀ σ H, Pv xs.length σ H → tz D σ H) :
    tSeq (tFor (iEnum K (tCons tl tNil)) g tu) tz D σ H := s_forEn (D := { D with nx := tz D }) h hx Pv h0 hl hs hd
/-- a target of two: the places of an enumerate -/
theorem g_two {a b : Nat} {T : Addr} {x y : V} {Q : St → Hp → Prop} (hT : H T = some (.tup [x, y])) (h : Q ((σ.set a (some x)).set b (some y)) H) : gTup K 2 (gCons (gName a) (gCons (gName b) gNil)) (.ref T) σ H Q :=
  ⟨T, [x, y], rfl, SqT.of hT, rfl, _, _, rfl, _, _, rfl, rfl, h⟩
/-- the place, then a job's three -/
theorem g_two3 {a b c d : Nat} {T t : Addr} {x : V} {j : T3} {Q : St → Hp → Prop} (hT : H T = some (.tup [x, .ref t])) (ht : AtT H t j) (h : Q ((((σ.set a (some x)).set b (some (.int j.1))).set c (some (.int j.2.1))).set d (some (.int j.2.2))) H) :
    gTup K 2 (gCons (gName a) (gCons (gTup K 3 (gCons (gName b) (gCons (gName c) (gCons (gName d) gNil)))) gNil)) (.ref T) σ H Q :=
  ⟨T, [x, .ref t], rfl, SqT.of hT, rfl, _, _, rfl, _, _, rfl, t, tv j, rfl, SqT.of ht, rfl, _, _, rfl, _, _, rfl, _, _, rfl, rfl, rfl, h⟩
/-- xs[i] op= e -/
theorem s_augI {f : Int → Int → Int} {i : Nat} {z : Int} (ha : Ev ta σ H (.ref l)) (hi : Ev ti σ H (.int (i : Int))) (hl : IL H l ns) (hn : i < ns.length) (he : Ev te σ H (.int z)) (k : ∀ H1, Mod l H H1 → IL H1 l (ns.set i (f (ns.getD i 0) z)) → D.nx σ H1) :
    tAugS ta ti te (rIxL K) (ipI f) rSetL D σ H := ha H (Ex.refl H) _ fun H1 e1 => hi H1 e1 _ fun H2 e2 => ⟨l, ns.map V.int, (i : Int), .int (ns.getD i 0), rfl, rfl, SqL.of ((hl.mono e1).mono e2), atI_nat (il_at hn), he H2 (e1.trans e2) _ fun H3 e3 =>
    ⟨ns.getD i 0, z, rfl, rfl, l, ns.map V.int, (i : Int), i, rfl, rfl, ((hl.mono e1).mono e2).mono e3, ixN_nat (by rw [List.length_map]; exact hn), by
      refine k _ ((Mod.ex ((e1.trans e2).trans e3)).trans (Mod.upd (((hl.mono e1).mono e2).mono e3))) ?_
      show upd H3 l _ l = _
      rw [upd_same, List.map_set]⟩⟩
theorem q_augI {f : Int → Int → Int} {i : Nat} {z : Int} (ha : Ev ta σ H (.ref l)) (hi : Ev ti σ H (.int (i : Int))) (hl : IL H l ns) (hn : i < ns.length) (he : Ev te σ H (.int z)) (k : ∀ H1, Mod l H H1 → IL H1 l (ns.set i (f (ns.getD i 0) z)) → tz D σ H1) :
    tSeq (tAugS ta ti te (rIxL K) (ipI f) rSetL) tz D σ H := s_augI (D := { D with nx := tz D }) ha hi hl hn he k
/-- xs[i] = e -/
theorem s_setI {i : Nat} {z : Int} (h : Ev te σ H (.int z)) (ha : Ev ta σ H (.ref l)) (hi : Ev ti σ H (.int (i : Int))) (hl : IL H l ns) (hn : i < ns.length) (k : ∀ H1, Mod l H H1 → IL H1 l (ns.set i z) → D.nx σ H1) :
    tAsg te (gSub ta ti rSetL) D σ H := s_setL hl h ha hi (by rw [List.length_map]; exact hn) fun H1 e1 => by
  refine k _ ((Mod.ex e1).trans (Mod.upd (hl.mono e1))) ?_
  show upd H1 l _ l = _
  rw [upd_same, List.map_set]
theorem q_setI {i : Nat} {z : Int} (h : Ev te σ H (.int z)) (ha : Ev ta σ H (.ref l)) (hi : Ev ti σ H (.int (i : Int))) (hl : IL H l ns) (hn : i < ns.length) (k : ∀ H1, Mod l H H1 → IL H1 l (ns.set i z) → tz D σ H1) :
    tSeq (tAsg te (gSub ta ti rSetL)) tz D σ H := s_setI (D := { D with nx := tz D }) h ha hi hl hn k
/-- the lengths of the jobs, and the like: a list of whole numbers, one a job -/
theorem el_ints {js : List T3} {tl : TE} {vs : List Nat} (f : T3 → Bool) (v : T3 → Int) (s2 : T3 → Addr → St) (h : Ev tl σ H (.ref p)) (hx : TL H p js) (hz : js.length ≤ 40000)
    (hg : ∀ q t H1 (Q : St → Hp → Prop), AtT H1 t q → Q (s2 q t) H1 → g (.ref t) (wipe σ vs) H1 Q) (hw : ∀ q t, wipe (s2 q t) vs = wipe σ vs)
    (ht : ∀ q t H1, q ∈ js → Ex H H1 → AtT H1 t q → EvT t' (s2 q t) H1 (f q)) (he : ∀ q t H1, q ∈ js → Ex H H1 → AtT H1 t q → f q = true → Ev te (s2 q t) H1 (.int (v q))) :
    EvL (tLc (iList K tl) g t' te vs) σ H (((js.filter f).map v).map V.int) := by
  have := el_lcTL (K := K) (te := te) f (fun q => .int (v q)) s2 h hx hz hg hw ht he
  rw [List.map_map]
  exact this
theorem evt_yes : EvT tYes σ H true := fun H1 _ _ q => q H1 (Ex.refl H1)
theorem filter_yes (js : List T3) : js.filter (fun _ => true) = js := List.filter_eq_self.mpr fun _ _ => rfl
/-- [0] * n -/
theorem rep_one (n : Nat) (x : V) : (List.replicate n [x]).flatten = List.replicate n x := by
  induction n with
  | zero => rfl
  | succ n ih => rw [List.replicate_succ, List.flatten_cons, ih]; rfl
theorem el_rep {n : Nat} {x : V} (hx : Ev te σ H x) (hn : Ev ti σ H (.int (n : Int))) (hz : n ≤ 100000) : EvL (tOp rRep (tLst (tCons te tNil)) ti) σ H (List.replicate n x) := fun H1 e Q k =>
  hx H1 e _ fun H2 e2 => ⟨sz_of (show 1 ≤ 100000 by decide), fun a na => hn _ ((e.trans e2).trans (Ex.new na)) _ fun H3 e3 => by
    refine ⟨a, (n : Int), [x], rfl, rfl, e3 _ _ upd_same, by omega, by omega, ?_, fun d nd => k d _ (fresh_back ((e2.trans (Ex.new na)).trans e3) nd) (((e2.trans (Ex.new na)).trans e3).trans (Ex.new nd)) ?_⟩
    · show 1 * (n : Int).toNat ≤ sizeLine
      rw [Int.toNat_natCast, Nat.one_mul]
      exact sz_of hz
    · rw [upd_same, Int.toNat_natCast, rep_one]⟩
theorem s_asgG {v : V} (h : Ev te σ H v) (k : ∀ H1, Ex H H1 → g v σ H1 D.nx) : tAsg te g D σ H := h H (Ex.refl H) _ k
theorem q_asgG {v : V} (h : Ev te σ H v) (k : ∀ H1, Ex H H1 → g v σ H1 (tz D)) : tSeq (tAsg te g) tz D σ H := h H (Ex.refl H) _ k
theorem rv_isN {x : V} : RV (fun x y H Q => y = .non ∧ Q (.bl (decide (x = .non))) H) x .non H (.bl (decide (x = .non))) := fun H1 _ Q k => ⟨rfl, k H1 (Ex.refl _)⟩
theorem rv_notN {x : V} : RV (fun x y H Q => y = .non ∧ Q (.bl (!decide (x = .non))) H) x .non H (.bl (!decide (x = .non))) := fun H1 _ Q k => ⟨rfl, k H1 (Ex.refl _)⟩
theorem ev_chain {r r' : R2} {tc : TE} {x y z : V} {a b : Bool} (ha : Ev ta σ H x) (hb : Ev tb σ H y) (hr : RV r x y H (.bl a)) (hc : a = true → Ev tc σ H z) (hr' : a = true → RV r' y z H (.bl b)) : Ev (tChain r r' ta tb tc) σ H (.bl (a && b)) := fun H1 e Q k =>
  ha H1 e _ fun H2 e2 => hb H2 (e.trans e2) _ fun H3 e3 => hr H3 ((e.trans e2).trans e3) _ fun H4 e4 => ⟨a, rfl, by
    have e14 := (e2.trans e3).trans e4
    cases a with
    | true =>
      show tc σ H4 _
      exact hc rfl H4 (e.trans e14) _ fun H5 e5 => hr' rfl H5 ((e.trans e14).trans e5) Q fun H6 e6 => k H6 ((e14.trans e5).trans e6)
    | false =>
      show Q (.bl false) H4
      exact k H4 e14⟩
theorem ev_chain3 {r r' r'' : R2} {tc td : TE} {x y z u : V} {a b c : Bool} (ha : Ev ta σ H x) (hb : Ev tb σ H y) (hr : RV r x y H (.bl a)) (hc : Ev tc σ H z) (hr' : RV r' y z H (.bl b)) (hd : Ev td σ H u) (hr'' : RV r'' z u H (.bl c)) : Ev (tChain3 r r' r'' ta tb tc td) σ H (.bl (a && (b && c))) := fun H1 e Q k =>
  ha H1 e _ fun H2 e2 => hb H2 (e.trans e2) _ fun H3 e3 => hr H3 ((e.trans e2).trans e3) _ fun H4 e4 => ⟨a, rfl, by
    have e14 := (e2.trans e3).trans e4
    cases a with
    | true =>
      show tc σ H4 _
      refine hc H4 (e.trans e14) _ fun H5 e5 => hr' H5 ((e.trans e14).trans e5) _ fun H6 e6 => ⟨b, rfl, ?_⟩
      have e16 := (e14.trans e5).trans e6
      cases b with
      | true =>
        show td σ H6 _
        exact hd H6 (e.trans e16) _ fun H7 e7 => hr'' H7 ((e.trans e16).trans e7) Q fun H8 e8 => k H8 ((e16.trans e7).trans e8)
      | false =>
        show Q (.bl false) H6
        exact k H6 e16
    | false =>
      show Q (.bl false) H4
      exact k H4 e14⟩
theorem et_truL {js : List T3} (h : Ev te σ H (.ref p)) (hp : TL H p js) : EvT (fun σ H Q => te σ H fun x H' => ∃ k, TruV K x H' k ∧ Q k H') σ H (!js.isEmpty) := fun H1 e Q k =>
  h H1 e _ fun H2 e2 => by
    obtain ⟨ts, h1, h2⟩ := hp.mono (e.trans e2)
    refine ⟨!js.isEmpty, .inl ⟨_, SqL.of h1, ?_⟩, k H2 e2⟩
    cases h2 with
    | nil => rfl
    | cons _ _ => rfl
end
end DL
namespace DL
open PySem PySem.Spec PyProof.Rows L2 Evl
section
variable {K : PySem.W.Frag} {σ : St} {H H' : Hp} {ta tb te ti : TE} {t' : TT} {D : Ends} {tu tz : TS} {g : TG} {p q l : Addr} {js ks : List T3} {j : T3} {ns : List Int}
/-! ### lists of whole numbers -/
theorem s_appI {z : Int} (hl : IL H l ns) (ha : Ev ta σ H (.ref l)) (h : Ev te σ H (.int z)) (hz : ns.length < 100000) (k : ∀ H1, Mod l H H1 → IL H1 l (ns ++ [z]) → D.nx σ H1) :
    tDrop (tBM K "list" rAppend ta (tCons te tNil)) D σ H := s_app hl ha h (by rw [List.length_map]; exact hz) fun H1 e => by
  refine k _ ((Mod.ex e).trans (Mod.upd (hl.mono e))) ?_
  show upd H1 l _ l = _
  rw [upd_same, List.map_append]
  rfl
theorem q_appI {z : Int} (hl : IL H l ns) (ha : Ev ta σ H (.ref l)) (h : Ev te σ H (.int z)) (hz : ns.length < 100000) (k : ∀ H1, Mod l H H1 → IL H1 l (ns ++ [z]) → tz D σ H1) :
    tSeq (tDrop (tBM K "list" rAppend ta (tCons te tNil))) tz D σ H := s_appI (D := { D with nx := tz D }) hl ha h hz k
theorem el_listI (ha : Ev ta σ H (.ref p)) (h : IL H p ns) : EvL (tCB (rListS K) (tCons ta tNil)) σ H (ns.map V.int) := el_list ha (SqL.of h)
theorem et_truI (h : Ev te σ H (.ref p)) (hp : IL H p ns) : EvT (fun σ H Q => te σ H fun x H' => ∃ k, TruV K x H' k ∧ Q k H') σ H (!ns.isEmpty) := fun H1 e Q k =>
  h H1 e _ fun H2 e2 => ⟨!ns.isEmpty, .inl ⟨_, SqL.of (hp.mono (e.trans e2)), by cases ns <;> rfl⟩, k H2 e2⟩
theorem inV_int (x : Int) : ∀ ns : List Int, inV (.int x) (ns.map V.int) = decide (x ∈ ns)
  | [] => rfl
  | n :: ns => by
    show ((n == x) || inV (.int x) (ns.map V.int)) = _
    rw [inV_int x ns, Bool.eq_iff_iff, Bool.or_eq_true, beq_iff_eq, decide_eq_true_iff, decide_eq_true_iff, List.mem_cons]
    exact or_congr_left ⟨fun e => e.symm, fun e => e.symm⟩
theorem flat_ints : ∀ ns : List Int, (ns.map V.int).all flatV = true
  | [] => rfl
  | n :: ns => flat_ints ns
theorem rv_niI {x : Int} (hp : IL H p ns) : RV (rIn K true) (.int x) (.ref p) H (.bl (!decide (x ∈ ns))) := by
  have := rv_niL (K := K) (x := .int x) (SqL.of hp) rfl (flat_ints ns)
  rw [inV_int] at this
  exact this
theorem rv_isI {x : Int} (hp : IL H p ns) : RV (rIn K false) (.int x) (.ref p) H (.bl (decide (x ∈ ns))) := by
  have := rv_isL (K := K) (x := .int x) (SqL.of hp) rfl (flat_ints ns)
  rw [inV_int] at this
  exact this
theorem s_forIL {tl : TE} {jj : Nat} (h : Ev tl σ H (.ref p)) (hx : IL H p ns) (Pv : Nat → St → Hp → Prop) (h0 : ∀ H1, Ex H H1 → Pv 0 σ H1) (hl : ∀ i σ' H', i ≤ ns.length → Pv i σ' H' → IL H' p ns)
    (hs : ∀ i x σ' H', ns[i]? = some x → Pv i σ' H' → tu { D with nx := Pv (i + 1), ct := Pv (i + 1), bk := D.nx } (σ'.set jj (some (.int x))) H') (hd : ∀ σ' H', Pv ns.length σ' H' → D.nx σ' H') : tFor (iList K tl) (gName jj) tu D σ H :=
  s_forLn h (SqL.of hx) Pv h0 (fun i σ' H' hi pv => SqL.of (hl i σ' H' (by rw [List.length_map] at hi; exact hi) pv)) (fun i x σ' H' hi pv => by
    rw [List.getElem?_map] at hi
    obtain ⟨y, hy, rfl⟩ := Option.map_eq_some_iff.mp hi
    exact hs i y σ' H' hy pv) fun σ' H' pv => hd σ' H' (by rw [List.length_map] at pv; exact pv)
theorem q_forIL {tl : TE} {jj : Nat} (h : Ev tl σ H (.ref p)) (hx : IL H p ns) (Pv : Nat → St → Hp → Prop) (h0 : ∀ H1, Ex H H1 → Pv 0 σ H1) (hl : ∀ i σ' H', i ≤ ns.length → Pv i σ' H' → IL H' p ns)
    (hs : ∀ i x σ' H', ns[i]? = some x → Pv i σ' H' → tu { D with nx := Pv (i + 1), ct := Pv (i + 1), bk := tz D } (σ'.set jj (some (.int x))) H') (hd : ∀ σ' H', Pv ns.length σ' H' → tz D σ' H') : tSeq (tFor (iList K tl) (gName jj) tu) tz D σ H :=
  s_forIL (D := { D with nx := tz D }) h hx Pv h0 hl hs hd
/-- [k for k in range(n) if ..] -/
theorem el_range {ta : TA} {jj : Nat} {vs : List Nat} {n : Nat} (f : Nat → Bool) (h : EvA ta σ H [.int (n : Int)]) (hn : n ≤ 40000) (hw : ∀ x, wipe ((wipe σ vs).set jj (some x)) vs = wipe σ vs)
    (ht : ∀ (i : Nat) H1, Ex H H1 → i < n → EvT t' ((wipe σ vs).set jj (some (.int (i : Int)))) H1 (f i)) (hj : ((wipe σ vs).set jj (some (.int 0)))[jj]? = some (some (.int 0))) :
    EvL (tLc (iRng1 ta) (gName jj) t' (tVar jj) vs) σ H ((((List.range n).filter f).map fun (i : Nat) => (i : Int)).map V.int) := by
  have hlen : jj < (wipe σ vs).length := by
    have := (List.getElem?_eq_some_iff.mp hj).1
    rw [List.length_set] at this
    exact this
  have := el_lcR1 (n := (n : Int)) f (fun i => V.int (i : Int)) h (by omega) hw (fun i H1 e hi => ht i H1 e (by omega)) (fun i H1 e hi _ => ev_var (by rw [List.getElem?_set_self hlen]))
  rw [Int.toNat_natCast] at this
  unfold given at this
  rw [List.map_map]
  exact this
/-- over a new list of triples -/
theorem s_forNTL {tl : TE} (h : EvTL tl σ H js) (Pv : Addr → Nat → St → Hp → Prop) (h0 : ∀ p H1, H p = none → Ex H H1 → TL H1 p js → Pv p 0 σ H1) (hl : ∀ p i σ H, i ≤ js.length → Pv p i σ H → TL H p js)
    (hs : ∀ p i q t σ H, js[i]? = some q → AtT H t q → Pv p i σ H → g (.ref t) σ H fun σ2 H2 => tu { D with nx := Pv p (i + 1), ct := Pv p (i + 1), bk := D.nx } σ2 H2) (hd : ∀ p σ H, Pv p js.length σ H → D.nx σ H) : tFor (iList K tl) g tu D σ H :=
  h H (Ex.refl H) _ fun p H1 hp e h1 => ⟨p, rfl, (by obtain ⟨xs, h2, _⟩ := h1.sq (K := K); exact ⟨xs, h2⟩), for_TL (Pv p) (h0 p H1 hp e h1) (hl p) (hs p) (hd p)⟩
theorem q_forNTL {tl : TE} (h : EvTL tl σ H js) (Pv : Addr → Nat → St → Hp → Prop) (h0 : ∀ p H1, H p = none → Ex H H1 → TL H1 p js → Pv p 0 σ H1) (hl : ∀ p i σ H, i ≤ js.length → Pv p i σ H → TL H p js)
    (hs : ∀ p i q t σ H, js[i]? = some q → AtT H t q → Pv p i σ H → g (.ref t) σ H fun σ2 H2 => tu { D with nx := Pv p (i + 1), ct := Pv p (i + 1), bk := tz D } σ2 H2) (hd : ∀ p σ H, Pv p js.length σ H → tz D σ H) : tSeq (tFor (iList K tl) g tu) tz D σ H :=
  s_forNTL (D := { D with nx := tz D }) h Pv h0 hl hs hd
/-- the second operand a new list of triples -/
theorem ev_opT {r : R2} {x z : V} (ha : Ev ta σ H x) (hb : EvTL tb σ H js) (hr : ∀ p H1, TL H1 p js → Ex H H1 → RV r x (.ref p) H1 z) : Ev (tOp r ta tb) σ H z := fun H1 e Q k =>
  ha H1 e _ fun H2 e2 => hb H2 (e.trans e2) _ fun p H3 _ e3 hp => hr p H3 hp ((e.trans e2).trans e3) H3 (Ex.refl H3) Q fun H4 e4 => k H4 ((e2.trans e3).trans e4)
/-- for a, b in zip(xs[:-1], xs[1:]): each item and the next -/
theorem s_forNext {xs : List V} {tl : TE} (h : Ev tl σ H (.ref p)) (hx : SqL K H p xs) (Pv : Hp → Nat → St → Hp → Prop) (h0 : ∀ B, Ex H B → Pv B 0 σ B) (hq : ∀ B i σ H', Pv B i σ H' → Ex B H')
    (hs : ∀ B i x y T σ H', Ex H B → xs[i]? = some x → xs[i + 1]? = some y → Pv B i σ H' → H' T = none → g (.ref T) σ (upd H' T (.tup [x, y])) fun σ2 H2 => tu { D with nx := Pv B (i + 1), ct := Pv B (i + 1), bk := D.nx } σ2 H2)
    (hd : ∀ B σ H', Ex H B → Pv B (xs.length - 1) σ H' → D.nx σ H') :
    tFor (iZip K (tCons (tSl (rSlL K) tl tNoPart (tPart (tUn (rU fun i => .int (-i)) (tC (.int 1))))) (tCons (tSl (rSlL K) tl (tPart (tC (.int 1))) tNoPart) tNil))) g tu D σ H := by
  refine el_sl (K := K) h eo_none (eo_some (ev_un ev_c ru_neg)) hx H (Ex.refl _) _ fun c H1 _ e1 hc => ?_
  refine el_sl (K := K) h (eo_some ev_c) eo_none hx H1 e1 _ fun d H2 _ e2 hd2 => ?_
  have hc2 := e2 _ _ hc
  rw [cut_init] at hc2
  rw [show cutV xs (some 1) none = xs.drop 1 from cut_drop xs 1] at hd2
  refine ⟨c, d, _, _, rfl, SqL.of hc2, SqL.of hd2, RZ.for_zipL (K := K) (by rw [List.length_dropLast, List.length_drop]) (Pv H2) (h0 H2 (e1.trans e2)) (fun i σ H' pv => ⟨SqL.of (hq _ _ _ _ pv _ _ hc2), SqL.of (hq _ _ _ _ pv _ _ hd2)⟩) (fun i x y T σ H' hi hy pv nT => ?_) fun σ H' pv => ?_⟩
  · have hx1 : xs[i]? = some x := by
      have hlt := (List.getElem?_eq_some_iff.mp hi).1
      rw [List.dropLast_eq_take, List.getElem?_take] at hi
      rw [List.length_dropLast] at hlt
      rw [if_pos hlt] at hi
      exact hi
    have hy1 : xs[i + 1]? = some y := by
      rw [List.getElem?_drop, Nat.add_comm] at hy
      exact hy
    exact hs H2 i x y T σ H' (e1.trans e2) hx1 hy1 pv nT
  · rw [List.length_dropLast] at pv
    exact hd H2 σ H' (e1.trans e2) pv
theorem q_forNext {xs : List V} {tl : TE} (h : Ev tl σ H (.ref p)) (hx : SqL K H p xs) (Pv : Hp → Nat → St → Hp → Prop) (h0 : ∀ B, Ex H B → Pv B 0 σ B) (hq : ∀ B i σ H', Pv B i σ H' → Ex B H')
    (hs : ∀ B i x y T σ H', Ex H B → xs[i]? = some x → xs[i + 1]? = some y → Pv B i σ H' → H' T = none → g (.ref T) σ (upd H' T (.tup [x, y])) fun σ2 H2 => tu { D with nx := Pv B (i + 1), ct := Pv B (i + 1), bk := tz D } σ2 H2)
    (hd : ∀ B σ H', Ex H B → Pv B (xs.length - 1) σ H' → tz D σ H') :
    tSeq (tFor (iZip K (tCons (tSl (rSlL K) tl tNoPart (tPart (tUn (rU fun i => .int (-i)) (tC (.int 1))))) (tCons (tSl (rSlL K) tl (tPart (tC (.int 1))) tNoPart) tNil))) g tu) tz D σ H :=
  s_forNext (D := { D with nx := tz D }) h hx Pv h0 hq hs hd
/-- a number a triple, no test -/
theorem el_intsA {tl : TE} {vs : List Nat} (v : T3 → Int) (s2 : T3 → Addr → St) (h : Ev tl σ H (.ref p)) (hx : TL H p js) (hz : js.length ≤ 40000)
    (hg : ∀ q t H1 (Q : St → Hp → Prop), AtT H1 t q → Q (s2 q t) H1 → g (.ref t) (wipe σ vs) H1 Q) (hw : ∀ q t, wipe (s2 q t) vs = wipe σ vs)
    (he : ∀ q t H1, q ∈ js → Ex H H1 → AtT H1 t q → Ev te (s2 q t) H1 (.int (v q))) : EvL (tLc (iList K tl) g tYes te vs) σ H ((js.map v).map V.int) := by
  have := el_ints (K := K) (te := te) (fun _ => true) v s2 h hx hz hg hw (fun _ _ _ _ _ _ => evt_yes) fun q t H1 hq e ha _ => he q t H1 hq e ha
  rw [filter_yes] at this
  exact this
end
end DL
namespace DL
open PySem PySem.Spec PyProof.Rows L2 Evl
/-! ### lists of pairs, sorted -/
abbrev AtP (H : Hp) (t : Addr) (z : Int × Int) : Prop := H t = some (.tup [.int z.1, .int z.2])
abbrev Prs (H : Hp) : List Addr → List (Int × Int) → Prop := Paired (AtP H)
def PL (H : Hp) (p : Addr) (zs : List (Int × Int)) : Prop := ∃ ts : List Addr, H p = some (.lst (ts.map V.ref)) ∧ Prs H ts zs
theorem Prs.mono {H H' : Hp} (e : Ex H H') : ∀ {ts : List Addr} {zs : List (Int × Int)}, Prs H ts zs → Prs H' ts zs
  | _, _, .nil => .nil
  | _, _, .cons r s => .cons (e _ _ r) (Prs.mono e s)
theorem Prs.keep {H H' : Hp} : ∀ {ts : List Addr} {zs : List (Int × Int)}, (∀ t xs, H t = some (.tup xs) → H' t = some (.tup xs)) → Prs H ts zs → Prs H' ts zs
  | _, _, _, .nil => .nil
  | _, _, k, .cons r s => .cons (k _ _ r) (Prs.keep k s)
theorem Prs.append {H : Hp} : ∀ {ts us : List Addr} {zs ys : List (Int × Int)}, Prs H ts zs → Prs H us ys → Prs H (ts ++ us) (zs ++ ys)
  | _, _, _, _, .nil, s => s
  | _, _, _, _, .cons r t, s => .cons r (Prs.append t s)
theorem Prs.len {H : Hp} {ts : List Addr} {zs : List (Int × Int)} (h : Prs H ts zs) : ts.length = zs.length := Paired.length h
theorem PL.mono {H H' : Hp} {p : Addr} {zs : List (Int × Int)} (e : Ex H H') (h : PL H p zs) : PL H' p zs := by
  obtain ⟨ts, h1, h2⟩ := h
  exact ⟨ts, e _ _ h1, h2.mono e⟩
/-- the pair that stands at an address -/
def keyOf (H : Hp) : V → Int × Int
  | .ref t => match H t with
    | some (.tup [.int a, .int b]) => (a, b)
    | _ => (0, 0)
  | _ => (0, 0)
theorem keyOf_at {H : Hp} {t : Addr} {z : Int × Int} (h : AtP H t z) : keyOf H (.ref t) = z := by
  show (match H t with
    | some (.tup [.int a, .int b]) => (a, b)
    | _ => (0, 0)) = z
  rw [show H t = some (.tup [.int z.1, .int z.2]) from h]
theorem keys_of {H : Hp} : ∀ {ts : List Addr} {zs : List (Int × Int)}, Prs H ts zs → (ts.map V.ref).map (keyOf H) = zs
  | _, _, .nil => rfl
  | _, _, .cons r s => by
    rw [List.map_cons, List.map_cons, keyOf_at r, keys_of s]
theorem prs_keys {H : Hp} : ∀ {ts : List Addr}, (∀ t ∈ ts, ∃ z, AtP H t z) → Prs H ts ((ts.map V.ref).map (keyOf H))
  | [], _ => .nil
  | t :: ts, h => by
    obtain ⟨z, hz⟩ := h t List.mem_cons_self
    have ih := prs_keys (ts := ts) fun u hu => h u (List.mem_cons_of_mem _ hu)
    rw [List.map_cons, List.map_cons, keyOf_at hz]
    exact .cons hz ih
def lexLe (a b : Int × Int) : Prop := a.1 < b.1 ∨ (a.1 = b.1 ∧ a.2 ≤ b.2)
section
variable {K : PySem.W.Frag} {σ : St} {H H' : Hp} {ta tb te ti : TE} {t' : TT} {D : Ends} {tu tz : TS} {g : TG} {p q l : Addr} {js ks : List T3} {j : T3} {ns ms : List Int} {zs : List (Int × Int)}
theorem s_appP {z : Int × Int} (hl : PL H l zs) (ha : Ev ta σ H (.ref l)) (h : EvU te σ H [.int z.1, .int z.2]) (hz : zs.length < 100000) (k : ∀ H1, Mod l H H1 → PL H1 l (zs ++ [z]) → D.nx σ H1) :
    tDrop (tBM K "list" rAppend ta (tCons te tNil)) D σ H := by
  obtain ⟨ts, h1, h2⟩ := hl
  refine s_appU h1 ha h (by rw [List.length_map, h2.len]; exact hz) fun t H1 nt e ht => ?_
  have m : Mod l H (upd H1 l (.lst (ts.map V.ref ++ [.ref t]))) := (Mod.ex e).trans (Mod.upd (e _ _ h1))
  refine k _ m ⟨ts ++ [t], ?_, (Prs.keep m.tup h2).append (.cons (tup_upd (e _ _ h1) _ _ ht) .nil)⟩
  rw [upd_same, List.map_append]
  rfl
theorem eu_two {a b : Int} (ha : Ev ta σ H (.int a)) (hb : Ev tb σ H (.int b)) : EvU (tTup (tCons ta (tCons tb tNil))) σ H [.int a, .int b] :=
  eu_tup (ea_cons ha (ea_cons hb ea_nil)) (show 2 ≤ 100000 by decide)
/-- a new list of pairs -/
def EvPL (te : TE) (σ : St) (H : Hp) (P : List (Int × Int) → Prop) : Prop := ∀ H1, Ex H H1 → ∀ Q : VK, (∀ p H2 zs, H1 p = none → Ex H1 H2 → PL H2 p zs → P zs → Q (.ref p) H2) → te σ H1 Q
theorem epl_sorted (h : Ev te σ H (.ref p)) (hp : PL H p zs) : EvPL (tCB (rSortedPO K) (tCons te tNil)) σ H (fun ys => ys.Perm zs ∧ ys.Pairwise lexLe) := fun H1 e Q k =>
  h H1 e _ fun H2 e2 => by
    obtain ⟨ts, h1, h2⟩ := hp.mono (e.trans e2)
    have hk := keys_of h2
    refine ⟨p, ts.map V.ref, keyOf H2, rfl, SqL.of h1, fun x hx => ?_, fun ys d hs hb hd => ?_⟩
    · obtain ⟨t, ht, rfl⟩ := List.mem_map.mp hx
      obtain ⟨i, hi, e3⟩ := List.getElem_of_mem ht
      have : ∀ {ts : List Addr} {zs : List (Int × Int)}, Prs H2 ts zs → ∀ t ∈ ts, ∃ z, AtP H2 t z := fun {ts zs} hp => by
        induction hp with
        | nil => intro t ht; simp at ht
        | cons r s ih =>
          intro t ht
          rcases List.mem_cons.mp ht with z | z
          · subst z; exact ⟨_, r⟩
          · exact ih t z
      obtain ⟨z, hz⟩ := this h2 t ht
      exact ⟨t, rfl, by rw [keyOf_at hz]; exact hz⟩
    · have hper : ys.Perm (ts.map V.ref) := hb.perm
      have hsub : ∀ y ∈ ys, ∃ t ∈ ts, y = V.ref t := fun y hy => by
        obtain ⟨t, ht, e4⟩ := List.mem_map.mp (hper.mem_iff.mp hy)
        exact ⟨t, ht, e4.symm⟩
      obtain ⟨us, rfl⟩ : ∃ us : List Addr, ys = us.map V.ref := by
        clear hs hb hper hd
        induction ys with
        | nil => exact ⟨[], rfl⟩
        | cons y ys ih =>
          obtain ⟨t, _, rfl⟩ := hsub y List.mem_cons_self
          obtain ⟨us, hu⟩ := ih fun z hz => hsub z (List.mem_cons_of_mem _ hz)
          exact ⟨t :: us, by rw [hu]; rfl⟩
      have hall : ∀ t ∈ us, ∃ z, AtP H2 t z := fun t ht => by
        obtain ⟨u, hu, e5⟩ := hsub (.ref t) (List.mem_map.mpr ⟨t, ht, rfl⟩)
        cases e5
        have : ∀ {ts : List Addr} {zs : List (Int × Int)}, Prs H2 ts zs → ∀ t ∈ ts, ∃ z, AtP H2 t z := fun {ts zs} hp => by
          induction hp with
          | nil => intro t ht; simp at ht
          | cons r s ih =>
            intro t ht
            rcases List.mem_cons.mp ht with z | z
            · subst z; exact ⟨_, r⟩
            · exact ih t z
        exact this h2 t hu
      refine k d _ ((us.map V.ref).map (keyOf H2)) (fresh_back e2 hd) (e2.trans (Ex.new hd)) ⟨us, upd_same, (prs_keys hall).mono (Ex.new hd)⟩ ⟨?_, ?_⟩
      · rw [← hk]
        exact hper.map _
      · refine List.pairwise_map.mpr (List.Pairwise.imp ?_ hs)
        intro a b hab
        have := SrtO.lexB_no.mp hab
        unfold lexLe
        omega
/-- [row[1] for row in ..] over a new list of pairs -/
theorem epl_seconds {P : List (Int × Int) → Prop} {tl : TE} {jj : Nat} {vs : List Nat} (h : EvPL tl σ H P) (hz : ∀ ys, P ys → ys.length ≤ 40000) (hw : ∀ x, wipe ((wipe σ vs).set jj (some x)) vs = wipe σ vs)
    (hj : ∀ x, ((wipe σ vs).set jj (some x))[jj]? = some (some x)) :
    ∀ H1, Ex H H1 → ∀ Q : VK, (∀ p H2 zs, H1 p = none → Ex H1 H2 → IL H2 p (zs.map (·.2)) → P zs → Q (.ref p) H2) → (tLc (iList K tl) (gName jj) tYes (tOp (rIxT K) (tVar jj) (tC (.int 1))) vs) σ H1 Q := fun H1 e Q k => by
  refine h H1 e _ fun a H2 zs na e2 hp hP => ?_
  obtain ⟨ts, h1, h2⟩ := hp
  refine ⟨a, rfl, ⟨_, SqL.of h1⟩, fun Dl hD => ?_⟩
  have hlen : (ts.map V.ref).length = zs.length := by rw [List.length_map, h2.len]
  have hzl := hz _ hP
  refine lc_list (K := K) (xs := ts.map V.ref) (fun i H' => Ex H2 H' ∧ H' Dl = some (.lst ((zs.take i).map fun z => V.int z.2))) ⟨Ex.new hD, upd_same⟩ (fun i H' _ p => SqL.of (p.1 _ _ h1)) (fun i x H' hi pv => ?_) fun H' pv => ?_
  · obtain ⟨p1, p2⟩ := pv
    refine ⟨hw x, ?_⟩
    rw [List.getElem?_map] at hi
    obtain ⟨t, et, rfl⟩ := Option.map_eq_some_iff.mp hi
    have hat : ∀ {ts : List Addr} {zs : List (Int × Int)} {i : Nat} {t : Addr}, Prs H2 ts zs → ts[i]? = some t → ∃ z, zs[i]? = some z ∧ AtP H2 t z := fun {ts zs i t} hp => by
      induction hp generalizing i with
      | nil => intro h; simp at h
      | cons r s ih =>
        intro h
        cases i with
        | zero => cases h; exact ⟨_, rfl, r⟩
        | succ i => exact ih h
    obtain ⟨z, ez, az⟩ := hat h2 et
    have hlt := (List.getElem?_eq_some_iff.mp ez).1
    refine (ev_op (ev_var (hj _)) ev_c (rv_ixT (SqT.of (p1 _ _ az)) (atI_nat (j := 1) rfl)) : Ev (tOp (rIxT K) (tVar jj) (tC (.int 1))) _ H' (.int z.2)) H' (Ex.refl _) _ fun H4 e4 => ?_
    refine ⟨_, e4 _ _ p2, sz_lt (by rw [List.length_map, List.length_take]; omega), Ex.mut (p1.trans e4) hD, ?_⟩
    rw [List.take_add_one, ez, List.map_append]
    exact upd_same
  · obtain ⟨p1, p2⟩ := pv
    rw [hlen, List.take_length] at p2
    refine k Dl H' zs (fresh_back e2 hD) (e2.trans p1) ?_ hP
    show H' Dl = some (.lst ((zs.map (·.2)).map V.int))
    rw [List.map_map]
    exact p2
/-- for i, x in enumerate(a new list) -/
theorem s_forEnN {xs : List V} {tl : TE} (h : EvL tl σ H xs) (Pv : Addr → Nat → St → Hp → Prop) (h0 : ∀ p H1, H p = none → Ex H H1 → H1 p = some (.lst xs) → Pv p 0 σ H1) (hl : ∀ p i σ H, i ≤ xs.length → Pv p i σ H → SqL K H p xs)
    (hs : ∀ p i x T σ H, xs[i]? = some x → H T = none → Pv p i σ H → g (.ref T) σ (upd H T (.tup [.int (i : Int), x])) fun σ2 H2 => tu { D with nx := Pv p (i + 1), ct := Pv p (i + 1), bk := D.nx } σ2 H2) (hd : ∀ p σ H, Pv p xs.length σ H → D.nx σ H) :
    tFor (iEnum K (tCons tl tNil)) g tu D σ H := h H (Ex.refl H) _ fun p H1 np e hx => by
  refine ⟨p, xs, rfl, SqL.of hx, fun i m σ H => m = xs.length - i ∧ i ≤ xs.length ∧ Pv p i σ H, ⟨xs.length, by simp, Nat.zero_le _, h0 p H1 np e hx⟩, ?_⟩
  rintro i m σ H ⟨rfl, hi, pv⟩
  have q := hl p i σ H hi pv
  by_cases hlt : i < xs.length
  · refine .inr ⟨⟨xs, xs[i], q, List.getElem?_eq_getElem hlt⟩, Pv p (i + 1), fun σ' H' p' => ⟨xs.length - (i + 1), by omega, rfl, hlt, p'⟩, fun v H' y => ?_⟩
    obtain ⟨T, x, rfl, nT, rfl, y⟩ := y
    exact hs p i x T σ H (y _ q) nT pv
  · have e : i = xs.length := by omega
    subst e
    exact .inl ⟨⟨xs, q, Nat.le_refl _⟩, hd p σ H pv⟩
theorem q_forEnN {xs : List V} {tl : TE} (h : EvL tl σ H xs) (Pv : Addr → Nat → St → Hp → Prop) (h0 : ∀ p H1, H p = none → Ex H H1 → H1 p = some (.lst xs) → Pv p 0 σ H1) (hl : ∀ p i σ H, i ≤ xs.length → Pv p i σ H → SqL K H p xs)
    (hs : ∀ p i x T σ H, xs[i]? = some x → H T = none → Pv p i σ H → g (.ref T) σ (upd H T (.tup [.int (i : Int), x])) fun σ2 H2 => tu { D with nx := Pv p (i + 1), ct := Pv p (i + 1), bk := tz D } σ2 H2) (hd : ∀ p σ H, Pv p xs.length σ H → tz D σ H) :
    tSeq (tFor (iEnum K (tCons tl tNil)) g tu) tz D σ H := s_forEnN (D := { D with nx := tz D }) h Pv h0 hl hs hd
/-- xs + ys, sorted(xs) of whole numbers -/
theorem el_catI (ha : Ev ta σ H (.ref p)) (hb : Ev tb σ H (.ref q)) (hp : IL H p ns) (hq : IL H q ms) (hz : ns.length + ms.length ≤ 100000) : EvL (tOp rCat ta tb) σ H ((ns ++ ms).map V.int) := fun H1 e Q k =>
  ha H1 e _ fun H2 e2 => hb H2 (e.trans e2) _ fun H3 e3 => ⟨p, q, _, _, rfl, rfl, hp.mono ((e.trans e2).trans e3), hq.mono ((e.trans e2).trans e3), sz_of (by rw [List.length_map, List.length_map]; exact hz), fun d nd => k d _ (fresh_back (e2.trans e3) nd) ((e2.trans e3).trans (Ex.new nd)) (by rw [upd_same, List.map_append])⟩
theorem el_sortI (h : Ev te σ H (.ref p)) (hp : IL H p ns) (hm : ms.Perm ns) (hs : ms.Pairwise (· ≤ ·)) : EvL (tCB (rSortedI K) (tCons te tNil)) σ H (ms.map V.int) := fun H1 e Q k =>
  h H1 e _ fun H2 e2 => ⟨p, ns, rfl, SqL.of (hp.mono (e.trans e2)), fun ns' d h1 h2 nd => by
    have : ns' = ms := (h1.trans hm.symm).eq_of_pairwise (fun x y _ _ a b => Int.le_antisymm a b) h2 hs
    subst this
    exact k d _ (fresh_back e2 nd) (e2.trans (Ex.new nd)) upd_same⟩
end
end DL
namespace DL
open PySem PySem.Spec PyProof.Rows L2 Evl
section
variable {K : PySem.W.Frag} {σ : St} {H H' : Hp} {ta tb te ti : TE} {tA : TA} {t' : TT} {D : Ends} {tu tz : TS} {g : TG} {p q l : Addr} {js ks : List T3} {j : T3} {ns ms : List Int}
/-- the items of a display, triples -/
def EvTs (tA : TA) (σ : St) (H : Hp) (js : List T3) : Prop := ∀ H1, Ex H H1 → ∀ Q : List V → Hp → Prop, (∀ (ts : List Addr) H2, Ex H1 H2 → Tps H2 ts js → Q (ts.map V.ref) H2) → tA σ H1 Q
theorem ets_nil : EvTs tNil σ H [] := fun H1 _ Q k => k [] H1 (Ex.refl _) .nil
theorem ets_cons (h : EvU te σ H (tv j)) (hr : EvTs tA σ H js) : EvTs (tCons te tA) σ H (j :: js) := fun H1 e Q k =>
  h H1 e _ fun t H2 _ e2 ht => hr H2 (e.trans e2) _ fun ts H3 e3 hts => k (t :: ts) H3 (e2.trans e3) (.cons (e3 _ _ ht) hts)
theorem ets_consR {t : Addr} (h : Ev te σ H (.ref t)) (a : AtT H t j) (hr : EvTs tA σ H js) : EvTs (tCons te tA) σ H (j :: js) := fun H1 e Q k =>
  h H1 e _ fun H2 e2 => hr H2 (e.trans e2) _ fun ts H3 e3 hts => k (t :: ts) H3 (e2.trans e3) (.cons (e3 _ _ (e2 _ _ (e _ _ a))) hts)
theorem etl_lst (h : EvTs tA σ H js) (hz : js.length ≤ 100000) : EvTL (tLst tA) σ H js := fun H1 e Q k =>
  h H1 e _ fun ts H2 e2 hts => ⟨sz_of (by rw [List.length_map, hts.len]; exact hz), fun d nd => k d _ (fresh_back e2 nd) (e2.trans (Ex.new nd)) ⟨ts, upd_same, hts.mono (Ex.new nd)⟩⟩
/-- [a, b, ..][i] of whole numbers written out -/
theorem ev_pick {xs : List V} {i : Nat} {v : V} (ha : EvL ta σ H xs) (hi : ∀ H1, Ex H H1 → Ev ti σ H1 (.int (i : Int))) (hv : xs[i]? = some v) : Ev (tOp (rIxL K) ta ti) σ H v :=
  ev_opL1 ha hi fun p H1 hp _ => rv_ixL (SqL.of hp) (atI_nat hv)
theorem el_two {a b : Int} (ha : Ev ta σ H (.int a)) (hb : Ev tb σ H (.int b)) : EvL (tLst (tCons ta (tCons tb tNil))) σ H [.int a, .int b] := el_lst (ea_cons ha (ea_cons hb ea_nil)) (show 2 ≤ 100000 by decide)
/-- the last of a list of triples -/
theorem ev_lastFld {r : List T3} {v : V} {z : Int} (ha : Ev ta σ H (.ref p)) (hi : Ev ti σ H (.int (-1))) (hp : TL H p (r ++ [j])) (hz : Ev te σ H (.int z)) (hv : atI (tv j) z = some v) : Ev (tOp (rIxT K) (tOp (rIxL K) ta ti) te) σ H v := by
  obtain ⟨ts, h1, h2⟩ := hp
  have h3 := h2.drop r.length
  rw [List.drop_left] at h3
  obtain ⟨u, hu⟩ : ∃ u, ts.drop r.length = [u] := List.length_eq_one_iff.mp h3.len
  have a : AtT H u j := by
    rw [hu] at h3
    cases h3 with
    | cons a _ => exact a
  have e : ts.map V.ref = (ts.take r.length).map V.ref ++ [V.ref u] := by
    rw [show ([V.ref u] : List V) = [u].map V.ref from rfl, ← List.map_append, ← hu, List.take_append_drop]
  rw [e] at h1
  exact ev_op (ev_op ha hi (rv_ixL (SqL.of h1) (atI_last _ _))) hz (rv_ixT (SqT.of a) hv)
theorem etl_catV (ha : Ev ta σ H (.ref p)) (hp : TL H p js) (hb : EvTL tb σ H ks) (hz : js.length + ks.length ≤ 100000) : EvTL (tOp rCat ta tb) σ H (js ++ ks) := fun H1 e Q k =>
  ha H1 e _ fun H2 e2 => hb H2 (e.trans e2) _ fun b H3 nb e3 pb => by
    obtain ⟨ts, h1, h2⟩ := hp.mono ((e.trans e2).trans e3)
    obtain ⟨us, g1, g2⟩ := pb
    refine ⟨p, b, _, _, rfl, rfl, h1, g1, sz_of (by rw [List.length_map, List.length_map, h2.len, g2.len]; exact hz), fun d nd => k d _ (fresh_back (e2.trans e3) nd) ((e2.trans e3).trans (Ex.new nd)) ⟨ts ++ us, ?_, (h2.append g2).mono (Ex.new nd)⟩⟩
    rw [upd_same, List.map_append]
end
end DL
namespace DL
open PySem PySem.Spec PyProof.Rows L2 Evl
section
variable {K : PySem.W.Frag} {σ : St} {H H' : Hp} {ta tb te ti : TE} {tA : TA} {t' : TT} {D : Ends} {tu tz : TS} {g : TG} {p q l : Addr} {js ks : List T3} {j : T3} {ns ms : List Int}
/-- for .. in reversed(a list of triples) -/
theorem s_forRvTL (h : EvA tA σ H [.ref p]) (hx : TL H p js) (Pv : Nat → St → Hp → Prop) (h0 : ∀ H1, Ex H H1 → Pv 0 σ H1) (hl : ∀ i σ H, Pv i σ H → TL H p js)
    (hs : ∀ i q t σ H, i < js.length → js[js.length - 1 - i]? = some q → AtT H t q → Pv i σ H → g (.ref t) σ H fun σ2 H2 => tu { D with nx := Pv (i + 1), ct := Pv (i + 1), bk := D.nx } σ2 H2) (hd : ∀ σ H, Pv js.length σ H → D.nx σ H) : tFor (iRev K tA) g tu D σ H :=
  h H (Ex.refl H) _ fun H1 e => by
    obtain ⟨xs, h1, h2⟩ := (hx.mono e).sq (K := K)
    refine ⟨p, xs, rfl, h1, ?_⟩
    rw [h2]
    refine ⟨fun i m σ H => m = js.length - i ∧ i ≤ js.length ∧ Pv i σ H, ⟨js.length, rfl, Nat.zero_le _, h0 H1 e⟩, ?_⟩
    rintro i m σ H ⟨rfl, hi, pv⟩
    have q := hl i σ H pv
    by_cases hlt : i < js.length
    · have hj : js.length - 1 - i < js.length := by omega
      obtain ⟨t, ts, g1, g2, a⟩ := q.atI (List.getElem?_eq_getElem hj)
      refine .inr ⟨⟨hlt, _, _, SqL.of g1, g2⟩, Pv (i + 1), fun σ' H' p' => ⟨js.length - (i + 1), by omega, rfl, hlt, p'⟩, fun v H' y => ?_⟩
      obtain ⟨e, hy⟩ := y
      subst e
      have z := (hy _ (SqL.of g1)).symm.trans g2
      cases z
      exact hs i _ t σ _ hlt (List.getElem?_eq_getElem hj) a pv
    · have e : i = js.length := by omega
      subst e
      exact .inl ⟨Nat.le_refl _, hd σ H pv⟩
theorem q_forRvTL (h : EvA tA σ H [.ref p]) (hx : TL H p js) (Pv : Nat → St → Hp → Prop) (h0 : ∀ H1, Ex H H1 → Pv 0 σ H1) (hl : ∀ i σ H, Pv i σ H → TL H p js)
    (hs : ∀ i q t σ H, i < js.length → js[js.length - 1 - i]? = some q → AtT H t q → Pv i σ H → g (.ref t) σ H fun σ2 H2 => tu { D with nx := Pv (i + 1), ct := Pv (i + 1), bk := tz D } σ2 H2) (hd : ∀ σ H, Pv js.length σ H → tz D σ H) : tSeq (tFor (iRev K tA) g tu) tz D σ H :=
  s_forRvTL (D := { D with nx := tz D }) h hx Pv h0 hl hs hd
/-- [.. for i, x in enumerate(a new list)] -/
theorem el_lcEnN {xs : List V} {tl : TE} {vs : List Nat} (v : Nat → V) (s2 : Nat → V → St) (h : EvL tl σ H xs) (hz : xs.length ≤ 40000)
    (hg : ∀ (i : Nat) x T H1 (Q : St → Hp → Prop), H1 T = some (.tup [.int (i : Int), x]) → Q (s2 i x) H1 → g (.ref T) (wipe σ vs) H1 Q) (hw : ∀ i x, wipe (s2 i x) vs = wipe σ vs)
    (he : ∀ i x H1, xs[i]? = some x → Ex H H1 → Ev te (s2 i x) H1 (v i)) : EvL (tLc (iEnum K (tCons tl tNil)) g tYes te vs) σ H ((List.range xs.length).map v) := fun H0 e Q k =>
  h H0 e _ fun p H1 np e1 hp => by
    refine ⟨p, xs, rfl, SqL.of hp, fun Dl hD => ?_⟩
    refine ⟨fun i m H' => m = xs.length - i ∧ i ≤ xs.length ∧ Ex H1 H' ∧ H' Dl = some (.lst ((List.range i).map v)), ⟨xs.length, rfl, Nat.zero_le _, Ex.new hD, upd_same⟩, ?_⟩
    rintro i m H' ⟨rfl, hi, e2, hDl⟩
    have hpx := e2 _ _ hp
    by_cases hlt : i < xs.length
    · refine .inr ⟨⟨xs, xs[i], SqL.of hpx, List.getElem?_eq_getElem hlt⟩, fun H2 => Ex H1 H2 ∧ H2 Dl = some (.lst ((List.range (i + 1)).map v)), fun H2 p2 => ⟨xs.length - (i + 1), by omega, rfl, hlt, p2.1, p2.2⟩, fun y H2 hy => ?_⟩
      obtain ⟨T, x, rfl, nT, rfl, hx⟩ := hy
      have hx := hx _ (SqL.of hpx)
      have e3 : Ex H' (upd H' T (.tup [.int (i : Int), x])) := Ex.new nT
      refine hg i x T _ _ upd_same ⟨hw i x, ?_⟩
      show te (s2 i x) _ _
      refine he i x _ hx (((e.trans e1).trans e2).trans e3) _ (Ex.refl _) _ fun H4 e4 => ?_
      refine ⟨_, e4 _ _ (e3 _ _ hDl), sz_lt (by rw [List.length_map, List.length_range]; omega), Ex.mut ((e2.trans e3).trans e4) hD, ?_⟩
      rw [List.range_succ, List.map_append]
      exact upd_same
    · have e0 : i = xs.length := by omega
      subst e0
      exact .inl ⟨⟨xs, SqL.of hpx, Nat.le_refl _⟩, k Dl H' (fresh_back e1 hD) (e1.trans e2) hDl⟩
theorem len_flat (f : Int → Int → Int) (es : List Int) : ∀ bs : List Int, (bs.flatMap fun x => es.map (f x)).length = bs.length * es.length
  | [] => by rw [List.flatMap_nil, List.length_nil, Nat.zero_mul]
  | b :: bs => by
    rw [List.flatMap_cons, List.length_append, List.length_map, len_flat f es bs, List.length_cons, Nat.succ_mul, Nat.add_comm]
/-- [f(b, e) for b in bs for e in es] -/
theorem el_lc2I {bs es : List Int} {tl tl1 : TE} {a b : Nat} {vs vs1 : List Nat} (f : Int → Int → Int) (h : Ev tl σ H (.ref p)) (hb : IL H p bs) (hE : IL H q es) (h1 : ∀ x H1, Ex H H1 → Ev tl1 ((wipe σ vs).set a (some (.int x))) H1 (.ref q)) (hz : bs.length ≤ 100) (hz1 : es.length ≤ 100)
    (hw : ∀ x, wipe ((wipe σ vs).set a (some (.int x))) vs = wipe σ vs) (hw1 : ∀ x y, wipe ((wipe ((wipe σ vs).set a (some (.int x))) vs1).set b (some (.int y))) vs1 = wipe ((wipe σ vs).set a (some (.int x))) vs1)
    (he : ∀ x y H1, Ex H H1 → Ev te ((wipe ((wipe σ vs).set a (some (.int x))) vs1).set b (some (.int y))) H1 (.int (f x y))) :
    EvL (tLc2 (iList K tl) (gName a) tYes (iList K tl1) (gName b) tYes te vs vs1) σ H ((bs.flatMap fun x => es.map (f x)).map V.int) := fun H0 e Q k =>
  h H0 e _ fun H1 e1 => by
    have eb := e.trans e1
    have hb1 := hb.mono eb
    refine ⟨p, rfl, ⟨_, SqL.of hb1⟩, fun Dl hD => ?_⟩
    refine ⟨fun i m H' => m = bs.length - i ∧ i ≤ bs.length ∧ Ex H1 H' ∧ H' Dl = some (.lst (((bs.take i).flatMap fun x => es.map (f x)).map V.int)), ⟨bs.length, rfl, Nat.zero_le _, Ex.new hD, upd_same⟩, ?_⟩
    rintro i m H' ⟨rfl, hi, e2, hDl⟩
    have hpx := hb1.mono e2
    by_cases hlt : i < bs.length
    · have hbi := List.getElem?_eq_getElem hlt
      have hvi : (bs.map V.int)[i]? = some (V.int bs[i]) := by rw [List.getElem?_map, hbi]; rfl
      refine .inr ⟨⟨_, _, SqL.of hpx, hvi⟩, fun H2 => Ex H1 H2 ∧ H2 Dl = some (.lst (((bs.take (i + 1)).flatMap fun x => es.map (f x)).map V.int)), fun H2 p2 => ⟨bs.length - (i + 1), by omega, rfl, hlt, p2.1, p2.2⟩, fun y H2 hy => ?_⟩
      obtain ⟨rfl, hy⟩ := hy
      have hy := (hy _ (SqL.of hpx)).symm.trans hvi
      cases hy
      generalize bs[i] = x at *
      refine ⟨hw x, ?_⟩
      unfold tYes
      dsimp only
      rw [if_pos rfl]
      refine h1 x H2 (eb.trans e2) H2 (Ex.refl _) _ fun H3 e3 => ?_
      have hE3 := hE.mono ((eb.trans e2).trans e3)
      refine ⟨q, rfl, ⟨_, SqL.of hE3⟩, ?_⟩
      refine ⟨fun j m H' => m = es.length - j ∧ j ≤ es.length ∧ Ex H1 H' ∧ H' Dl = some (.lst (((bs.take i).flatMap (fun x => es.map (f x)) ++ (es.take j).map (f x)).map V.int)), ⟨es.length, rfl, Nat.zero_le _, e2.trans e3, ?_⟩, ?_⟩
      · rw [List.take_zero, List.map_nil, List.append_nil]
        exact e3 _ _ hDl
      · rintro j m H4 ⟨rfl, hj, e4, hDl4⟩
        have hq4 := hE.mono (eb.trans e4)
        by_cases hlt2 : j < es.length
        · have hej := List.getElem?_eq_getElem hlt2
          have hvj : (es.map V.int)[j]? = some (V.int es[j]) := by rw [List.getElem?_map, hej]; rfl
          refine .inr ⟨⟨_, _, SqL.of hq4, hvj⟩, fun H2 => Ex H1 H2 ∧ H2 Dl = some (.lst (((bs.take i).flatMap (fun x => es.map (f x)) ++ (es.take (j + 1)).map (f x)).map V.int)), fun H2 p2 => ⟨es.length - (j + 1), by omega, rfl, hlt2, p2.1, p2.2⟩, fun y H5 hy => ?_⟩
          obtain ⟨rfl, hy⟩ := hy
          have hy := (hy _ (SqL.of hq4)).symm.trans hvj
          cases hy
          refine ⟨hw1 x _, ?_⟩
          show te _ H5 _
          refine he x es[j] H5 (eb.trans e4) H5 (Ex.refl _) _ fun H6 e6 => ?_
          refine ⟨_, e6 _ _ hDl4, sz_lt ?_, Ex.mut (e4.trans e6) hD, ?_⟩
          · rw [List.length_map, List.length_append, len_flat, List.length_map, List.length_take, List.length_take]
            have : min i bs.length * es.length ≤ 100 * 100 := Nat.mul_le_mul (by omega) hz1
            omega
          · rw [List.take_add_one, hej, upd_same, List.map_append, List.map_append, List.map_append, List.map_append, List.append_assoc]
            rfl
        · have e0 : j = es.length := by omega
          subst e0
          refine .inl ⟨⟨_, SqL.of hq4, by rw [List.length_map]; exact Nat.le_refl _⟩, e4, ?_⟩
          rw [hDl4, List.take_length, List.take_add_one, hbi, List.flatMap_append]
          congr 3
          show _ = _ ++ ([x].flatMap fun x => es.map (f x))
          rw [List.flatMap_cons, List.flatMap_nil, List.append_nil]
    · have e0 : i = bs.length := by omega
      subst e0
      rw [List.take_length] at hDl
      exact .inl ⟨⟨_, SqL.of hpx, by rw [List.length_map]; exact Nat.le_refl _⟩, k Dl H' (fresh_back e1 hD) (e1.trans e2) hDl⟩
theorem ev_maxN (h : EvL te σ H (ns.map V.int)) {m : Int} (hm : m ∈ ns) (hle : ∀ y ∈ ns, y ≤ m) : Ev (tCB (rMax K) (tCons te tNil)) σ H (.int m) := fun H1 e Q k =>
  h H1 e _ fun a H2 _ e2 hl => ⟨a, ns, rfl, SqL.of hl, List.length_pos_iff.mpr (List.ne_nil_of_mem hm), fun m' hm' hle' => by
    have : m' = m := Int.le_antisymm (hle _ hm') (hle' _ hm)
    rw [this]; exact k H2 e2⟩
/-- [x] + a new list of whole numbers -/
theorem el_consI {x : Int} (ha : Ev ta σ H (.int x)) (hb : EvL tb σ H (ns.map V.int)) (hz : ns.length ≤ 99999) : EvL (tOp rCat (tLst (tCons ta tNil)) tb) σ H ((x :: ns).map V.int) := fun H1 e Q k =>
  ha H1 e _ fun H2 e2 => ⟨sz_of (show 1 ≤ 100000 by decide), fun a na => hb _ ((e.trans e2).trans (Ex.new na)) _ fun b H3 nb e3 h3 =>
    ⟨a, b, _, _, rfl, rfl, e3 _ _ upd_same, h3, sz_of (by rw [List.length_map]; show 1 + ns.length ≤ 100000; omega), fun d nd => k d _ (fresh_back ((e2.trans (Ex.new na)).trans e3) nd) (((e2.trans (Ex.new na)).trans e3).trans (Ex.new nd)) (by rw [upd_same]; rfl)⟩⟩
/-- truth of a new list -/
theorem et_truNL {xs : List V} (h : EvL te σ H xs) : EvT (fun σ H Q => te σ H fun x H' => ∃ k, TruV K x H' k ∧ Q k H') σ H (!xs.isEmpty) := fun H1 e Q k =>
  h H1 e _ fun p H2 _ e2 hp => ⟨!xs.isEmpty, .inl ⟨_, SqL.of hp, rfl⟩, k H2 e2⟩
/-! ### the begin, looked for from the last piece on -/
def Rv (js ps : List T3) (d : Int) (m k : Nat) (b : Int) : Prop :=
  (m < k ∧ b = d) ∨ (k ≤ m ∧ (∃ r, ps[k]? = some r ∧ r.2.1 = b) ∧ (∀ j q, k ≤ j → j ≤ m → ps[j]? = some q → du js q.1.toNat ≤ d) ∧ ∀ j q r, k ≤ j → j < m → ps[j]? = some q → ps[j + 1]? = some r → q.2.2 = r.2.1)
theorem Rv.skip {js ps : List T3} (W : WayOk js ps) {d : Int} {m k : Nat} {b : Int} {x q : T3} (hx : ps[m]? = some x) (hxb : x.2.1 < d) (hxe : d ≤ x.2.2) (I : Rv js ps d m (k + 1) b) (h : ps[k]? = some q) (hq : d ≤ q.2.1) : Rv js ps d m k b := by
  have hmk : m < k := by
    rcases Nat.lt_or_ge m k with g | g
    · exact g
    · exfalso
      rcases Nat.lt_or_ge k m with g2 | g2
      · have h1 := ord W g2 h hx
        have h2 := (W k q h).be
        omega
      · have : k = m := by omega
        subst this
        rw [hx] at h
        cases h
        omega
  rcases I with ⟨_, hb⟩ | ⟨h1, _⟩
  · exact .inl ⟨hmk, hb⟩
  · omega
theorem Rv.at_ {js ps : List T3} (W : WayOk js ps) {d : Int} {m k : Nat} {b : Int} {x q : T3} (hx : ps[m]? = some x) (hxb : x.2.1 < d) (hxe : d ≤ x.2.2) (I : Rv js ps d m (k + 1) b) (h : ps[k]? = some q) (hq : ¬ d ≤ q.2.1) : k ≤ m := by
  rcases Nat.lt_or_ge m k with g | g
  · have h1 := ord W g hx h
    omega
  · exact g
theorem Rv.step {js ps : List T3} (W : WayOk js ps) {d : Int} {m k : Nat} {b : Int} {x q : T3} (hx : ps[m]? = some x) (hxb : x.2.1 < d) (hxe : d ≤ x.2.2) (I : Rv js ps d m (k + 1) b) (h : ps[k]? = some q) (hq : ¬ d ≤ q.2.1)
    (h1 : ¬ q.2.2 < b) (h2 : ¬ d < du js q.1.toNat) : Rv js ps d m k q.2.1 := by
  have hk := I.at_ W hx hxb hxe h hq
  refine .inr ⟨hk, ⟨q, h, rfl⟩, ?_⟩
  rcases I with ⟨g, hb⟩ | ⟨g, ⟨r, hr, hb⟩, g1, g2⟩
  · have : k = m := by omega
    subst this
    exact ⟨fun j y a1 a2 hy => by
      have : j = k := by omega
      subst this
      rw [h] at hy
      cases hy
      omega, fun j _ _ a1 a2 => by omega⟩
  · refine ⟨fun j y a1 a2 hy => ?_, fun j y z a1 a2 hy hz => ?_⟩
    · rcases Nat.eq_or_lt_of_le a1 with e | e
      · subst e
        rw [h] at hy
        cases hy
        omega
      · exact g1 j y e a2 hy
    · rcases Nat.eq_or_lt_of_le a1 with e | e
      · subst e
        rw [h] at hy
        rw [hr] at hz
        cases hy
        cases hz
        have := ord W (Nat.lt_succ_self k) h hr
        omega
      · exact g2 j y z e a2 hy hz
/-- the walk stops: at a break, or behind the first piece -/
theorem Rv.stop {js ps : List T3} (W : WayOk js ps) {d : Int} {m k : Nat} {b : Int} {x q : T3} (hx : ps[m]? = some x) (hxb : x.2.1 < d) (hxe : d ≤ x.2.2) (hxd : du js x.1.toNat ≤ d) (I : Rv js ps d m (k + 1) b) (h : ps[k]? = some q) (hq : ¬ d ≤ q.2.1)
    (hs : q.2.2 < b ∨ d < du js q.1.toNat) : ∃ (k : Nat) (r : T3), ps[k]? = some r ∧ r.2.1 = b ∧ Bk js ps d k m := by
  have hk := I.at_ W hx hxb hxe h hq
  rcases I with ⟨g, hb⟩ | ⟨g, ⟨r, hr, hb⟩, g1, g2⟩
  · have : k = m := by omega
    subst this
    rw [hx] at h
    cases h
    omega
  · refine ⟨k + 1, r, hr, hb, g, g1, g2, .inr ⟨q, r, h, hr, ?_⟩⟩
    rw [hb]
    exact hs
theorem Rv.first {js ps : List T3} {d : Int} {m : Nat} {b : Int} (I : Rv js ps d m 0 b) : ∃ (k : Nat) (r : T3), ps[k]? = some r ∧ r.2.1 = b ∧ Bk js ps d k m := by
  rcases I with ⟨g, _⟩ | ⟨g, ⟨r, hr, hb⟩, g1, g2⟩
  · omega
  · exact ⟨0, r, hr, hb, g, g1, g2, .inl rfl⟩
end
/-- the least of the spare times is what leastM says -/
theorem least_flat {js : List T3} (S : Sound js) (c d : Int) : lmin ((comesB js c).flatMap fun b => (duesE js d).map fun e => e - b - loadJ js b e) = leastM js c d := by
  have hmem : ∀ b e, b ∈ comesB js c → e ∈ duesE js d → e - b - loadJ js b e ∈ (comesB js c).flatMap fun b => (duesE js d).map fun e => e - b - loadJ js b e := fun b e hb he =>
    List.mem_flatMap.mpr ⟨b, hb, List.mem_map.mpr ⟨e, he, rfl⟩⟩
  have hle := (minB_le js (duesE js d) (comesB js c) (d - c)).2
  refine (lmin_uniq ?_ fun x hx => ?_).symm
  · rcases minB_mem js (duesE js d) (comesB js c) (d - c) with g | ⟨b, hb, e, he, g⟩
    · have h1 : c ∈ comesB js c := List.mem_cons_self
      have h2 : d ∈ duesE js d := List.mem_cons_self
      have h3 := hle c h1 d h2
      have h4 := load_nn S c d
      have : leastM js c d = d - c - loadJ js c d := by
        unfold leastM
        omega
      rw [this]
      exact hmem c d h1 h2
    · have : leastM js c d = e - b - loadJ js b e := g
      rw [this]
      exact hmem b e hb he
  · obtain ⟨b, hb, hx⟩ := List.mem_flatMap.mp hx
    obtain ⟨e, he, rfl⟩ := List.mem_map.mp hx
    exact hle b hb e he
theorem comesB_len (js : List T3) (c : Int) : (comesB js c).length ≤ js.length + 1 := by
  unfold comesB
  rw [List.length_cons, List.length_map]
  have := List.length_filter_le (fun j : T3 => decide (j.1 < c)) js
  omega
theorem duesE_len (js : List T3) (d : Int) : (duesE js d).length ≤ js.length + 1 := by
  unfold duesE
  rw [List.length_cons, List.length_map]
  have := List.length_filter_le (fun j : T3 => decide (d < j.2.2)) js
  omega
end DL
/-! several except clauses, each with a name or without; isinstance of what was caught -/
namespace L2
open PySem PySem.Spec PyProof.Rows
/-- slot o, if there is one -/
def nmd (o : Option Nat) (x : Option V) (σ : St) : St := match o with
  | none => σ
  | some i => σ.set i x
def Ends.past (D : Ends) (o : Option Nat) : Ends :=
  { nx := fun σ H => D.nx (nmd o none σ) H, rt := D.rt, bk := fun σ H => D.bk (nmd o none σ) H, ct := fun σ H => D.ct (nmd o none σ) H }
abbrev Cl := Value × Option Nat × (Addr → Value → Option Addr → TS)
def wCl (K : PySem.W.Frag) (Wout : WX) (D : Ends) : List Cl → WX
  | [] => Wout
  | (c, o, ts) :: r => fun cls d σ H => ∃ b, PySem.W.exmOne K cls c = some b ∧
      (b = true → ∀ a, H a = none → ts a cls d (D.past o) (nmd o (some (.ref a)) σ) H) ∧ (b = false → wCl K Wout D r cls d σ H)
def SuiteOk (X : Cx) (ss : List Stmt) (ts : Addr → Value → Option Addr → TS) : Prop :=
  ∀ (a : Addr) (oe : Obj) (cls : Value) (d : Option Addr) (pn : List (Addr × Obj)), Zc cls d oe → (∃ us, oe.data = .fields us) → PSs (X.suite a ((a, oe) :: pn)) ss (ts a cls d)
inductive ClsOk (X : Cx) : List ExceptHandler → List Cl → Prop
  | nil : ClsOk X [] []
  | bare {x : Str} {c : Value} {ts : Addr → Value → Option Addr → TS} {u : Stmt} {us : List Stmt} {np ps : Pos} {hds : List ExceptHandler} {l : List Cl}
      (hc : Names X x c) (hu : SuiteOk X (u :: us) ts) (r : ClsOk X hds l) : ClsOk X (.ExceptHandler (some (.Name x np)) none (u :: us) ps :: hds) ((c, none, ts) :: l)
  | named {x n : Str} {i : Nat} {c : Value} {ts : Addr → Value → Option Addr → TS} {u : Stmt} {us : List Stmt} {np ps : Pos} {hds : List ExceptHandler} {l : List Cl}
      (hi : X.N[i]? = some n) (hn : X.env.kindOf n = some .local) (hc : Names X x c) (hu : SuiteOk X (u :: us) ts) (r : ClsOk X hds l) :
      ClsOk X (.ExceptHandler (some (.Name x np)) (some n) (u :: us) ps :: hds) ((c, some i, ts) :: l)
section
variable {X : Cx} {body : List Stmt} {g₀ : ExceptHandler} {gs : List ExceptHandler} {l : List Cl} {pos : Pos} {tb : WX → TS} {Wout : WX}
theorem ps_try_cl (stk : X.stack = X.env :: X.outer) (frm : X.env.frame = some X.env.locals) (nod : X.N.Nodup) (out : Takes X Wout)
    (inner : ∀ (W : WX) (qs : List (Addr × Obj)) (ex : Value → Shared → Prop), Takes (X.tr qs ex) W → PassesOwn (model X.prog X.w) X.A X.env ex → PSs (X.tr qs ex) body (tb W))
    (cl : ClsOk X (g₀ :: gs) l) : PS X (.Try body (g₀ :: gs) [] [] pos) (fun D σ H => tb (wCl X.K Wout D l) D σ H) := by
  refine ⟨fun pins s σ H D I rd => ?_⟩
  have frames : X.A.frames = some (X.env :: X.outer) := I.ok.frames.trans (congrArg some stk)
  refine wpAny_Try_except ?_
  refine wpAny_mono
    ((inner (wCl X.K Wout D l) (X.pn ++ pins)
        (fun ev t1 => wpAny (model X.prog X.w) X.A (noteFrame ev X.env) (fun _ t2 =>
          wpAny (model X.prog X.w) X.A (setFlight ev none) (fun _ t3 =>
            wpAny (model X.prog X.w) X.A (handleBy ev X.env (g₀ :: gs)) (SP X pins D) X.xe t3) X.xe t2) X.xe t1)
        (fun ev t1 caught => ?_) PassesOwn.looking).run [] s σ H D (I.toTry _) rd)
    (fun fl t1 done => ?_) (fun _ _ z => z)
  · obtain ⟨a, B, sB, _, σ1, H1, cls, d, rfl, inv0, nB, up, sky, na, os, agr, wish⟩ := caught
    have inv1 : Inv X pins σ1 H1 sB := inv0.ofTry I.ok
    rw [show (X.tr (X.pn ++ pins) _).stack = X.env :: X.outer from stk] at sky
    show wpAny (model X.prog X.w) X.A (noteFrame (.ref a) X.env) _ _ _
    refine Sky.land Zc.steady frames frm sky fun hp fly upA => ?_
    have inv2 : Inv X pins σ1 H1 { t1 with heap := hp } := inv1.landed nB fly.1 (up.trans upA) os agr
    obtain ⟨oe, us, got, zc, dat⟩ := fly.there
    have off : a ∉ frs (X.env :: X.outer) := fun hm => by
      obtain ⟨_, o', e', no⟩ := fly.2.2.1.mem hm
      rw [got] at e'
      cases e'
      exact no _ dat
    have offL : a ≠ X.env.locals := fun z => off (List.mem_filterMap.mpr ⟨X.env, List.mem_cons_self, by rw [frm, z]⟩)
    have offF : a ∉ X.fs := fun hm => by
      obtain ⟨e, he, q⟩ := List.mem_filterMap.mp hm
      exact off (List.mem_filterMap.mpr ⟨e, List.mem_cons_of_mem _ he, q⟩)
    have at0 := inv2.suite got dat na offL offF
    have ty : PySem.W.Looks (model X.prog X.w) hp (typeOf (.ref a)) cls := fun A Q E t k q => wpAny_typeOf_ref (k _ _ got) (by rw [zc.1]; exact q)
    have name : ∀ {x : Str} {c : Value} {np : Pos} {Q : Value → Shared → Prop} {E : Value → Shared → Prop}, Names X x c → Q c { t1 with heap := hp } →
        wpAny (model X.prog X.w) (X.A.mark (some (.ref a))) (eval (.Name x np) X.env) Q E { t1 with heap := hp } := fun {x c np Q E} hc q => by
      obtain ⟨g, nd, m | ⟨m, bv, nn⟩⟩ := hc
      · exact ld_glob (X := X.suite a ((a, oe) :: (X.pn ++ pins))) at0 g m q nd
      · exact ld_blt (X := X.suite a ((a, oe) :: (X.pn ++ pins))) at0 g m bv q nn nd
    have walk : ∀ {hds : List ExceptHandler} {cs : List Cl}, ClsOk X hds cs → wCl X.K Wout D cs cls d σ1 H1 →
        wpAny (model X.prog X.w) X.A (handleBy (.ref a) X.env hds) (SP X pins D) X.xe { t1 with heap := hp } := by
      intro hds cs ok
      induction ok with
      | nil =>
        intro w
        refine wpAny_handleBy_nil ?_
        obtain ⟨_, _, _, o1, vs1, T1, _, _, q1, _, q3, q4, _⟩ := id fly
        unfold PySem.passOn
        refine wpAny_bind (wpAny_field q1 q3 q4 ?_)
        rw [if_neg (by simp : ¬ ((Value.ref T1 == Value.none) = true))]
        have away : wpAny (model X.prog X.w) X.A (setFlight (.ref a) X.env.frame) (fun _ t4 =>
            wpAny (model X.prog X.w) X.A (throw (.ref a) : Sem Flow) (SP X pins D) X.xe t4) X.xe { t1 with heap := hp } := by
          rw [frm]
          refine HandSPX.setFlight_upZ fly fun h4 fly4 up4 => wpAny_throw (out _ _ ?_)
          exact ⟨a, B, sB, pins, σ1, H1, cls, d, rfl, inv1, nB, (up.trans upA).trans up4, .inr (.inr (by rw [stk]; exact fly4)), na, os, agr, w⟩
        first
          | exact wpAny_bind (wpAny_pure (wpAny_bind away))
          | exact wpAny_bind away
      | @bare x c ts u us2 np ps hds2 l2 hc hu r ih =>
        rintro ⟨b, ask, yes, no⟩
        refine wpAny_handleBy_cons (codeAny_handlers_test ?_) (by intro q; cases q)
        refine name hc ((PySem.W.exm_one (M := model X.prog X.w) inv2.kIn ty ask).here ?_)
        cases b with
        | false =>
          show wpAny _ X.A (handleBy (.ref a) X.env hds2) _ _ _
          exact ih (no rfl)
        | true =>
          refine codeAny_handlers_suite ?_
          refine HandSPX.lands_againZ fly fun h4 fly4 up4 => ?_
          have inv4 : Inv X pins σ1 H1 { t1 with heap := h4 } := inv1.landed nB fly4.1 ((up.trans upA).trans up4) os agr
          obtain ⟨oe4, _, got4, zc4, dat4⟩ := fly4.there
          refine wpAny_mono ((hu a oe4 cls d (X.pn ++ pins) zc4 ⟨_, dat4⟩).run [] _ _ H1 _ (inv4.suite got4 dat4 na offL offF) (yes rfl a na)) (fun f t6 fin => ?_) (fun _ _ z => z.elim)
          cases f with
          | ret v =>
            obtain ⟨_, _, _, k1, k2, k3⟩ := fin
            exact ⟨_, _, _, k1.unsuite I.ok, k2, k3⟩
          | next => obtain ⟨_, _, k1, k2⟩ := fin; exact ⟨_, _, k1.unsuite I.ok, k2⟩
          | brk => obtain ⟨_, _, k1, k2⟩ := fin; exact ⟨_, _, k1.unsuite I.ok, k2⟩
          | cont => obtain ⟨_, _, k1, k2⟩ := fin; exact ⟨_, _, k1.unsuite I.ok, k2⟩
      | @named x n i c ts u us2 np ps hds2 l2 hi hn hc hu r ih =>
        rintro ⟨b, ask, yes, no⟩
        refine wpAny_handleBy_cons (codeAny_handlers_test ?_) (by intro q; cases q)
        refine name hc ((PySem.W.exm_one (M := model X.prog X.w) inv2.kIn ty ask).here ?_)
        cases b with
        | false =>
          show wpAny _ X.A (handleBy (.ref a) X.env hds2) _ _ _
          exact ih (no rfl)
        | true =>
          refine codeAny_handlers_suite_as ?_
          refine HandSPX.lands_againZ fly fun h4 fly4 up4 => ?_
          have inv4 : Inv X pins σ1 H1 { t1 with heap := h4 } := inv1.landed nB fly4.1 ((up.trans upA).trans up4) os agr
          obtain ⟨oe4, _, got4, zc4, dat4⟩ := fly4.there
          refine store_ok (X := X.suite a ((a, oe4) :: (X.pn ++ pins))) (v := .ref a) (inv4.suite got4 dat4 na offL offF) nod hi (.inl hn) rfl (fun t5 inv5 => ?_) (.inr hn)
          refine wpAny_mono ((hu a oe4 cls d (X.pn ++ pins) zc4 ⟨_, dat4⟩).run [] t5 _ H1 _ inv5 (yes rfl a na)) (fun f t6 fin => ?_) (fun _ _ z => z.elim)
          have gone : ∀ {σ6 : St} {H6 : Hp} {Q : Shared → Prop}, Inv (X.suite a ((a, oe4) :: (X.pn ++ pins))) [] σ6 H6 t6 → (∀ t7, Inv X pins (σ6.set i none) H6 t7 → Q t7) →
              wpAny (model X.prog X.w) X.A (do bindName X.env n .none; unbindBehindTheSuite X.env n ps) (fun _ t7 => Q t7) X.xe t6 := fun k q => gone_ok (k.unsuite I.ok) nod hi hn q
          cases f with
          | ret v =>
            obtain ⟨_, _, _, k1, k2, k3⟩ := fin
            exact gone k1 fun _ k7 => ⟨_, _, _, k7, k2, k3⟩
          | next => obtain ⟨_, _, k1, k2⟩ := fin; exact gone k1 fun _ k7 => ⟨_, _, k7, k2⟩
          | brk => obtain ⟨_, _, k1, k2⟩ := fin; exact gone k1 fun _ k7 => ⟨_, _, k7, k2⟩
          | cont => obtain ⟨_, _, k1, k2⟩ := fin; exact gone k1 fun _ k7 => ⟨_, _, k7, k2⟩
    exact walk cl wish
  · cases fl with
    | ret v =>
      obtain ⟨_, _, _, k1, k2, k3⟩ := done
      exact ⟨_, _, _, k1.ofTry I.ok, k2, k3⟩
    | next => obtain ⟨_, _, k1, k2⟩ := done; exact wpAny_execs_nil ⟨_, _, k1.ofTry I.ok, k2⟩
    | brk => obtain ⟨_, _, k1, k2⟩ := done; exact ⟨_, _, k1.ofTry I.ok, k2⟩
    | cont => obtain ⟨_, _, k1, k2⟩ := done; exact ⟨_, _, k1.ofTry I.ok, k2⟩
end
/-! ### isinstance of what was caught -/
def rIsC (K : PySem.W.Frag) (a : Addr) (cls : Value) (d : Option Addr) : List V → Hp → VK → Prop := fun xs H Q => ∃ (C : Addr) (c : V) (cv : Value) (b : Bool),
  cls = .ref C ∧ d = none ∧ ExcC K C ∧ xs = [.ref a, c] ∧ (∀ u, RelV c u → u = cv) ∧ PySem.W.kitOne K (.ref C) cv = some b ∧ Q (.bl b) H
theorem call_isC {X : Cx} {a : Addr} {cls : Value} {d : Option Addr} {oe : Obj} {pn : List (Addr × Obj)} (hz : Zc cls d oe) (hf : ∃ vs, oe.data = .fields vs) : CallR (X.suite a ((a, oe) :: pn)) (.builtin "isinstance") (rIsC X.K a cls d) := by
  intro pins s σ H xs us Q I r h
  obtain ⟨C, c, cv, b, rfl, rfl, hC, rfl, h1, h2, h3⟩ := h
  exact call_isE hC hz hf pins s σ H _ us Q I r ⟨c, cv, b, rfl, h1, h2, h3⟩
/-- .. of a tuple of classes, just laid -/
def rIsCT (K : PySem.W.Frag) (a : Addr) (cls : Value) (d : Option Addr) : List V → Hp → VK → Prop := fun xs H Q => ∃ (C tp : Addr) (cs : List V) (us : List Value) (b : Bool),
  cls = .ref C ∧ d = none ∧ ExcC K C ∧ xs = [.ref a, .ref tp] ∧ H tp = some (.tup cs) ∧ Paired ClsV cs us ∧ PySem.W.kitAny K (.ref C) us = some b ∧ Q (.bl b) H
theorem call_isCT {X : Cx} {a : Addr} {cls : Value} {d : Option Addr} {oe : Obj} {pn : List (Addr × Obj)} (hz : Zc cls d oe) (hf : ∃ vs, oe.data = .fields vs) : CallR (X.suite a ((a, oe) :: pn)) (.builtin "isinstance") (rIsCT X.K a cls d) := by
  intro pins s σ H xs us Q I r h
  obtain ⟨C, tp, cs, ws, b, rfl, rfl, hC, rfl, hT, k, e, q⟩ := h
  obtain ⟨u1, u2, rfl, r1, r2⟩ := vals2 r
  cases (show u1 = Value.ref a from r1)
  cases (show u2 = Value.ref tp from r2)
  have got := (I.pin (a, oe) (List.mem_append_left _ List.mem_cons_self)).1
  have inst : PySem.W.InstAt s.heap a oe C none := by
    obtain ⟨vs, hv⟩ := hf
    obtain ⟨oc, od, dt, sl⟩ := oe
    obtain ⟨z1, z2⟩ := hz
    dsimp only at z1 z2 hv
    subst z1 z2 hv
    exact ⟨got, rfl, rfl, trivial⟩
  obtain ⟨_, its, rv, ot, t1, t2, n, t3⟩ := (I.hok tp _ hT : ObjOk X.prog X.w H s.heap tp (.tup cs))
  have eq := ClsV.all k rv
  subst eq
  obtain ⟨tc, td, tdt, tsl⟩ := ot
  dsimp only at t2 t3
  subst t2 t3
  exact PySem.W.kia_tup (PySem.W.handS_kitx_exc hC.hg hC.hk hC.hs hC.hd hC.ha hC.hn hC.ht hC.hm) I.kIn inst t1 e (fun z => nomatch z) fun tk => ⟨.bl b, H, I.kept (t' := tk) fun _ _ z => z, rfl, q⟩
theorem kit_ref {K : PySem.W.Frag} {C D : Addr} {b : Bool} (hd : PySem.W.hasDictIn K D = true) (ht : PySem.W.typeIn K (.ref D) = some (.type "type")) (hs : PySem.W.subIn K (.ref D) (.ref D) = some true) (h : PySem.W.subIn K (.ref C) (.ref D) = some b) : PySem.W.kitOne K (.ref C) (.ref D) = some b := by
  unfold PySem.W.kitOne
  by_cases e : (Value.ref C == Value.ref D) = true
  · rw [if_pos e]
    have : C = D := Value.ref.inj (beq_iff_eq.mp e)
    subst this
    rw [← hs, h]
  · rw [if_neg e]
    obtain ⟨cd, hc, _⟩ := PySem.W.any_some hd
    have e2 : ((PySem.W.clsIn K D).isSome && PySem.W.typeIn K (.ref D) == some (.type "type")) = true := by rw [hc, ht]; rfl
    show (if ((PySem.W.clsIn K D).isSome && PySem.W.typeIn K (.ref D) == some (.type "type")) = true then PySem.W.subIn K (.ref C) (.ref D) else none) = some b
    rw [if_pos e2]
    exact h
theorem kit_bt {K : PySem.W.Frag} {C : Addr} {T : String} {b : Bool} (h : PySem.W.subIn K (.ref C) (.type T) = some b) (hm : PySem.W.kitMeta T = true) : PySem.W.kitOne K (.ref C) (.type T) = some b := by
  unfold PySem.W.kitOne
  rw [if_neg (by simp)]
  show (if PySem.W.kitMeta T = true then PySem.W.subIn K (.ref C) (.type T) else none) = some b
  rw [if_pos hm]
  exact h
end L2
/-! texts, as lists of signs -/
namespace DL
open PySem PySem.Spec PyProof.Rows L2 Evl
abbrev S (l : List Nat) : Str := SX.S l
theorem S_num (n : Nat) : Str.ofString (toString ((n : Nat) : Int)) = S (TL.numL n) := TL.ext_tl (TL.tl_num n)
theorem joinL_flat : ∀ l : List (List Nat), TL.joinL [] l = l.flatten
  | [] => rfl
  | [p] => by rw [List.flatten_cons, List.flatten_nil, List.append_nil]; rfl
  | p :: q :: r => by
    rw [List.flatten_cons, ← joinL_flat (q :: r)]
    rfl
def numI (n : Int) : List Nat := TL.numL n.toNat
def rowL (j : T3) : List Nat := numI j.1 ++ [32] ++ numI j.2.1 ++ [32] ++ numI j.2.2 ++ [10]
def textL (js : List T3) : List Nat := (js.map rowL).flatten
def B60 : Int := 1000000000000000000000000000000000000000000000000000000000000
theorem numI_len {n : Int} (h : n < B60) : (numI n).length ≤ 60 := by
  unfold numI
  refine TL.numL_len (by decide) ?_
  have : (10 ^ 60 : Nat) = 1000000000000000000000000000000000000000000000000000000000000 := by decide
  unfold B60 at h
  omega
theorem log_small {n : Int} (h0 : 0 ≤ n) (h : n < B60) : n.natAbs.log2 < 1920 := by
  have h1 : n.natAbs < 2 ^ 200 := by
    have : (2 ^ 200 : Nat) = 1606938044258990275541962092341162602522202993782792835301376 := by decide
    unfold B60 at h
    omega
  rcases Nat.eq_zero_or_pos n.natAbs with z | z
  · rw [z]; decide
  · have := (Nat.log2_lt (by omega)).mpr h1
    omega
structure Small3 (j : T3) : Prop where
  c0 : 0 ≤ j.1
  c1 : j.1 < B60
  l0 : 0 ≤ j.2.1
  l1 : j.2.1 < B60
  d0 : 0 ≤ j.2.2
  d1 : j.2.2 < B60
theorem rowL_len {j : T3} (h : Small3 j) : (rowL j).length ≤ 183 := by
  unfold rowL
  have h1 := numI_len h.c1
  have h2 := numI_len h.l1
  have h3 := numI_len h.d1
  rw [List.length_append, List.length_append, List.length_append, List.length_append, List.length_append]
  show (numI j.1).length + 1 + (numI j.2.1).length + 1 + (numI j.2.2).length + 1 ≤ 183
  omega
theorem textL_len {js : List T3} (h : ∀ j ∈ js, Small3 j) : (textL js).length ≤ 183 * js.length := by
  induction js with
  | nil => exact Nat.le_refl _
  | cons j r ih =>
    have h1 := rowL_len (h j List.mem_cons_self)
    have h2 := ih fun k hk => h k (List.mem_cons_of_mem _ hk)
    unfold textL at *
    rw [List.map_cons, List.flatten_cons, List.length_append, List.length_cons]
    omega
section
variable {K : PySem.W.Frag} {σ : St} {H H' : Hp} {ta tb te ti : TE} {tA : TA} {t' : TT} {D : Ends} {tu tz : TS} {g : TG} {p q l : Addr} {js ks : List T3} {j : T3} {ns ms : List Int}
/-! ### f-strings -/
def EvJ (ts : List TE) (acc : Str) (σ : St) (H : Hp) (out : Str) : Prop := ∀ H1, Ex H H1 → ∀ Q : Str → Hp → Prop, (∀ H2, Ex H1 H2 → Q out H2) → tJs ts acc σ H1 Q
theorem ej_nil {acc : Str} : EvJ [] acc σ H acc := fun H1 _ Q k => k H1 (Ex.refl H1)
theorem ej_str {ts : List TE} {a b : List Nat} {y out : Str} (e : y = S b) (hz : (a ++ b).length ≤ 100000) (r : EvJ ts (S (a ++ b)) σ H out) : EvJ (tC (.str y) :: ts) (S a) σ H out := fun H1 e1 Q k => by
  subst e
  refine ⟨S b, rfl, ?_, ?_⟩
  · rw [SX.S_cat, SX.S_len]; exact sz_of hz
  · rw [SX.S_cat]; exact r H1 e1 Q k
theorem ej_int {ts : List TE} {a : List Nat} {i : Int} {out : Str} (h : Ev te σ H (.int i)) (h0 : 0 ≤ i) (h1 : i < B60) (hz : (a ++ numI i).length ≤ 100000) (r : EvJ ts (S (a ++ numI i)) σ H out) : EvJ (tFmt te :: ts) (S a) σ H out := fun H1 e1 Q k => by
  have es : Str.ofString (toString i) = S (numI i) := by
    have := S_num i.toNat
    rw [Int.toNat_of_nonneg h0] at this
    exact this
  refine h H1 e1 _ fun H2 e2 => .inr ⟨i, rfl, log_small h0 h1, ?_⟩
  refine ⟨S (numI i), congrArg V.str es, ?_, ?_⟩
  · rw [SX.S_cat, SX.S_len]; exact sz_of hz
  · rw [SX.S_cat]; exact r H2 (e1.trans e2) Q fun H3 e3 => k H3 (e2.trans e3)
theorem ev_joined {ts : List TE} {out : Str} (h : EvJ ts Str.empty σ H out) : Ev (fun σ H Q => tJs ts Str.empty σ H fun out H1 => Q (.str out) H1) σ H (.str out) := fun H1 e Q k => h H1 e _ k
theorem ev_rowS {a b c : Int} (h : Small3 (a, b, c)) (ha : Ev ta σ H (.int a)) (hb : Ev tb σ H (.int b)) (hc : Ev te σ H (.int c)) :
    Ev (fun σ H Q => tJs [tFmt ta, tC (.str " "), tFmt tb, tC (.str " "), tFmt te, tC (.str "\n")] Str.empty σ H fun out H1 => Q (.str out) H1) σ H (.str (S (rowL (a, b, c)))) := by
  have h1 := numI_len h.c1
  have h2 := numI_len h.l1
  have h3 := numI_len h.d1
  dsimp only at h1 h2 h3
  refine ev_joined ?_
  show EvJ _ (S []) σ H _
  refine ej_int ha h.c0 h.c1 (by rw [List.nil_append]; omega) ?_
  rw [List.nil_append]
  refine ej_str (b := [32]) rfl (by rw [List.length_append]; show _ + 1 ≤ _; omega) ?_
  refine ej_int hb h.l0 h.l1 (by rw [List.length_append, List.length_append]; show _ + 1 + _ ≤ _; omega) ?_
  refine ej_str (b := [32]) rfl (by rw [List.length_append, List.length_append, List.length_append]; show _ + 1 + _ + 1 ≤ _; omega) ?_
  refine ej_int hc h.d0 h.d1 (by rw [List.length_append, List.length_append, List.length_append, List.length_append]; show _ + 1 + _ + 1 + _ ≤ _; omega) ?_
  refine ej_str (b := [10]) rfl (by rw [List.length_append, List.length_append, List.length_append, List.length_append, List.length_append]; show _ + 1 + _ + 1 + _ + 1 ≤ _; omega) ?_
  exact ej_nil
/-- sep.join(a new list of texts) -/
def rJn (K : PySem.W.Frag) : V → List V → Hp → VK → Prop := fun x xs H Q =>
  ∃ a p, ∃ ys : List Str, x = .str a ∧ xs = [.ref p] ∧ (SqL K H p (ys.map V.str) ∨ SqT K H p (ys.map V.str)) ∧
    (ys.map (·.length)).sum + ys.length * a.length ≤ 16777216 ∧
    Q (.str (Txt.join a ys)) H
theorem ev_joinN {a : Str} {ys : List Str} (ha : Ev ta σ H (.str a)) (h : EvL te σ H (ys.map V.str)) (hz : (ys.map (·.length)).sum + ys.length * a.length ≤ 16777216) : Ev (tM1 (rJn K) ta te) σ H (.str (Txt.join a ys)) := fun H1 e Q k =>
  ha H1 e _ fun H2 e2 => ⟨⟨a, rfl⟩, h H2 (e.trans e2) _ fun p H3 _ e3 hp => ⟨a, p, ys, rfl, rfl, .inl (SqL.of hp), hz, k H3 (e2.trans e3)⟩⟩
theorem sum_lens (js : List T3) : (((js.map rowL).map S).map (·.length)).sum = (textL js).length := by
  unfold textL
  rw [SX.lens, List.length_flatten]
theorem join_text (js : List T3) : Txt.join Str.empty ((js.map rowL).map S) = S (textL js) := by
  have := SX.join_S [] (js.map rowL)
  rw [joinL_flat] at this
  exact this
end
end DL
/-! values of which only a property is known -/
namespace DL
open PySem PySem.Spec PyProof.Rows L2 Evl
abbrev Pr := Hp → V → Prop
def Steady (P : Pr) : Prop := ∀ H H' y, Ex H H' → P H y → P H' y
def EvP (te : TE) (σ : St) (H : Hp) (P : Pr) : Prop := ∀ H1, Ex H H1 → ∀ Q : VK, (∀ y H2, Ex H1 H2 → P H2 y → Q y H2) → te σ H1 Q
def EvPs (tA : TA) (σ : St) (H : Hp) (P : Pr) (n : Nat) : Prop := ∀ H1, Ex H H1 → ∀ Q : List V → Hp → Prop, (∀ xs H2, Ex H1 H2 → xs.length = n → (∀ y ∈ xs, P H2 y) → Q xs H2) → tA σ H1 Q
/-- a list of so many of these -/
def PLs (P : Pr) (H : Hp) (p : Addr) (n : Nat) : Prop := ∃ xs : List V, H p = some (.lst xs) ∧ xs.length = n ∧ ∀ y ∈ xs, P H y
theorem PLs.mono {P : Pr} (st : Steady P) {H H' : Hp} {p : Addr} {n : Nat} (e : Ex H H') (h : PLs P H p n) : PLs P H' p n := by
  obtain ⟨xs, h1, h2, h3⟩ := h
  exact ⟨xs, e _ _ h1, h2, fun y hy => st _ _ y e (h3 y hy)⟩
theorem own_all : ∀ Ds : List Addr, Paired ClsV (Ds.map V.ref) (Ds.map Value.ref)
  | [] => .nil
  | D :: Ds => .cons (.own D) (own_all Ds)
section
variable {K : PySem.W.Frag} {σ : St} {H H' : Hp} {ta tb te ti : TE} {tA : TA} {D : Ends} {tz : TS} {p q : Addr} {P : Pr} {n m : Nat}
theorem ep_ev {v : V} (h : Ev te σ H v) (hp : ∀ H1, Ex H H1 → P H1 v) : EvP te σ H P := fun H1 e Q k => h H1 e _ fun H2 e2 => k v H2 e2 (hp H2 (e.trans e2))
theorem ep_u {xs : List V} (h : EvU te σ H xs) (hp : ∀ t H1, H1 t = some (.tup xs) → P H1 (.ref t)) : EvP te σ H P := fun H1 e Q k => h H1 e _ fun t H2 _ e2 ht => k _ H2 e2 (hp t H2 ht)
theorem ep_l {xs : List V} (h : EvL te σ H xs) (hp : ∀ t H1, H1 t = some (.lst xs) → P H1 (.ref t)) : EvP te σ H P := fun H1 e Q k => h H1 e _ fun t H2 _ e2 ht => k _ H2 e2 (hp t H2 ht)
theorem ep_tl {js : List T3} (h : EvTL te σ H js) (hp : ∀ t H1, TL H1 t js → P H1 (.ref t)) : EvP te σ H P := fun H1 e Q k => h H1 e _ fun t H2 _ e2 ht => k _ H2 e2 (hp t H2 ht)
theorem eps_nil : EvPs tNil σ H P 0 := fun H1 _ Q k => k [] H1 (Ex.refl H1) rfl fun y hy => absurd hy List.not_mem_nil
theorem eps_cons (st : Steady P) (h : EvP te σ H P) (hr : EvPs tA σ H P n) : EvPs (tCons te tA) σ H P (n + 1) := fun H1 e Q k =>
  h H1 e _ fun y H2 e2 hy => hr H2 (e.trans e2) _ fun xs H3 e3 hn hx => k (y :: xs) H3 (e2.trans e3) (congrArg (· + 1) hn) fun z hz => by
    rcases List.mem_cons.mp hz with rfl | hz
    · exact st _ _ _ e3 hy
    · exact hx z hz
theorem elp_lst (st : Steady P) (h : EvPs tA σ H P n) (hn : n ≤ 100000) : EvP (tLst tA) σ H (fun H y => ∃ p, y = .ref p ∧ PLs P H p n) := fun H1 e Q k =>
  h H1 e _ fun xs H2 e2 hl hx => ⟨by rw [hl]; exact sz_of hn, fun p np => k _ _ (e2.trans (Ex.new np)) ⟨p, rfl, xs, upd_same, hl, fun y hy => st _ _ y (Ex.new np) (hx y hy)⟩⟩
theorem q_asgPs (st : Steady P) {i : Nat} (h : EvPs tA σ H P n) (hn : n ≤ 100000) (k : ∀ p H1, Ex H H1 → PLs P H1 p n → tz D (σ.set i (some (.ref p))) H1) : tSeq (tAsg (tLst tA) (gName i)) tz D σ H := by
  show tLst tA σ H (fun x H1 => tz D (σ.set i (some x)) H1)
  refine elp_lst st h hn H (Ex.refl H) _ fun y H1 e hp => ?_
  obtain ⟨p, rfl, hp⟩ := hp
  exact k p H1 e hp
theorem q_asgCat (st : Steady P) {i : Nat} (ha : Ev ta σ H (.ref p)) (hp : PLs P H p n) (h : EvPs tA σ H P m) (hn : n + m ≤ 100000) (k : ∀ q H1, Ex H H1 → PLs P H1 q (n + m) → tz D (σ.set i (some (.ref q))) H1) :
    tSeq (tAsg (tOp rCat ta (tLst tA)) (gName i)) tz D σ H :=
  ha H (Ex.refl H) _ fun H1 e1 => elp_lst st h (by omega) H1 e1 _ fun y H2 e2 ⟨b, hy, hb⟩ => by
    subst hy
    obtain ⟨xs, h1, h2, h3⟩ := hp.mono st (e1.trans e2)
    obtain ⟨ys, g1, g2, g3⟩ := hb
    refine ⟨p, b, xs, ys, rfl, rfl, h1, g1, by rw [h2, g2]; exact sz_of hn, fun d nd => ?_⟩
    refine k d _ ((e1.trans e2).trans (Ex.new nd)) ⟨xs ++ ys, upd_same, by rw [List.length_append, h2, g2], fun y hy => st _ _ y (Ex.new nd) ?_⟩
    rcases List.mem_append.mp hy with hy | hy
    · exact h3 y hy
    · exact g3 y hy
/-- an item of such a list -/
theorem ep_at {i : Nat} (st : Steady P) (ha : Ev ta σ H (.ref p)) (hi : Ev ti σ H (.int (i : Int))) (hp : PLs P H p n) (hin : i < n) : EvP (tOp (rIxL K) ta ti) σ H P := fun H1 e Q k => by
  obtain ⟨xs, h1, h2, h3⟩ := hp.mono st e
  have hx : xs[i]? = some xs[i] := List.getElem?_eq_getElem (by omega)
  refine (ev_op (ha.mono e) (hi.mono e) (rv_ixL (SqL.of h1) (atI_nat hx)) : Ev (tOp (rIxL K) ta ti) σ H1 xs[i]) H1 (Ex.refl _) _ fun H2 e2 => k _ H2 e2 (st _ _ _ e2 (h3 _ (List.mem_of_getElem? hx)))
/-- [a, b, ..][i] -/
theorem ep_pick {i : Nat} (st : Steady P) (h : EvPs tA σ H P n) (hn : n ≤ 100000) (hi : ∀ H1, Ex H H1 → Ev ti σ H1 (.int (i : Int))) (hin : i < n) : EvP (tOp (rIxL K) (tLst tA) ti) σ H P := fun H1 e Q k =>
  elp_lst st h hn H1 e _ fun y H2 e2 ⟨p, hy, hp⟩ => by
    subst hy
    have := ep_at (K := K) (σ := σ) (ta := fun _ H' Q' => Q' (.ref p) H') (H := H2) st (fun H3 e3 Q3 q3 => q3 H3 (Ex.refl H3)) (hi H2 (e.trans e2)) hp hin
    exact this H2 (Ex.refl _) _ fun y H3 e3 hy => k y H3 (e2.trans e3) hy
theorem s_retP (h : EvP te σ H P) (k : ∀ y H1, Ex H H1 → P H1 y → D.rt y H1) : tRet te D σ H := h H (Ex.refl H) _ k
theorem q_asgP {i : Nat} (h : EvP te σ H P) (k : ∀ y H1, Ex H H1 → P H1 y → tz D (σ.set i (some y)) H1) : tSeq (tAsg te (gName i)) tz D σ H := h H (Ex.refl H) _ k
theorem ea_consP {xs : List V} (h : EvP te σ H P) (hr : EvA tA σ H xs) {Q : List V → Hp → Prop} (k : ∀ y H1, Ex H H1 → P H1 y → ∀ H2, Ex H1 H2 → Q (y :: xs) H2) : tCons te tA σ H Q :=
  h H (Ex.refl H) _ fun y H1 e hy => hr H1 e _ fun H2 e2 => k y H1 e hy H2 e2
theorem s_ret3L {sp : Sp} {E : XK} {tc : TE} {x z : V} {xs : List V} (ha : Ev ta σ H x) (hb : EvL tb σ H xs) (hc : ∀ H1, Ex H H1 → Ev tc σ H1 z) (k : ∀ l H1, Ex H H1 → H1 l = some (.lst xs) → sp [x, .ref l, z] H1 D.rt E) :
    tRet (tCall sp [] E (tCons ta (tCons tb (tCons tc tNil)))) D σ H :=
  ha H (Ex.refl H) _ fun H1 e1 => hb H1 e1 _ fun l H2 _ e2 hl => hc H2 (e1.trans e2) H2 (Ex.refl _) _ fun H3 e3 => k l H3 ((e1.trans e2).trans e3) (e3 _ _ hl)
theorem s_ret2P {sp : Sp} {E : XK} {x : V} (ha : Ev ta σ H x) (hb : EvP tb σ H P) (k : ∀ y H1, Ex H H1 → P H1 y → sp [x, y] H1 D.rt E) :
    tRet (tCall sp [] E (tCons ta (tCons tb tNil))) D σ H :=
  ha H (Ex.refl H) _ fun H1 e1 => hb H1 e1 _ fun y H2 e2 hy => k y H2 (e1.trans e2) hy
/-- isinstance of what was caught, by values -/
theorem ev_isC {a C D' : Addr} {b : Bool} (hC : ExcC K C) (hk : PySem.W.kitOne K (.ref C) (.ref D') = some b) (he : Ev te σ H (.ref a)) (hc : Ev tb σ H (.ref D')) : Ev (tCB (rIsC K a (.ref C) none) (tCons te (tCons tb tNil))) σ H (.bl b) := fun H1 e Q k =>
  he H1 e _ fun H2 e2 => hc H2 (e.trans e2) _ fun H3 e3 => ⟨C, .ref D', .ref D', b, rfl, rfl, hC, rfl, fun u r => r, hk, k H3 (e2.trans e3)⟩
theorem ev_isCT' {a C : Addr} {T' : String} {b : Bool} (hC : ExcC K C) (hk : PySem.W.kitOne K (.ref C) (.type T') = some b) (he : Ev te σ H (.ref a)) (hc : Ev tb σ H (.ty T')) : Ev (tCB (rIsC K a (.ref C) none) (tCons te (tCons tb tNil))) σ H (.bl b) := fun H1 e Q k =>
  he H1 e _ fun H2 e2 => hc H2 (e.trans e2) _ fun H3 e3 => ⟨C, .ty T', .type T', b, rfl, rfl, hC, rfl, fun u r => r, hk, k H3 (e2.trans e3)⟩
/-- .. of a tuple of own classes -/
theorem ev_isCU {a C : Addr} {Ds : List Addr} {b : Bool} (hC : ExcC K C) (hk : PySem.W.kitAny K (.ref C) (Ds.map .ref) = some b) (he : Ev te σ H (.ref a)) (hc : EvU tb σ H (Ds.map V.ref)) : Ev (tCB (rIsCT K a (.ref C) none) (tCons te (tCons tb tNil))) σ H (.bl b) := fun H1 e Q k =>
  he H1 e _ fun H2 e2 => hc H2 (e.trans e2) _ fun t H3 _ e3 ht => ⟨C, t, _, _, b, rfl, rfl, hC, rfl, ht, own_all Ds, hk, k H3 (e2.trans e3)⟩
end
end DL
/-! an object that holds a list of jobs -/
namespace L2
open PySem PySem.Spec PyProof.Rows
section
variable {X : Cx} {CX : CXT} {k : Nat} {f C : Addr} {fd : FuncData} {ps : List Str} {sp : Sp} {E : St → XK} {m : Str} {pos apos : Pos} {e o : Expr} {es : List Expr} {ta : TE} {t : TA}
/-- a method called within a try -/
def tMTry (C : Addr) (m : Str) (sp : Sp) (E : St → XK) (ta : TE) (t : TA) : TE := fun σ H Q =>
  ta σ H fun x H1 => ∃ a dx fs, x = .ref a ∧ H1 a = some (.ins C dx fs) ∧ fs.lookup m = none ∧ t σ H1 fun vs H2 => sp (x :: vs) H2 Q (E σ)
theorem pe_mtry {pl : Sem Bool} (obj : PE X o ta) (cl : Cls X.K C) (me : Meth X.K C m f) (F : FnOk X.prog X.w X.K X.mg X.base CX k f fd ps sp) (hr : Room k X.A) (hb : Binds X.K fd ps []) (hx : ∀ σ, PassesAt CX X σ (E σ)) (ha : PA X (e :: es) t)
    (h1 : starEach (e :: es) X.env = (false, eval e X.env) :: starEach es X.env := by rfl)
    (h2 : (backTo pos (starEach es X.env)).any (·.1) = false := by rfl)
    (h3 : eval (.Call (.Attribute o m apos) (e :: es) [] pos) X.env = (do
          let w1 ← eval o X.env
          standAt apos.atName
          let (g1, g2) ← holding [w1] (getMethod w1 m pl)
          callWith pos g1 g2 (backTo pos (starEach (e :: es) X.env)) (backToKw pos (keywordEach [] X.env))) := by rfl) :
    PE X (.Call (.Attribute o m apos) (e :: es) [] pos) (tMTry C m sp E ta t) where
  run := fun pins s σ H Q I want => by
    refine PySem.W.methodCall_KW (pl := pl) (thn (obj.run pins s σ H _ I want) ?_) h3
    rintro u s1 ⟨x, H1, I1, rx, a, dx, fs, rfl, at_, l, rest⟩
    cases (show u = Value.ref a from rx)
    refine getmeth_ok I1 at_ cl me l (PySem.W.callWith_K (first := [.ref a]) (h₀ := X.base) I.ok.mod.kin me.kp (thn (ha.run pos pins s1 σ H1 _ I1 rest) ?_) h1 h2)
    rintro us s2 ⟨vs, H2, I2, r2, want2⟩
    exact ⟨I2.kIn, run_fnS (us := .ref a :: us) (vs := .ref a :: vs) F hr hb (hx σ) I2 (.cons rfl r2) want2⟩
end
end L2
namespace DL
open PySem PySem.Spec PyProof.Rows L2 Evl
/-- the one attribute of a book -/
def jf (l : Addr) : List (Str × V) := putF "_jobs" (.ref l) []
theorem jf_eq (l : Addr) : jf l = [(("_jobs" : Str), V.ref l)] := rfl
theorem jf_at (l : Addr) : (jf l).lookup ("_jobs" : Str) = some (.ref l) := by
  unfold jf
  rw [lookup_putF, if_pos rfl]
theorem jf_no (l : Addr) {m : Str} (h : ¬ m = "_jobs") : (jf l).lookup m = none := by
  unfold jf
  rw [lookup_putF, if_neg h]
  rfl
/-- a book stands at b, its list at l holds js -/
structure BookAt (C : Addr) (H : Hp) (b l : Addr) (js : List T3) : Prop where
  ob : ∃ dx, H b = some (.ins C dx (jf l))
  tl : TL H l js
  len : js.length ≤ 60
  snd : Sound js
  fit : NoLate js (runM js)
theorem BookAt.mono {C : Addr} {H H' : Hp} {b l : Addr} {js : List T3} (e : Ex H H') (h : BookAt C H b l js) : BookAt C H' b l js := by
  obtain ⟨⟨dx, h1⟩, h2, h3, h4, h5⟩ := h
  exact ⟨⟨dx, e _ _ h1⟩, h2.mono e, h3, h4, h5⟩
/-- another book's list may change -/
theorem BookAt.mod {C : Addr} {H H' : Hp} {b l m : Addr} {js : List T3} (d : Mod m H H') (h : BookAt C H b l js) (hm : ∃ xs, H m = some (.lst xs)) (ne : l ≠ m) : BookAt C H' b l js := by
  obtain ⟨⟨dx, h1⟩, h2, h3, h4, h5⟩ := h
  obtain ⟨xs, hm⟩ := hm
  exact ⟨⟨dx, d.but _ _ (ne_of h1 hm (by intro q; cases q)) h1⟩, d.tl h2 ne, h3, h4, h5⟩
section
variable {K : PySem.W.Frag} {σ : St} {H H' : Hp} {ta tb te ti to : TE} {tA : TA} {D : Ends} {tz : TS} {p q : Addr} {C b l : Addr} {js : List T3}
theorem ev_fldB (cl : Cls K C) (na : NoAttr K C "_jobs") (h : Ev te σ H (.ref b)) (hb : BookAt C H b l js) : Ev (tFld K te "_jobs") σ H (.ref l) := fun H1 e Q k => h H1 e _ fun H2 e2 => by
  obtain ⟨dx, hd⟩ := (hb.mono (e.trans e2)).ob
  exact ⟨b, C, dx, _, _, rfl, hd, cl, na, jf_at l, k H2 e2⟩
/-- o.m(..), what is asked of it -/
theorem r_meth {m : Str} {sp : Sp} {dvs vs : List V} {E : XK} {Q : VK} (hm : ¬ m = "_jobs") (ho : Ev to σ H (.ref b)) (hb : BookAt C H b l js) (ha : EvA tA σ H vs) (k : ∀ H1, Ex H H1 → sp (.ref b :: (vs ++ dvs)) H1 Q E) : tMeth C m sp dvs E to tA σ H Q :=
  ho H (Ex.refl H) _ fun H1 e1 => by
    obtain ⟨dx, hd⟩ := (hb.mono e1).ob
    exact ⟨b, dx, _, rfl, hd, jf_no l hm, ha H1 e1 _ fun H2 e2 => k H2 (e1.trans e2)⟩
theorem r_mtry {m : Str} {sp : Sp} {vs : List V} {E : St → XK} {Q : VK} (hm : ¬ m = "_jobs") (ho : Ev to σ H (.ref b)) (hb : BookAt C H b l js) (ha : EvA tA σ H vs) (k : ∀ H1, Ex H H1 → sp (.ref b :: vs) H1 Q (E σ)) : tMTry C m sp E to tA σ H Q :=
  ho H (Ex.refl H) _ fun H1 e1 => by
    obtain ⟨dx, hd⟩ := (hb.mono e1).ob
    exact ⟨b, dx, _, rfl, hd, jf_no l hm, ha H1 e1 _ fun H2 e2 => k H2 (e1.trans e2)⟩
theorem r_mtryP {m : Str} {sp : Sp} {E : St → XK} {Q : VK} {P : Pr} (hm : ¬ m = "_jobs") (ho : Ev to σ H (.ref b)) (hb : BookAt C H b l js) (ha : EvP te σ H P) (k : ∀ y H1, Ex H H1 → P H1 y → sp [.ref b, y] H1 Q (E σ)) : tMTry C m sp E to (tCons te tNil) σ H Q :=
  ho H (Ex.refl H) _ fun H1 e1 => by
    obtain ⟨dx, hd⟩ := (hb.mono e1).ob
    exact ⟨b, dx, _, rfl, hd, jf_no l hm, ha H1 e1 _ fun y H2 e2 hy => k y H2 (e1.trans e2) hy⟩
theorem r_mtryU {m : Str} {sp : Sp} {E : St → XK} {Q : VK} {xs : List V} (hm : ¬ m = "_jobs") (ho : Ev to σ H (.ref b)) (hb : BookAt C H b l js) (ha : EvU te σ H xs) (k : ∀ t H1, H t = none → Ex H H1 → H1 t = some (.tup xs) → sp [.ref b, .ref t] H1 Q (E σ)) : tMTry C m sp E to (tCons te tNil) σ H Q :=
  ho H (Ex.refl H) _ fun H1 e1 => by
    obtain ⟨dx, hd⟩ := (hb.mono e1).ob
    exact ⟨b, dx, _, rfl, hd, jf_no l hm, ha H1 e1 _ fun t H2 nt e2 ht => k t H2 (fresh_back e1 nt) (e1.trans e2) ht⟩
theorem r_methU {m : Str} {sp : Sp} {E : XK} {Q : VK} {xs : List V} (hm : ¬ m = "_jobs") (ho : Ev to σ H (.ref b)) (hb : BookAt C H b l js) (ha : EvU te σ H xs) (k : ∀ t H1, H t = none → Ex H H1 → H1 t = some (.tup xs) → sp [.ref b, .ref t] H1 Q E) : tMeth C m sp [] E to (tCons te tNil) σ H Q :=
  ho H (Ex.refl H) _ fun H1 e1 => by
    obtain ⟨dx, hd⟩ := (hb.mono e1).ob
    exact ⟨b, dx, _, rfl, hd, jf_no l hm, ha H1 e1 _ fun t H2 nt e2 ht => k t H2 (fresh_back e1 nt) (e1.trans e2) ht⟩
theorem s_retC3U {sp : Sp} {E : XK} {tu : TE} {x y : V} {xs : List V} (ha : Ev ta σ H x) (hb : Ev tb σ H y) (hu : EvU tu σ H xs) (k : ∀ t H1, H t = none → Ex H H1 → H1 t = some (.tup xs) → sp [x, y, .ref t] H1 D.rt E) :
    tRet (tCall sp [] E (tCons ta (tCons tb (tCons tu tNil)))) D σ H :=
  ha H (Ex.refl H) _ fun H1 e1 => hb H1 e1 _ fun H2 e2 => hu H2 (e1.trans e2) _ fun t H3 nt e3 ht => k t H3 (fresh_back (e1.trans e2) nt) ((e1.trans e2).trans e3) ht
end
end DL
/-! an exception that leaves a list comprehension from its element -/
namespace L2
open PySem PySem.Spec PyProof.Rows
/-- the block's context with a wish of its own about exceptions -/
abbrev Cx.blx (X : Cx) (t : Shared) (H : Hp) (sc : Scope) (ce : Env) (its : List Addr) (xe : Value → Shared → Prop) : Cx := { X.blk t H sc ce its with xe := xe }
theorem Inv.reX {X : Cx} {xe xe' : Value → Shared → Prop} {pins : List (Addr × Obj)} {σ : St} {H : Hp} {s : Shared} (I : Inv { X with xe := xe } pins σ H s) : Inv { X with xe := xe' } pins σ H s :=
  ⟨⟨I.ok.mod, I.ok.kind, I.ok.glob, I.ok.blt, I.ok.above, I.ok.inj, I.ok.has, I.ok.cab, I.ok.hd, I.ok.frames, I.ok.stk, I.ok.exf, I.ok.bs, I.ok.bsz, I.ok.noex, I.ok.exfs, I.ok.funs, I.ok.frf⟩,
    I.os, I.bare, I.base, I.loc, I.cell, I.free, I.freeC, I.pin, I.hok, I.len⟩
section
variable {X : Cx} {W : WX} {E : XK} {sc : Scope} {ce : Env} {its : List Addr} {pin₁ pin₂ : List (Addr × Obj)} {τ₁ τ₂ : St} {H₁ H₂ : Hp} {t₁ t₂ t₃ : Shared} {xe : Value → Shared → Prop}
/-- held in this frame, over a ground where a state of ours stands -/
theorem XE.held {s s' : Shared} {σ : St} {H H' : Hp} {pins : List (Addr × Obj)} {a : Addr} {B : Heap} {cls : Value} {d : Option Addr} (I : Inv X pins σ H s) (hh : HandSPX.HeldZ B X.stack a (Zc cls d) X.env.locals s'.heap)
    (ok : HOk X.prog X.w H' B) (ub : UB (frs X.stack) H H' s.heap B s'.heap) (na : H' a = none) (os : s'.os = s.os) (ag : AllBare s'.gens) (w : W cls d σ H') : XE X W (.ref a) s' := by
  obtain ⟨G, yes, no⟩ := restrict s'.heap fun b => (B.get? b).isSome || decide (b ∈ frs X.stack)
  have fromB : ∀ {b o}, B.get? b = some o → G.get? b = some o := fun {b o} e => (yes b (by rw [e]; rfl)).trans (hh.1 b o e)
  have fromF : ∀ {b}, b ∈ frs X.stack → G.get? b = s'.heap.get? b := fun {b} hb => yes b (by rw [decide_eq_true hb, Bool.or_true])
  have back : ∀ {b o}, G.get? b = some o → s'.heap.get? b = some o ∧ (b ∉ frs X.stack → B.get? b = some o) := fun {b o} e => by
    rcases Bool.eq_false_or_eq_true ((B.get? b).isSome || decide (b ∈ frs X.stack)) with q | q
    · have e1 := (yes b q).symm.trans e
      refine ⟨e1, fun nb => ?_⟩
      rw [decide_eq_false nb, Bool.or_false] at q
      obtain ⟨o1, q⟩ := Option.isSome_iff_exists.mp q
      rw [q]
      exact (hh.1 b o1 q).symm.trans e1
    · rw [no b q] at e
      cases e
  have un : Un (frs X.stack) [] H H' s.heap G :=
    ⟨fun b o e n nb _ => fromB (ub.keep b o e n nb), fun b o e n hb _ => (ub.slot b o e hb).elim fun sl q => ⟨sl, (fromF hb).trans q⟩, fun b o e n _ => ub.free b o e n, fun b o e _ => by
      rcases Classical.em (b ∈ frs X.stack) with hb | hb
      · exact (ub.slot b o e hb).elim fun sl q => ⟨_, (fromF hb).trans q⟩
      · exact (ub.there b o e hb).elim fun o' q => ⟨o', fromB q⟩, ub.tups, ub.frzs, ub.tbls⟩
  exact ⟨a, B, { s with heap := G, gens := s'.gens, drawn := s'.drawn, toks := s'.toks }, pins, σ, H', cls, d, rfl, I.call (ch := []) un (ok.kept fun b o => fromB) ag (fun _ z => nomatch z),
    fun b o e nb => (back e).2 nb, Heap.UpToSlots.of_keeps fun b o e => (back e).1, .inr (.inr hh), na, os, ag, w⟩
/-- a call in the element has let one out -/
theorem block_out (stk : X.stack = X.env :: X.outer) (frm : X.env.frame = some X.env.locals) (tk : Takes X W) (hW : ∀ cls d σ H, E cls d H → W cls d σ H) (I₁ : Inv X pin₁ τ₁ H₁ t₁)
    (hits : ∀ b ∈ its, FpOk X pin₁ H₁ b) (loc : ce.locals = t₁.heap.objs.size) (cf : ce.frame = X.env.frame) (I₂ : Inv (X.blx t₁ H₁ sc ce its xe) pin₂ τ₂ H₂ t₂) {u : Value} (c : L2.CX X.prog X.w X.stack H₂ t₂ E u t₃) :
    notedBy (model X.prog X.w) X.A ce (CompFails (model X.prog X.w) X.A X.xe ce) u t₃ := by
  obtain ⟨a, B, H₃, cls, d, rfl, fly, okB, ub, na, os, ag, wish⟩ := c
  have freeC : H₂ ce.locals = none := I₂.free
  obtain ⟨m, ns, _⟩ := id I₂.loc
  have ns : t₂.heap.Ns ce.locals m := ns
  obtain ⟨oC, esC, epC, gotC, datC, moreC⟩ := id ns
  have off : ce.locals ∉ frs X.stack := fun hm => by
    obtain ⟨_, o, e, _⟩ := I₂.ok.funs.mem hm
    have := Heap.lt_size e
    rw [loc] at this
    exact Nat.lt_irrefl _ this
  have apart : ∀ {b o}, t₁.heap.get? b = some o → b ∉ [ce.locals] := fun {b o} e hm => by
    have := Heap.lt_size e
    rw [List.mem_singleton.mp hm, loc] at this
    exact Nat.lt_irrefl _ this
  have hid : ∀ {h : Heap} {b o}, (PySem.W.hideAll h [ce.locals]).get? b = some o → b ∉ [ce.locals] := fun {h b o} e hm => by
    rw [PySem.W.hideAll_none _ hm] at e
    cases e
  have free3 : H₃ ce.locals = none := ub.free _ _ gotC freeC
  have okh : ∀ {H : Hp} {h : Heap}, HOk X.prog X.w H h → H ce.locals = none → HOk X.prog X.w H (PySem.W.hideAll h [ce.locals]) := fun {H h} k n b o q =>
    (k b o q).stay (fun y v hy r => PySem.W.hideAll_get _ r fun hm => by
      rw [List.mem_singleton.mp hm] at hy
      rcases hy with rfl | z
      · rw [n] at q; cases q
      · rw [n] at z; cases z) (fun _ z => z) fun _ _ z => z
  have un : Un (frs X.stack) its H₁ H₂ t₁.heap (PySem.W.hideAll t₂.heap [ce.locals]) :=
    ⟨fun b o e n nf nx => PySem.W.hideAll_get _ (I₂.base.keep b o e n nf nx) (apart e), fun b o e n hf nx => (I₂.base.slot b o e n hf nx).elim fun sl q => ⟨sl, PySem.W.hideAll_get _ q (apart e)⟩, I₂.base.free,
      fun b o e nx => (I₂.base.there b o e nx).elim fun o' q => ⟨o', PySem.W.hideAll_get _ q (apart e)⟩, I₂.base.tups, I₂.base.frzs, I₂.base.tbls⟩
  have I₃ : Inv X pin₁ τ₁ H₂ { t₂ with heap := PySem.W.hideAll t₂.heap [ce.locals] } :=
    I₁.call' (ch := its) I₂.os un (okh I₂.hok freeC) I₂.bare fun b hb => ⟨(hits b hb).2.2.2.1, (hits b hb).2.1, (hits b hb).2.2.2.2.1, (hits b hb).2.2.2.2.2⟩
  have ground : (PySem.W.hideAll B [ce.locals]).StaysIn t₃.heap := fun b o e => fly.1 b o (PySem.W.of_hideAll _ e)
  have none2 : ∀ {b}, B.get? b = none → (PySem.W.hideAll B [ce.locals]).get? b = none := fun {b} e => by
    cases q : (PySem.W.hideAll B [ce.locals]).get? b with
    | none => rfl
    | some o => rw [PySem.W.of_hideAll _ q] at e; cases e
  have fly2 : HandSPX.FlyingZ (PySem.W.hideAll B [ce.locals]) (X.env :: X.outer) a (Zc cls d) t₃.heap := by
    obtain ⟨_, z2, z3, oe, vs, T, oT, ts, y1, y2, y3, y4, y5, y6⟩ := fly
    rw [← stk]
    exact ⟨ground, none2 z2, funFrames_none z3 fun b hb => none2 (z3.mem hb).1, oe, vs, T, oT, ts, y1, y2, y3, y4, none2 y5, y6⟩
  have ns3 : t₃.heap.Ns ce.locals m := ⟨oC, esC, epC, fly.1 _ _ (ub.keep _ _ gotC freeC off), datC, moreC⟩
  have frames : X.A.frames = some (X.env :: X.outer) := I₁.ok.frames.trans (congrArg some stk)
  show wpAny _ _ (noteFrame (.ref a) ce) _ _ t₃
  rw [noteFrame_env _ cf]
  refine HandSPX.looks_onZ Zc.steady frames frm fly2 fun h₁ held up₁ => ⟨m, up₁.ns ns3, fun h₂ m₂ ns₂ same => ?_⟩
  obtain ⟨k1, k2, k3, oe, vs, T, oT, ts, y1, y2, y3, y4, y5, y6, y7, y8, y9⟩ := held
  have notC : ∀ {b o xs}, h₁.get? b = some o → o.data = .fields xs → b ≠ ce.locals := fun {b o xs} e q z => by
    obtain ⟨o1, es1, ep1, g1, e1, _⟩ := up₁.ns ns3
    rw [z] at e
    have e : h₁.get? ce.locals = some o := e
    rw [g1] at e
    cases e
    rw [q] at e1
    cases e1
  have st₂ : (PySem.W.hideAll B [ce.locals]).StaysIn h₂ := fun b o e => (same.2 b fun z => hid e (List.mem_singleton.mpr z)).trans (k1 b o e)
  have fr₂ : h₂.FunFrames (PySem.W.hideAll B [ce.locals]) (X.env :: X.outer) := Heap.FunFrames.sameBut same ns₂ k3
  have y1' := (same.2 a (notC y1 y3)).trans y1
  have y7' := (same.2 T (notC y7 y8)).trans y7
  unfold PySem.passOn
  refine wpAny_bind (wpAny_field y1' y3 y4 ?_)
  rw [if_neg (show ¬ (Value.ref T == Value.none) = true by simp), cf, frm]
  refine wpAny_bind (HandSPX.setFlight_anyZ st₂ fr₂ ⟨oe, vs, T, oT, ts, y1', y2, y3, y4, y5, y6, y7', y8, y9⟩ fun h₃ l1 l2 l3 up₃ => wpAny_throw (tk _ _ ?_))
  refine XE.held I₃ (B := PySem.W.hideAll B [ce.locals]) (H' := H₃) ⟨l1, k2, by rw [stk]; exact l2, l3⟩ (okh okB free3) ⟨fun b o e n nf => ?_, fun b o e hf => ?_, fun b o e n => ?_, fun b o e nf => ?_, ub.tups, ub.frzs, ub.tbls⟩ na os ag (hW _ _ _ _ wish)
  · exact PySem.W.hideAll_get _ (ub.keep b o (PySem.W.of_hideAll _ e) n nf) (hid e)
  · obtain ⟨sl, q⟩ := ub.slot b o (PySem.W.of_hideAll _ e) hf
    have hf' := hf
    rw [stk] at hf'
    obtain ⟨_, o', e', nofld⟩ := fly2.2.2.1.mem hf'
    rw [q] at e'
    cases e'
    obtain ⟨sl₁, q₁⟩ := up₁ b _ q nofld
    obtain ⟨sl₃, q₃⟩ := up₃ b _ ((same.2 b fun z => hid e (List.mem_singleton.mpr z)).trans q₁) nofld
    exact ⟨sl₃, q₃⟩
  · exact ub.free b o (PySem.W.of_hideAll _ e) n
  · obtain ⟨o', q⟩ := ub.there b o (PySem.W.of_hideAll _ e) nf
    exact ⟨o', PySem.W.hideAll_get _ q (hid e)⟩
end
section
variable {X : Cx} {W : WX} {E : XK}
/-- [elt for tg in iter if ..], where a call in the element may let an exception out -/
theorem pe_lcX {elt tg iter : Expr} {ifs : List Expr} {sc : Scope} {own : List (Str × Nat)} {pos : Pos} {wi : TI} {g : TG} {tt : TT} {te : TE} (stk : X.stack = X.env :: X.outer) (frm : X.env.frame = some X.env.locals) (tk : Takes X W)
    (hW : ∀ cls d σ H, E cls d H → W cls d σ H) (calm : X.calm = true) (nod : X.N.Nodup) (walk : PI X tg iter wi) (ok : BlkOk X.N X.env.scope sc own)
    (hg : ∀ t H c cl its xe, PG (X.blx t H sc (compEnvC sc cl c X.env) its xe) tg g) (ht : ∀ t H c cl its xe, PTs (X.blx t H sc (compEnvC sc cl c X.env) its xe) ifs tt)
    (he : ∀ t H c cl its xe, Passes (L2.CX X.prog X.w) (X.blx t H sc (compEnvC sc cl c X.env) its xe) E → PE (X.blx t H sc (compEnvC sc cl c X.env) its xe) elt te) (plain : ∀ x, foldedSetIterable iter X.env x = pure x := by intro _; rfl) :
    PE X (.ListComp elt [⟨tg, iter, ifs, 0⟩] sc pos) (tLc wi g tt te (own.map (·.2))) := by
  refine ⟨fun pins t σ H Q I rd => ?_⟩
  rw [eval_ListComp]
  have caught : ∀ y ∈ sc.names, y.2 = .free → ∃ c, X.env.cells.lookup y.1 = some c := fun y hy e => (ok.free y hy e).elim (fun k => I.ok.has _ (.inl k)) fun k => I.ok.has _ (.inr k)
  refine comprehension_at (use := none) (cl := cloFrom X.env.cells sc.names []) rfl plain (closure_ok caught) ok.kind (fun y hy e => by rw [ok.uniq y hy, e])
    (thn (walk.run pins t σ H _ I rd) fun _ t₁ z₁ => thn z₁ fun _ t₂ z₂ => ?_)
  obtain ⟨it, its, Sd, J, H₂, rfl, I₂, T, atS, fits, more⟩ := z₂
  refine wpAny_newObj_type (newEnv_comp ?_) (by show 0 ≤ sizeLine; decide)
  generalize hL : t₂.heap.objs.size = L
  have noL : H₂ L = none := I₂.hok.fresh (Nat.le_of_eq hL)
  obtain ⟨Wk, ⟨n₀, w₀⟩, turn⟩ := more L noL
  generalize ht₃ : ({ t₂ with heap := t₂.heap.push { cls := .type "list", data := .seq ([] : List Value).toArray } } : Shared) = t₃
  have hp₃ : t₃.heap = t₂.heap.push { cls := .type "list", data := .seq ([] : List Value).toArray } := by subst ht₃; rfl
  have I₃ : Inv X pins σ (upd H₂ L (.lst [])) t₃ := by
    subst ht₃
    refine I₂.laid (t' := t₂.toks) (fun _ _ e => Heap.get?_push_of_some _ e) (Nat.le_of_eq hL) ⟨Nat.zero_le _, [], 0, .nil, ?_⟩
    subst hL
    exact Heap.get?_push_size _ rfl
  have small : ∀ b ∈ its, b < t₂.heap.objs.size := fun b hb => (T.obj _ _ atS b hb).elim fun o z => Heap.lt_size z.1
  have fits₃ : ∀ b ∈ its, FpOk X pins (upd H₂ L (.lst [])) b ∧ b < t₃.heap.objs.size := fun b hb => by
    have lt := small b hb
    refine ⟨⟨?_, (fits b hb).2⟩, by rw [hp₃, Heap.size_push]; exact Nat.lt_succ_of_lt lt⟩
    rw [upd_ne (hL ▸ Nat.ne_of_lt lt)]
    exact (fits b hb).1
  have atS₃ : Sd 0 t₃.heap := T.keep _ _ _ atS fun b _ o e => by rw [hp₃]; exact Heap.get?_push_of_some _ e
  have I₄ := block_start I₃ ok nod fits₃
  generalize hcl : cellsFrom (t₃.heap.objs.size + 1) sc.names (cloFrom X.env.cells sc.names []) = cl at I₄
  have free₃ : ∀ b ∈ its, (upd H₂ L (.lst [])) b = none := fun b hb => (fits₃ b hb).1.1
  generalize hH₃ : upd H₂ L (.lst []) = H₃ at I₃ I₄ fits₃ free₃ w₀
  show codeAny _ _ (.compStart (.ListComp elt [⟨tg, iter, ifs, 0⟩] sc pos) 0 (.ref it) (.ref L) (compEnvC sc cl t₃.heap.objs.size X.env))
    (compEnds (model X.prog X.w) X.A X.xe none (EP X pins σ Q) (.ref L) (compEnvC sc cl t₃.heap.objs.size X.env)) { t₃ with heap := pushCells (t₃.heap.push { cls := .type "dict", data := .dict #[] }) sc.names }
  have pg := hg t₃ H₃ t₃.heap.objs.size cl its
  have pt := ht t₃ H₃ t₃.heap.objs.size cl its
  have pe := he t₃ H₃ t₃.heap.objs.size cl its
  generalize hce : compEnvC sc cl t₃.heap.objs.size X.env = ce at I₄ pg pt pe ⊢
  have loc : ce.locals = t₃.heap.objs.size := by subst hce; rfl
  have cf : ce.frame = X.env.frame := by subst hce; rfl
  generalize ht₄ : ({ t₃ with heap := pushCells (t₃.heap.push { cls := .type "dict", data := .dict #[] }) sc.names } : Shared) = t₄ at I₄ ⊢
  have atS₄ : Sd 0 t₄.heap := T.keep _ _ _ atS₃ fun b _ o e => by subst ht₄; exact pushCells_keeps _ _ _ _ (Heap.get?_push_of_some _ e)
  -- what an exception of the element owes
  generalize hxe : notedBy (model X.prog X.w) X.A ce (CompFails (model X.prog X.w) X.A X.xe ce) = xe
  have pg := pg xe
  have pt := pt xe
  have pe := pe xe fun pins' σ' H' s' u s'' J c => by
    show xe u s''
    subst hxe
    exact block_out stk frm tk hW I₃ (fun b hb => (fits₃ b hb).1) loc cf J c
  have I₄ : Inv (X.blx t₃ H₃ sc ce its xe) [] (wipe σ (own.map (·.2))) H₃ t₄ := I₄.reX
  have tidy : ∀ {σ' : St} {H' : Hp} {s' : Shared}, Inv (X.blx t₃ H₃ sc ce its xe) [] σ' H' s' → (∀ b ∈ its, H' b = none) → ∀ b ∈ its, FpOk (X.blx t₃ H₃ sc ce its xe) [] H' b := fun {σ' H' s'} J hn b hb =>
    ⟨hn b hb, (J.ok.exf b hb).1, J.ok.exfs b hb, .inl hb, (J.ok.exf b hb).2, fun p hp => by cases hp⟩
  have loop : codeAny (model X.prog X.w) X.A (.compLoop (.ListComp elt [⟨tg, iter, ifs, 0⟩] sc pos) 0 (.ref it) (.ref L) ce) (compEnds (model X.prog X.w) X.A X.xe none (EP X pins σ Q) (.ref L) ce) t₄ := by
    refine compLoop_any (fun n s' => ∃ i H', Inv (X.blx t₃ H₃ sc ce its xe) [] (wipe σ (own.map (·.2))) H' s' ∧ Sd i s'.heap ∧ (∀ b ∈ its, H' b = none) ∧ Wk i n H') ?_ n₀ ⟨0, H₃, I₄, atS₄, free₃, w₀⟩
    show ∀ n s, _ → wpAny _ _ _ _ (notedBy (model X.prog X.w) X.A ce (CompFails (model X.prog X.w) X.A X.xe ce)) s
    rw [show (notedBy (model X.prog X.w) X.A ce fun e s' => compEnds (model X.prog X.w) X.A X.xe none (EP X pins σ Q) (.ref L) ce (.error e) s') = xe from hxe]
    rw [hxe]
    rintro n s₅ ⟨i, H₅, I₅, at₅, n₅, w₅⟩
    rcases turn i n H₅ w₅ with ⟨stop, fin⟩ | ⟨go, Nx, hNx, step⟩
    · refine thnF (T.done (X.blx t₃ H₃ sc ce its xe) rfl rfl rfl calm i [] s₅ _ H₅ (fun _ _ => False) I₅ (tidy I₅ n₅) at₅ stop) fun r s₆ ⟨hr, I₆⟩ => ?_
      subst hr
      have I₇ : Inv X pins σ H₅ s₆ := I₃.call' (ch := its) I₆.os I₆.base I₆.hok I₆.bare fun b hb => ⟨(fits₃ b hb).1.2.2.2.1, (fits₃ b hb).1.2.1, (fits₃ b hb).1.2.2.2.2.1, (fits₃ b hb).1.2.2.2.2.2⟩
      have freeC : H₅ ce.locals = none := I₆.free
      obtain ⟨m, ns, _⟩ := I₆.loc
      have ns : s₆.heap.Ns ce.locals m := ns
      refine ⟨m, ns, fun h' same => ?_⟩
      rw [loc] at freeC same
      obtain ⟨f0, f1, _, f3, f4, f5⟩ := I₃.fpOk (Nat.le_refl _) freeC
      exact ⟨.ref L, H₅, I₇.turned (t' := s₆.toks) (fun b o nb e => (same.2 b nb).trans e) f0 f1 f3 f4 f5, rfl, fin⟩
    · refine thnF (T.item (X.blx t₃ H₃ sc ce its xe) rfl rfl rfl calm i [] s₅ _ H₅ (fun _ _ => False) I₅ (tidy I₅ n₅) at₅ go) fun r s₆ ⟨u, hr, z₆⟩ => ?_
      subst hr
      refine thnF z₆ fun _ s₇ ⟨x, H₇, I₇, r₇, y₇, at₇, n₇⟩ => ?_
      refine thn (pg.run _ s₇ _ H₇ x u _ (I₇.pinned (tidy I₇ n₇) (T.obj _ _ at₇)) r₇ (step x H₇ y₇)) fun _ s₈ ⟨σ₈, H₈, I₈, wiped, z₈⟩ => ?_
      refine thn (pt.run _ s₈ σ₈ H₈ _ I₈ z₈) fun b s₉ ⟨H₉, I₉, z₉⟩ => ?_
      have next : ∀ {s' : Shared} {H' : Hp}, Inv (X.blx t₃ H₃ sc ce its xe) ([] ++ pinsAt its s₇.heap) σ₈ H' s' → Nx H' → ∃ m, m < n ∧ ∃ i H', Inv (X.blx t₃ H₃ sc ce its xe) [] (wipe σ (own.map (·.2))) H' s' ∧ Sd i s'.heap ∧ (∀ b ∈ its, H' b = none) ∧ Wk i m H' := fun {s' H'} J nx => by
        obtain ⟨m, lt, w'⟩ := hNx H' nx
        have kept : ∀ b ∈ its, ∀ o, s₇.heap.get? b = some o → s'.heap.get? b = some o ∧ H' b = none := fun b hb o e =>
          have z := J.pin (b, o) (List.mem_append_right _ (List.mem_append_right _ (mem_pinsAt hb e)))
          ⟨z.1, z.2.1⟩
        exact ⟨m, lt, i + 1, H', (J.unpinned (pins := [])).weak (by rw [wipe_length, ← wipe_length σ₈ (own.map (·.2)), wiped, wipe_length]) (fun j v e => (wipe_some (wiped ▸ e)).1), T.keep _ _ _ at₇ fun b hb o e => (kept b hb o e).1, fun b hb =>
          (T.obj _ _ at₇ b hb).elim fun o z => (kept b hb o z.1).2, w'⟩
      cases b with
      | false => exact next I₉ z₉
      | true =>
        refine thn (pe.run _ s₉ σ₈ H₉ _ I₉ z₉) fun v s₁₀ ⟨y, H₁₀, I₁₀, r₁₀, acc, e₁₀, lt₁₀, nx⟩ => ?_
        exact app_ok (X := X.blx t₃ H₃ sc ce its xe) I₁₀ e₁₀ lt₁₀ r₁₀ fun s₁₁ I₁₁ => next I₁₁ nx
  exact codeAny_compStart_list loop (T.self X.A 0 _ _ _ atS₄ loop)
end
end L2
/-! texts read back: the plain reading, and rules for texts -/
namespace DL
open PySem PySem.Spec PyProof.Rows L2 Evl PySem.Builtin PySem.Builtin.Str
/-! ### the plain reading -/
def digB (c : Nat) : Bool := decide (48 ≤ c) && decide (c ≤ 57)
def goodW (w : List Nat) : Bool := (decide (1 ≤ w.length) && decide (w.length ≤ 60)) && (!(decide (w.head? = some 48) && !decide (w = [48])) && w.all digB)
def valW (w : List Nat) : Int := ((NumText.digitsVal w : Nat) : Int)
def numW (w : List Nat) : Int := if goodW w = true then valW w else -1
def okJ (j : T3) : Bool := decide (0 ≤ j.1) && (decide (1 ≤ j.2.1) && decide (j.1 < j.2.2))
def jobW (r : List Nat) : Option T3 :=
  match TL.spl [32] 0 [] r with
  | [a, b, c] => if (goodW a && (goodW b && goodW c)) = true ∧ okJ (valW a, valW b, valW c) = true then some (valW a, valW b, valW c) else none
  | _ => none
def rowsW (t : List Nat) : List (List Nat) := (TL.spl [10] 0 [] t).dropLast
inductive Out where
  | many : Out
  | row : Out
  | jobs : List T3 → Out
def outW : Option (List T3) → Out
  | some js => .jobs js
  | none => .row
def readW (t : List Nat) : Out :=
  if 60 < t.count 10 then .many else if t ≠ [] ∧ t.getLast? ≠ some 10 then .row else outW ((rowsW t).mapM jobW)
/-! ### counts, ends, cuts -/
theorem cnt_count (c : Nat) (l : List Nat) : cnt c l = ((l.count c : Nat) : Int) := by
  induction l with
  | nil => rfl
  | cons a r ih =>
    rw [cnt_cons, ih, List.count_cons]
    by_cases h : a = c
    · subst h; simp; omega
    · simp [h, Ne.symm h]
theorem count_S (t : List Nat) (c : Nat) : Txt.count (S t) (S [c]) = ((t.count c : Nat) : Int) := (count_cnt (S t) c).trans (cnt_count c t)
theorem pre1 (s c : Nat) (r : List Nat) : TL.pre [s] (c :: r) = decide (c = s) := by
  unfold TL.pre
  show ([c] == [s]) = decide (c = s)
  by_cases h : c = s
  · subst h; simp
  · simp [h]
theorem ends_S (t : List Nat) (c : Nat) : Txt.endswith (S t) (S [c]) = decide (t.getLast? = some c) := by
  unfold Txt.endswith
  rw [Nat.zero_add, show (S [c]).length = 1 from rfl, SX.S_len]
  rcases List.eq_nil_or_concat t with e | ⟨l, b, e⟩
  · subst e; rfl
  · rw [List.concat_eq_append] at e
    subst e
    have h1 : 1 ≤ (l ++ [b]).length := by rw [List.length_append]; exact Nat.le_add_left _ _
    rw [decide_eq_true h1, Bool.true_and]
    have h2 : (l ++ [b]).length - 1 = l.length := by rw [List.length_append]; rfl
    rw [h2]
    have k := TL.at_iff (x := S (l ++ [b])) (y := S [c]) (List.cons_ne_nil _ _) l.length
    have e1 : (TL.tl (S (l ++ [b]))).drop l.length = [b] := by
      show (l ++ [b]).drop l.length = [b]
      simp
    rw [e1] at k
    have e2 : TL.pre (TL.tl (S [c])) [b] = decide (b = c) := pre1 c b []
    rw [e2] at k
    have e3 : ((l ++ [b]).getLast? = some c) ↔ b = c := by simp
    rw [show decide ((l ++ [b]).getLast? = some c) = decide (b = c) from decide_eq_decide.mpr e3]
    cases hs : subAt (S (l ++ [b])) (S [c]) l.length with
    | true => exact (k.mp ⟨by show l.length + 1 ≤ (S (l ++ [b])).length; rw [SX.S_len, List.length_append]; exact Nat.le_refl _, hs⟩).symm
    | false =>
      cases hd : decide (b = c) with
      | false => rfl
      | true =>
        have z := (k.mpr hd).2
        rw [hs] at z
        cases z
theorem spl_cons (s c : Nat) (acc r : List Nat) : TL.spl [s] 0 acc (c :: r) = if c = s then acc :: TL.spl [s] 0 [] r else TL.spl [s] 0 (acc ++ [c]) r := by
  by_cases h : c = s
  · rw [if_pos h, TL.spl_hit (by rw [pre1, decide_eq_true h])]
    rfl
  · rw [if_neg h, TL.spl_miss (by rw [pre1, decide_eq_false h])]
theorem spl_ne (s : Nat) : ∀ (t acc : List Nat), TL.spl [s] 0 acc t ≠ []
  | [], acc => by rw [TL.spl_nil]; exact List.cons_ne_nil _ _
  | c :: r, acc => by
    rw [spl_cons]
    split
    · exact List.cons_ne_nil _ _
    · exact spl_ne s r _
theorem spl_end (s : Nat) : ∀ (t acc : List Nat), TL.spl [s] 0 acc (t ++ [s]) = TL.spl [s] 0 acc t ++ [[]]
  | [], acc => by
    rw [List.nil_append, spl_cons, if_pos rfl, TL.spl_nil, TL.spl_nil]
    rfl
  | c :: r, acc => by
    rw [List.cons_append, spl_cons, spl_cons, spl_end s r, spl_end s r]
    split <;> rfl
theorem spl_len (s : Nat) : ∀ (t acc : List Nat), (TL.spl [s] 0 acc t).length = t.count s + 1
  | [], acc => by rw [TL.spl_nil]; rfl
  | c :: r, acc => by
    rw [spl_cons, List.count_cons]
    by_cases h : c = s
    · subst h
      rw [if_pos rfl, List.length_cons, spl_len c r]
      simp
    · rw [if_neg h, spl_len s r]
      simp [h]
theorem spl_short (s : Nat) : ∀ (t acc : List Nat), ∀ w ∈ TL.spl [s] 0 acc t, w.length ≤ acc.length + t.length
  | [], acc, w, hw => by
    rw [TL.spl_nil] at hw
    rw [List.mem_singleton.mp hw]
    exact Nat.le_refl _
  | c :: r, acc, w, hw => by
    rw [spl_cons] at hw
    rw [List.length_cons]
    split at hw
    · rcases List.mem_cons.mp hw with e | hw
      · rw [e]; omega
      · have := spl_short s r [] w hw
        rw [List.length_nil] at this
        omega
    · have := spl_short s r _ w hw
      rw [List.length_append, List.length_singleton] at this
      omega
theorem rows_end {t : List Nat} : rowsW (t ++ [10]) = TL.spl [10] 0 [] t := by
  unfold rowsW
  rw [spl_end, List.dropLast_concat]
theorem last_split {t : List Nat} {c : Nat} (h : t.getLast? = some c) : t = t.take (t.length - 1) ++ [c] := by
  obtain ⟨ys, rfl⟩ := List.getLast?_eq_some_iff.mp h
  simp
/-! ### what is written is read -/
def bodyL (j : T3) : List Nat := numI j.1 ++ (32 :: (numI j.2.1 ++ (32 :: numI j.2.2)))
theorem row_body (j : T3) : rowL j = bodyL j ++ [10] := by
  unfold rowL bodyL
  simp [List.append_assoc]
theorem num_free {n : Int} {s : Nat} (h : s < 48 ∨ 57 < s) : s ∉ numI n := TL.numL_free h
theorem spl_piece {s : Nat} : ∀ {p acc r : List Nat}, s ∉ p → TL.spl [s] 0 acc (p ++ (s :: r)) = (acc ++ p) :: TL.spl [s] 0 [] r
  | [], acc, r, _ => by rw [List.nil_append, spl_cons, if_pos rfl, List.append_nil]
  | c :: p, acc, r, h => by
    rw [List.cons_append, spl_cons, if_neg (fun e => h (by rw [e]; exact List.mem_cons_self)), spl_piece (fun m => h (List.mem_cons_of_mem _ m)), List.append_assoc]
    rfl
theorem spl_whole {s : Nat} : ∀ {p acc : List Nat}, s ∉ p → TL.spl [s] 0 acc p = [acc ++ p]
  | [], acc, _ => by rw [TL.spl_nil, List.append_nil]
  | c :: p, acc, h => by
    rw [spl_cons, if_neg (fun e => h (by rw [e]; exact List.mem_cons_self)), spl_whole (fun m => h (List.mem_cons_of_mem _ m)), List.append_assoc]
    rfl
theorem spl_body (j : T3) : TL.spl [32] 0 [] (bodyL j) = [numI j.1, numI j.2.1, numI j.2.2] := by
  unfold bodyL
  rw [spl_piece (num_free (by decide)), spl_piece (num_free (by decide)), spl_whole (num_free (by decide))]
  rfl
theorem numL_head {n : Nat} (h : (TL.numL n).head? = some 48) : n = 0 := by
  induction n using Nat.strongRecOn with
  | _ n ih =>
    rcases Nat.lt_or_ge n 10 with g | g
    · rw [TL.numL_lt g] at h
      have : 48 + n = 48 := Option.some.inj h
      omega
    · rw [TL.numL_step g] at h
      have hne := TL.numL_ne (n / 10)
      rw [List.head?_append, Option.or_of_isSome (by cases e : TL.numL (n / 10) with | nil => exact absurd e hne | cons a r => rfl)] at h
      have := ih (n / 10) (by omega) h
      omega
theorem good_num {n : Int} (h0 : 0 ≤ n) (h : n < B60) : goodW (numI n) = true := by
  have hl := numI_len h
  have hne : numI n ≠ [] := TL.numL_ne _
  have h1 : 1 ≤ (numI n).length := List.length_pos_iff.mpr hne
  unfold goodW
  rw [decide_eq_true h1, decide_eq_true hl]
  have hd : (numI n).all digB = true := List.all_eq_true.mpr fun c hc => by
    have := TL.numL_digits _ c hc
    unfold digB
    rw [decide_eq_true this.1, decide_eq_true this.2]
    rfl
  rw [hd]
  by_cases e : (numI n).head? = some 48
  · have z := numL_head e
    have : numI n = [48] := by
      unfold numI
      rw [z]
      exact TL.numL_lt (by decide)
    rw [this]
    decide
  · rw [decide_eq_false e]
    rfl
theorem val_num {n : Int} (h0 : 0 ≤ n) : valW (numI n) = n := by
  unfold valW numI
  rw [TL.numL_val]
  omega
theorem job_body {j : T3} (h : Small3 j) (s : okJ j = true) : jobW (bodyL j) = some j := by
  unfold jobW
  rw [spl_body]
  dsimp only
  rw [good_num h.c0 h.c1, good_num h.l0 h.l1, good_num h.d0 h.d1, val_num h.c0, val_num h.l0, val_num h.d0]
  rw [if_pos ⟨rfl, s⟩]
theorem count_body (j : T3) : (bodyL j).count 10 = 0 := by
  refine List.count_eq_zero.mpr fun hm => ?_
  unfold bodyL at hm
  simp only [List.mem_append, List.mem_cons] at hm
  rcases hm with h | h | h | h | h
  · exact num_free (by decide) h
  · cases h
  · exact num_free (by decide) h
  · cases h
  · exact num_free (by decide) h
theorem text_cons (j : T3) (js : List T3) : textL (j :: js) = bodyL j ++ (10 :: textL js) := by
  unfold textL
  rw [List.map_cons, List.flatten_cons, row_body, List.append_assoc]
  rfl
theorem text_count : ∀ js : List T3, (textL js).count 10 = js.length
  | [] => rfl
  | j :: js => by
    rw [text_cons, List.count_append, List.count_cons, text_count js, count_body, List.length_cons]
    simp
theorem text_rows : ∀ js : List T3, TL.spl [10] 0 [] (textL js) = js.map bodyL ++ [[]]
  | [] => rfl
  | j :: js => by
    rw [text_cons, spl_piece (List.count_eq_zero.mp (count_body j)), text_rows js]
    rfl
theorem text_last : ∀ js : List T3, js ≠ [] → (textL js).getLast? = some 10
  | [], h => absurd rfl h
  | [j], _ => by rw [text_cons]; show (bodyL j ++ [10]).getLast? = _; simp
  | j :: k :: r, _ => by
    rw [text_cons, List.getLast?_append, List.getLast?_cons, text_last (k :: r) (List.cons_ne_nil _ _)]
    rfl
theorem mapM_some {α β : Type} {f : α → Option β} : ∀ {xs : List α} {ys : List β}, xs.mapM f = some ys ↔ xs.map f = ys.map some
  | [], ys => by
    rw [List.mapM_nil]
    constructor
    · intro h; cases h; rfl
    · intro h
      cases ys with
      | nil => rfl
      | cons y r => cases h
  | x :: xs, ys => by
    rw [List.mapM_cons, List.map_cons]
    cases hx : f x with
    | none =>
      constructor
      · intro h; cases h
      · intro h
        cases ys with
        | nil => cases h
        | cons y r => rw [List.map_cons] at h; exact absurd (List.cons.inj h).1 (by simp)
    | some z =>
      cases hr : xs.mapM f with
      | none =>
        constructor
        · intro h; cases h
        · intro h
          cases ys with
          | nil => cases h
          | cons y r =>
            rw [List.map_cons] at h
            have := mapM_some.mpr (List.cons.inj h).2
            rw [hr] at this
            cases this
      | some zs =>
        have e := mapM_some.mp hr
        constructor
        · intro h
          cases h
          rw [List.map_cons, e]
        · intro h
          cases ys with
          | nil => cases h
          | cons y r =>
            rw [List.map_cons] at h
            obtain ⟨h1, h2⟩ := List.cons.inj h
            have h2' := mapM_some.mpr h2
            rw [hr] at h2'
            cases h1
            cases h2'
            rfl
theorem read_text {js : List T3} (hl : js.length ≤ 60) (hs : ∀ j ∈ js, Small3 j ∧ okJ j = true) : readW (textL js) = .jobs js := by
  unfold readW
  rw [text_count, if_neg (by omega)]
  have h2 : ¬ (textL js ≠ [] ∧ (textL js).getLast? ≠ some 10) := fun ⟨a, b⟩ => by
    cases js with
    | nil => exact a rfl
    | cons j r => exact b (text_last _ (List.cons_ne_nil _ _))
  rw [if_neg h2]
  have h3 : (rowsW (textL js)).mapM jobW = some js := by
    refine mapM_some.mpr ?_
    unfold rowsW
    rw [text_rows, List.dropLast_concat, List.map_map]
    exact List.map_congr_left fun j hj => job_body (hs j hj).1 (hs j hj).2
  rw [h3]
  rfl

/-! ### figures -/
def FIG : Str := "0123456789"
theorem fig_signs : FIG.cps.toList = [48, 49, 50, 51, 52, 53, 54, 55, 56, 57] := by decide +kernel
theorem fig_S : FIG = S [48, 49, 50, 51, 52, 53, 54, 55, 56, 57] := TL.ext_tl fig_signs
theorem fig_in (c : Nat) : decide (c ∈ FIG.cps.toList) = digB c := by
  rw [fig_signs]
  unfold digB
  rw [← Bool.decide_and]
  refine decide_eq_decide.mpr ?_
  simp only [List.mem_cons, List.not_mem_nil, or_false]
  omega
theorem fig_find (c : Nat) : Txt.find FIG (S [c]) = if digB c = true then ((c - 48 : Nat) : Int) else -1 := by
  by_cases h : digB c = true
  · rw [if_pos h]
    have h1 : 48 ≤ c ∧ c ≤ 57 := by
      unfold digB at h
      rw [Bool.and_eq_true] at h
      exact ⟨of_decide_eq_true h.1, of_decide_eq_true h.2⟩
    have key : ∀ d : Nat, d < 10 → Txt.find FIG (S [48 + d]) = ((d : Nat) : Int) := by decide +kernel
    have := key (c - 48) (by omega)
    rw [show 48 + (c - 48) = c by omega] at this
    exact this
  · rw [if_neg h]
    have e := StrLaws.found_one FIG c
    rw [fig_in] at e
    have hf : digB c = false := by simpa using h
    rw [hf] at e
    unfold Txt.find
    show (match occurrences FIG ⟨#[c]⟩ 0 FIG.length 1 with | i :: _ => (i : Int) | [] => -1) = -1
    cases ho : occurrences FIG ⟨#[c]⟩ 0 FIG.length 1 with
    | nil => rfl
    | cons a r =>
      rw [ho] at e
      cases e
theorem fig_at {k : Int} (h0 : 0 ≤ k) (h : k < 10) : atI FIG.cps.toList k = some (48 + k.toNat) := by
  rw [fig_signs]
  have key : ∀ d : Nat, d < 10 → atI [48, 49, 50, 51, 52, 53, 54, 55, 56, 57] ((d : Nat) : Int) = some (48 + d) := by decide +kernel
  have := key k.toNat (by omega)
  rw [Int.toNat_of_nonneg h0] at this
  exact this
theorem val_snoc (w : List Nat) (c : Nat) : valW (w ++ [c]) = 10 * valW w + ((c - 48 : Nat) : Int) := by
  unfold valW NumText.digitsVal
  rw [List.foldl_append]
  show (((w.foldl (fun acc c => acc * 10 + (c - 48)) 0) * 10 + (c - 48) : Nat) : Int) = _
  rw [Int.natCast_add, Int.natCast_mul, Int.mul_comm]
  rfl
theorem val_nonneg (w : List Nat) : 0 ≤ valW w := Int.natCast_nonneg _
/-- the leading test of a number -/
def badW (w : List Nat) : Bool := decide (w = []) || (decide (60 < w.length) || (decide (w.head? = some 48) && !decide (w = [48])))
theorem bad_good (w : List Nat) : goodW w = (!badW w && w.all digB) := by
  unfold goodW badW
  cases w with
  | nil => rfl
  | cons c r =>
    have h1 : decide (1 ≤ (c :: r).length) = true := decide_eq_true (by rw [List.length_cons]; omega)
    have h2 : decide (c :: r = []) = false := decide_eq_false (List.cons_ne_nil _ _)
    rw [h1, h2, Bool.true_and, Bool.false_or]
    by_cases h3 : (c :: r).length ≤ 60
    · rw [decide_eq_true h3, decide_eq_false (show ¬ 60 < (c :: r).length by omega), Bool.true_and, Bool.false_or]
    · rw [decide_eq_false h3, decide_eq_true (show 60 < (c :: r).length by omega)]
      rfl
theorem good_ne {w : List Nat} (h : goodW w = true) : w ≠ [] ∧ w.length ≤ 60 ∧ w.all digB = true := by
  rw [bad_good, Bool.and_eq_true] at h
  unfold badW at h
  refine ⟨fun e => ?_, ?_, h.2⟩
  · rw [e] at h; exact absurd h.1 (by decide)
  · have h1 := h.1
    rw [Bool.not_eq_true', Bool.or_eq_false_iff, Bool.or_eq_false_iff] at h1
    have := of_decide_eq_false h1.2.1
    omega
theorem int_good {w : List Nat} (h : goodW w = true) : intText? (S w) = some (valW w) := by
  obtain ⟨h1, h2, h3⟩ := good_ne h
  exact SX.int_S (List.all_eq_true.mpr fun c hc => List.all_eq_true.mp h3 c hc) h1 (by omega)
/-- of three words: by numbers | by good words -/
theorem job_words (a b c : List Nat) :
    (if (decide (numW a < 0) || (decide (numW b < 1) || decide (numW c ≤ numW a))) = true then none else some (numW a, numW b, numW c)) =
      if (goodW a && (goodW b && goodW c)) = true ∧ okJ (valW a, valW b, valW c) = true then some (valW a, valW b, valW c) else none := by
  have va := val_nonneg a
  have vb := val_nonneg b
  have vc := val_nonneg c
  unfold numW okJ
  cases ga : goodW a with
  | false => simp
  | true =>
    cases gb : goodW b with
    | false => simp
    | true =>
      cases gc : goodW c with
      | false =>
        simp
        intro _ _
        omega
      | true =>
        simp only [if_true, Bool.and_self, true_and, Bool.or_eq_true, decide_eq_true_eq, Bool.and_eq_true]
        by_cases h : valW a < 0 ∨ valW b < 1 ∨ valW c ≤ valW a
        · rw [if_pos h, if_neg (by omega)]
        · rw [if_neg h, if_pos (by omega)]
end DL
/-! rules for texts: cut, looked through, repeated; lists of jobs and None -/
namespace DL
open PySem PySem.Spec PyProof.Rows L2 Evl
def rMulS : R2 := fun x y H Q => ∃ a n, x = .str a ∧ y = .int n ∧ MulOk a n ∧ Q (.str (Txt.mul a n)) H
theorem op_mulS {X : Cx} : OpR X (binaryOp .Mult) rMulS := by
  intro pins s σ H x y v u Q I rx ry h
  obtain ⟨a, n, rfl, rfl, hok, q⟩ := h
  obtain ⟨t, rfl⟩ := rx
  obtain ⟨t', rfl⟩ := ry
  exact SB.mul hok fun t2 k => ⟨.str (Txt.mul a n), H, I.tok _, ⟨_, rfl⟩, q⟩
theorem room65 {k : Nat} {A : Around} (r : Room k A) : A.units + 65 < cLine := by have := r.un; omega
def rSpl : V → List V → Hp → VK → Prop := fun x xs H Q => ∃ a b, x = .str a ∧ xs = [.str b] ∧ (b.length == 0) = false ∧ a.length + 2 ≤ sizeLine ∧ rNewStrs (Txt.split a b) H Q
abbrev sV (w : List Nat) : V := .str (S w)
theorem map_sV (ws : List (List Nat)) : (ws.map S).map V.str = ws.map sV := by rw [List.map_map]; rfl
section
variable {K : PySem.W.Frag} {σ : St} {H H' : Hp} {ta tb te ti tl : TE} {tA : TA} {t' : TT} {D : Ends} {tu tz : TS} {g : TG} {p q l : Addr} {j : Nat} {vs : List Nat} {xs : List V}
theorem el_split {a b : List Nat} (ha : Ev ta σ H (sV a)) (hb : Ev te σ H (sV b)) (h0 : b ≠ []) (hk : b.all (· < 256) = true) (hz : a.length ≤ 50000) : EvL (tM1 rSpl ta te) σ H ((TL.spl b 0 [] a).map sV) := fun H1 e Q k =>
  ha H1 e _ fun H2 e2 => ⟨⟨_, rfl⟩, hb H2 (e.trans e2) _ fun H3 e3 => ⟨S a, S b, rfl, rfl, by
    rw [SX.S_len]
    cases b with
    | nil => exact absurd rfl h0
    | cons c r => rfl, by rw [SX.S_len]; exact sz_of (by omega), fun d nd => by
    rw [SX.split_S h0 hk, map_sV]
    exact k d _ (fresh_back (e2.trans e3) nd) ((e2.trans e3).trans (Ex.new nd)) upd_same⟩⟩
theorem ev_m1 {a b : Str} {z : V} {r : V → List V → Hp → VK → Prop} (ha : Ev ta σ H (.str a)) (hb : Ev te σ H (.str b)) (hr : ∀ H1 (Q : VK), Q z H1 → r (.str a) [.str b] H1 Q) : Ev (tM1 r ta te) σ H z := fun H1 e Q k =>
  ha H1 e _ fun H2 e2 => ⟨⟨a, rfl⟩, hb H2 (e.trans e2) _ fun H3 e3 => hr H3 Q (k H3 (e2.trans e3))⟩
theorem ev_c1 {x z : V} {r : List V → Hp → VK → Prop} (ha : Ev ta σ H x) (hr : ∀ H1 (Q : VK), Q z H1 → r [x] H1 Q) : Ev (tCB r (tCons ta tNil)) σ H z := fun H1 e Q k => ha H1 e _ fun H2 e2 => hr H2 Q (k H2 e2)
theorem ev_slS {a : Str} {lo hi : Option Int} {to th : TO} (h : Ev te σ H (.str a)) (h1 : EvO to σ H lo) (h2 : EvO th σ H hi) (hz : a.length ≤ 100000) : Ev (tSl C8.rSlX te to th) σ H (.str (Txt.slice a lo hi)) := fun H1 e Q k =>
  h H1 e _ fun H2 e2 => h1 H2 (e.trans e2) _ fun H3 e3 => h2 H3 ((e.trans e2).trans e3) _ fun H4 e4 => ⟨a, rfl, sz_of hz, k H4 ((e2.trans e3).trans e4)⟩
theorem ev_addS {a b : Str} {r : R2} (ha : Ev ta σ H (.str a)) (hb : Ev tb σ H (.str b)) (hr : ∀ H1 (Q : VK), Q (.str (a ++ b)) H1 → r (.str a) (.str b) H1 Q) : Ev (tOp r ta tb) σ H (.str (a ++ b)) := fun H1 e Q k =>
  ha H1 e _ fun H2 e2 => hb H2 (e.trans e2) _ fun H3 e3 => hr H3 Q (k H3 (e2.trans e3))
/-- [.. for sign in text] -/
theorem el_lcS {w : List Nat} (v : Nat → V) (h : Ev tl σ H (sV w)) (hz : w.length ≤ 40000) (hw : ∀ x, wipe ((wipe σ vs).set j (some x)) vs = wipe σ vs)
    (he : ∀ c H1, c ∈ w → Ex H H1 → Ev te ((wipe σ vs).set j (some (sV [c]))) H1 (v c)) : EvL (tLc (iStr tl) (gName j) tYes te vs) σ H (w.map v) := fun H0 e Q k =>
  h H0 e _ fun H1 e1 => by
    refine ⟨S w, rfl, fun Dl hD => ?_⟩
    refine ⟨fun i m H' => m = w.length - i ∧ i ≤ w.length ∧ Ex H1 H' ∧ H' Dl = some (.lst ((w.take i).map v)), ⟨w.length, rfl, Nat.zero_le _, Ex.new hD, upd_same⟩, ?_⟩
    rintro i m H' ⟨rfl, hi, e2, hDl⟩
    have hsz : (S w).cps.size = w.length := SX.S_len w
    by_cases hlt : i < w.length
    · refine .inr ⟨by show i < (S w).cps.size; omega, fun H2 => Ex H1 H2 ∧ H2 Dl = some (.lst ((w.take (i + 1)).map v)), fun H2 p2 => ⟨w.length - (i + 1), by omega, rfl, hlt, p2.1, p2.2⟩, fun y H2 hy => ?_⟩
      obtain ⟨rfl, c, hc, rfl⟩ := hy
      have hc : w[i]? = some c := by
        have : (S w).cps[i]? = w[i]? := by simp [S, SX.S]
        rw [← this]; exact hc
      refine ⟨hw _, ?_⟩
      show te _ H2 _
      refine he c H2 (List.mem_of_getElem? hc) ((e.trans e1).trans e2) H2 (Ex.refl _) _ fun H4 e4 => ?_
      refine ⟨_, e4 _ _ hDl, sz_lt (by rw [List.length_map, List.length_take]; omega), Ex.mut (e2.trans e4) hD, ?_⟩
      rw [List.take_add_one, hc, List.map_append]
      exact upd_same
    · have e0 : i = w.length := by omega
      subst e0
      rw [List.take_length] at hDl
      exact .inl ⟨by show (S w).cps.size ≤ w.length; omega, k Dl H' (fresh_back e1 hD) (e1.trans e2) hDl⟩
/-- for sign in text -/
theorem s_forS {w : List Nat} (h : Ev tl σ H (sV w)) (Pv : Nat → St → Hp → Prop) (h0 : ∀ H1, Ex H H1 → Pv 0 σ H1)
    (hs : ∀ i c σ H, w[i]? = some c → Pv i σ H → g (sV [c]) σ H fun σ2 H2 => tu { D with nx := Pv (i + 1), ct := Pv (i + 1), bk := D.nx } σ2 H2) (hd : ∀ σ H, Pv w.length σ H → D.nx σ H) : tFor (iStr tl) g tu D σ H :=
  h H (Ex.refl H) _ fun H1 e => by
    refine ⟨S w, rfl, fun i m σ H => m = w.length - i ∧ i ≤ w.length ∧ Pv i σ H, ⟨w.length, rfl, Nat.zero_le _, h0 H1 e⟩, ?_⟩
    rintro i m σ H ⟨rfl, hi, pv⟩
    have hsz : (S w).cps.size = w.length := SX.S_len w
    by_cases hlt : i < w.length
    · refine .inr ⟨by show i < (S w).cps.size; omega, Pv (i + 1), fun σ' H' p' => ⟨w.length - (i + 1), by omega, rfl, hlt, p'⟩, fun y H2 hy => ?_⟩
      obtain ⟨rfl, c, hc, rfl⟩ := hy
      have hc : w[i]? = some c := by
        have : (S w).cps[i]? = w[i]? := by simp [S, SX.S]
        rw [← this]; exact hc
      exact hs i c σ H2 hc pv
    · have e0 : i = w.length := by omega
      subst e0
      exact .inl ⟨by show (S w).cps.size ≤ w.length; omega, hd σ H pv⟩
theorem q_forS {w : List Nat} (h : Ev tl σ H (sV w)) (Pv : Nat → St → Hp → Prop) (h0 : ∀ H1, Ex H H1 → Pv 0 σ H1)
    (hs : ∀ i c σ H, w[i]? = some c → Pv i σ H → g (sV [c]) σ H fun σ2 H2 => tu { D with nx := Pv (i + 1), ct := Pv (i + 1), bk := tz D } σ2 H2) (hd : ∀ σ H, Pv w.length σ H → tz D σ H) : tSeq (tFor (iStr tl) g tu) tz D σ H :=
  s_forS (D := { D with nx := tz D }) h Pv h0 hs hd
/-- [.. for x in list], the list in a slot | new -/
theorem lcM {xs : List V} (v : V → V) (hw : ∀ x, wipe ((wipe σ vs).set j (some x)) vs = wipe σ vs) (he : ∀ x H1, x ∈ xs → Ex H H1 → Ev te ((wipe σ vs).set j (some x)) H1 (v x)) (hz : xs.length ≤ 40000) (hx : SqL K H p xs) {Q : VK}
    (k : ∀ d H2, H d = none → Ex H H2 → H2 d = some (.lst (xs.map v)) → Q (.ref d) H2) : ∀ Dl, H Dl = none → ∃ W : Nat → Nat → Hp → Prop, (∃ m, W 0 m (upd H Dl (.lst []))) ∧ ∀ i m H', W i m H' →
      ((Itl K p).stop i H' ∧ Q (.ref Dl) H') ∨ ((Itl K p).go i H' ∧ ∃ Nx : Hp → Prop, (∀ H'', Nx H'' → ∃ m', m' < m ∧ W (i + 1) m' H'') ∧ ∀ x H'', (Itl K p).yld i H' x H'' → gName j x (wipe σ vs) H'' fun σ2 H2 => wipe σ2 vs = wipe σ vs ∧ tYes σ2 H2 fun b H3 =>
        if b = true then te σ2 H3 fun y H4 => ∃ acc, H4 Dl = some (.lst acc) ∧ acc.length < sizeLine ∧ Nx (upd H4 Dl (.lst (acc ++ [y]))) else Nx H3) := fun Dl hD =>
  lc_list (K := K) (xs := xs) (fun i H' => Ex H H' ∧ H' Dl = some (.lst ((xs.take i).map v))) ⟨Ex.new hD, upd_same⟩ (fun i H' _ p => ex_l p.1 hx) (fun i x H' hi pv => by
    obtain ⟨p1, p2⟩ := pv
    refine ⟨hw x, ?_⟩
    have hlt : i < xs.length := (List.getElem?_eq_some_iff.mp hi).1
    show te _ H' _
    refine he x H' (List.mem_of_getElem? hi) p1 H' (Ex.refl _) _ fun H4 e4 => ?_
    refine ⟨_, e4 _ _ p2, sz_lt (by rw [List.length_map, List.length_take]; omega), Ex.mut (p1.trans e4) hD, ?_⟩
    rw [List.take_add_one, hi, List.map_append]
    exact upd_same) fun H' pv => by
    obtain ⟨p1, p2⟩ := pv
    rw [List.take_length] at p2
    exact k Dl H' hD p1 p2
theorem el_lcMN (v : V → V) (h : EvL tl σ H xs) (hz : xs.length ≤ 40000) (hw : ∀ x, wipe ((wipe σ vs).set j (some x)) vs = wipe σ vs)
    (he : ∀ x H1, x ∈ xs → Ex H H1 → Ev te ((wipe σ vs).set j (some x)) H1 (v x)) : EvL (tLc (iList K tl) (gName j) tYes te vs) σ H (xs.map v) := fun H0 e Q k =>
  h H0 e _ fun a H1 _ e1 hx => ⟨a, rfl, ⟨xs, SqL.of hx⟩, lcM v hw (fun x H2 m e2 => he x H2 m ((e.trans e1).trans e2)) hz (SqL.of hx) fun d H2 nd e2 h2 => k d H2 (fresh_back e1 nd) (e1.trans e2) h2⟩
theorem el_lcM (v : V → V) (h : Ev tl σ H (.ref p)) (hx : SqL K H p xs) (hz : xs.length ≤ 40000) (hw : ∀ x, wipe ((wipe σ vs).set j (some x)) vs = wipe σ vs)
    (he : ∀ x H1, x ∈ xs → Ex H H1 → Ev te ((wipe σ vs).set j (some x)) H1 (v x)) : EvL (tLc (iList K tl) (gName j) tYes te vs) σ H (xs.map v) := fun H0 e Q k =>
  h H0 e _ fun H1 e1 => ⟨p, rfl, ⟨xs, ex_l (e.trans e1) hx⟩, lcM v hw (fun x H2 m e2 => he x H2 m ((e.trans e1).trans e2)) hz (ex_l (e.trans e1) hx) fun d H2 nd e2 h2 => k d H2 (fresh_back e1 nd) (e1.trans e2) h2⟩
/-- a list of three numbers taken apart -/
theorem g_unl3 {a b c : Nat} {x y z : V} {Q : St → Hp → Prop} (h : H p = some (.lst [x, y, z])) (k : Q (((σ.set a (some x)).set b (some y)).set c (some z)) H) : gUnl K 3 (gCons (gName a) (gCons (gName b) (gCons (gName c) gNil))) (.ref p) σ H Q :=
  ⟨p, [x, y, z], rfl, SqL.of h, rfl, _, _, rfl, _, _, rfl, _, _, rfl, rfl, k⟩
theorem q_asgGL (h : EvL te σ H xs) (k : ∀ p H1, Ex H H1 → H1 p = some (.lst xs) → g (.ref p) σ H1 (tz D)) : tSeq (tAsg te g) tz D σ H := h H (Ex.refl H) _ fun p H1 _ e hp => k p H1 e hp
/-! ### None, or a job -/
def OptV (H : Hp) (v : V) : Option T3 → Prop
  | none => v = .non
  | some j => ∃ t, v = .ref t ∧ AtT H t j
theorem OptV.mono {v : V} {o : Option T3} (e : Ex H H') (h : OptV H v o) : OptV H' v o := by
  cases o with
  | none => exact h
  | some j => exact h.elim fun t z => ⟨t, z.1, e _ _ z.2⟩
def OptL (H : Hp) (xs : List V) (os : List (Option T3)) : Prop := Paired (OptV H) xs os
theorem OptL.mono (e : Ex H H') : ∀ {xs : List V} {os : List (Option T3)}, OptL H xs os → OptL H' xs os
  | _, _, .nil => .nil
  | _, _, .cons a b => .cons (a.mono e) (OptL.mono e b)
theorem OptL.snoc : ∀ {xs : List V} {os : List (Option T3)} {v : V} {o : Option T3}, OptL H xs os → OptV H v o → OptL H (xs ++ [v]) (os ++ [o])
  | _, _, _, _, .nil, h => .cons h .nil
  | _, _, _, _, .cons a b, h => .cons a (OptL.snoc b h)
def oD : Option T3 → PyData
  | none => .none
  | some j => tD j
theorem OptL.dp : ∀ {xs : List V} {os : List (Option T3)}, OptL H xs os → DpAll K H xs (os.map oD)
  | _, _, .nil => .nil
  | _, _, .cons (b := o) a r => .cons (by
      cases o with
      | none => cases a; exact .non
      | some j => obtain ⟨t, rfl, h⟩ := a; exact dp_tup h) (OptL.dp r)
theorem OptL.tps : ∀ {xs : List V} {js : List T3}, OptL H xs (js.map some) → ∃ ts : List Addr, xs = ts.map V.ref ∧ Tps H ts js
  | _, [], .nil => ⟨[], rfl, .nil⟩
  | _, j :: js, .cons a r => by
    obtain ⟨t, rfl, h⟩ := a
    obtain ⟨ts, rfl, hs⟩ := OptL.tps r
    exact ⟨t :: ts, rfl, .cons h hs⟩
theorem lay_opt : ∀ os : List (Option T3), PyData.canLayAll0 (os.map oD) = true
  | [] => rfl
  | o :: os => by
    show (PyData.canLay0 (oD o) && PyData.canLayAll0 (os.map oD)) = true
    rw [lay_opt os]
    cases o <;> rfl
theorem dep_opt : ∀ os : List (Option T3), PyData.depthAll (os.map oD) ≤ 2
  | [] => by decide
  | o :: os => by
    have h := dep_opt os
    show max (oD o).depth (PyData.depthAll (os.map oD)) ≤ 2
    have h1 : (oD o).depth ≤ 2 := by
      cases o with
      | none => exact Nat.zero_le _
      | some j =>
        have := dep_trip [j]
        have h2 : PyData.depthAll ([j].map tD) = max (tD j).depth (PyData.depthAll []) := rfl
        rw [h2] at this
        show (tD j).depth ≤ 2
        omega
    omega
theorem sh_opt (os : List (Option T3)) : SeqAt.shaped (.list (os.map oD)) = true := by
  unfold SeqAt.shaped
  rw [Bool.and_eq_true]
  refine ⟨lay_opt os, decide_eq_true ?_⟩
  have := dep_opt os
  show PyData.depthAll _ + 1 ≤ 64
  omega
theorem any_opt : ∀ os : List (Option T3), ((os.map oD).any fun z => PyData.eqv z .none) = os.any Option.isNone
  | [] => rfl
  | o :: os => by
    rw [List.map_cons, List.any_cons, List.any_cons, any_opt os]
    cases o <;> rfl
theorem ev_noneIn {os : List (Option T3)} (h : Ev te σ H (.ref p)) (hp : H p = some (.lst xs)) (ho : OptL H xs os) : Ev (tOp (rInD K) (tC .non) te) σ H (.bl (os.any Option.isNone)) := fun H1 e Q k => by
  show te σ H1 _
  refine h H1 e _ fun H2 e2 => ⟨.none, os.map oD, .non, .lst (SqL.of (e2 _ _ (e _ _ hp))) (OptL.dp (ho.mono (e.trans e2))), by decide, sh_opt os, ?_⟩
  rw [any_opt]
  exact k H2 e2
/-- [job or None for row in rows] -/
theorem lc_opt {ws : List (List Nat)} (f : List Nat → Option T3) (h : EvL tl σ H (ws.map sV)) (hz : ws.length ≤ 40000) (hw : ∀ x, wipe ((wipe σ vs).set j (some x)) vs = wipe σ vs)
    (he : ∀ w H1, w ∈ ws → Ex H H1 → ∀ Q : VK, (∀ v H2, Ex H1 H2 → OptV H2 v (f w) → Q v H2) → te ((wipe σ vs).set j (some (sV w))) H1 Q) {Q : VK}
    (k : ∀ d H2 xs, Ex H H2 → H2 d = some (.lst xs) → OptL H2 xs (ws.map f) → Q (.ref d) H2) : tLc (iList K tl) (gName j) tYes te vs σ H Q :=
  h H (Ex.refl H) _ fun a H1 na e1 hx => by
    refine ⟨a, rfl, ⟨_, SqL.of hx⟩, fun Dl hD => ?_⟩
    refine lc_list (K := K) (xs := ws.map sV) (fun i H' => Ex H1 H' ∧ ∃ ys, H' Dl = some (.lst ys) ∧ OptL H' ys ((ws.take i).map f)) ⟨Ex.new hD, [], upd_same, .nil⟩ (fun i H' _ p => SqL.of (p.1 _ _ hx)) (fun i x H' hi pv => ?_) fun H' pv => ?_
    · obtain ⟨p1, ys, p2, p3⟩ := pv
      rw [List.getElem?_map] at hi
      obtain ⟨w, hw1, rfl⟩ := Option.map_eq_some_iff.mp hi
      have hlt : i < ws.length := (List.getElem?_eq_some_iff.mp hw1).1
      refine ⟨hw _, ?_⟩
      show te _ H' _
      refine he w H' (List.mem_of_getElem? hw1) (e1.trans p1) _ fun v H4 e4 ho => ?_
      have hlen : ys.length = ((ws.take i).map f).length := Paired.length p3
      rw [List.length_map, List.length_take] at hlen
      have hd4 := e4 _ _ p2
      have keep : ∀ {z : V} {o : Option T3}, OptV H4 z o → OptV (upd H4 Dl (.lst (ys ++ [v]))) z o := fun {z o} hz => by
        cases o with
        | none => exact hz
        | some j =>
          obtain ⟨t, rfl, ht⟩ := hz
          exact ⟨t, rfl, tup_upd hd4 _ _ ht⟩
      have keepL : ∀ {zs : List V} {os : List (Option T3)}, OptL H4 zs os → OptL (upd H4 Dl (.lst (ys ++ [v]))) zs os := fun {zs os} h => by
        induction h with
        | nil => exact .nil
        | cons a _ ih => exact .cons (keep a) ih
      refine ⟨_, hd4, sz_lt (by omega), Ex.mut (p1.trans e4) hD, ys ++ [v], upd_same, ?_⟩
      rw [List.take_add_one, hw1, List.map_append]
      exact OptL.snoc (keepL (p3.mono e4)) (keep ho)
    · obtain ⟨p1, ys, p2, p3⟩ := pv
      rw [List.length_map, List.take_length] at p3
      exact k Dl H' ys (e1.trans p1) p2 p3
end
end DL
/-- values, by a hook on an open word -/
local macro_rules | `(tactic| walk_at "ev") => `(tactic| repeat' (first
  | exact Evl.ev_var rfl | exact Evl.ev_c | assumption
  | refine Evl.ev_op ?_ ?_ Evl.rv_I0 | refine Evl.ev_un ?_ Evl.ru_neg
  | refine Evl.ev_op ?_ ?_ (Evl.rv_I ?_)
  | refine Evl.ev_op ?_ ?_ (Evl.rv_eq rfl) | refine Evl.ev_op ?_ ?_ (Evl.rv_ne rfl)
  | (show L2.CDiv _ _; exact ⟨by decide, by decide⟩) | (show (0 : Int) < _; first | decide | omega) | (show L2.CMul _ _; first | exact .inr ⟨by decide, by decide⟩ | exact .inl ⟨by decide, by decide⟩)))
local macro_rules | `(tactic| walk_at "evt") => `(tactic| (refine Evl.et_test ?_; walk_at "ev"))
namespace DLL
open PySem PySem.Spec PyProof.Rows L2 Evl DL
abbrev St := L2.St
/-! ### the text by places -/
def topS (i : Nat) : Stmt := PySem.Challenge.pw_deadlinerun_k14_notes.main.body.getD i (.Pass ⟨0, 0, 0, 0⟩)
abbrev s_sound : Stmt := topS 8
abbrev N_sound : List Str := ["job", "come", "length", "due", "number"]
theorem sc_sound : FnScope ["job", "come", "length", "due", "number"] ["job"] (defScope s_sound) := ⟨rfl, rfl, rfl, by decide +kernel, rfl, by decide +kernel, by decide +kernel⟩
abbrev s_check_jobs : Stmt := topS 9
abbrev N_check_jobs : List Str := ["jobs", "place", "job"]
theorem sc_check_jobs : FnScope ["jobs", "place", "job"] ["jobs"] (defScope s_check_jobs) := ⟨rfl, rfl, rfl, by decide +kernel, rfl, by decide +kernel, by decide +kernel⟩
abbrev s_written : Stmt := topS 13
abbrev N_written : List Str := ["jobs", "come", "length", "due"]
theorem sc_written : FnScope ["jobs", "come", "length", "due"] ["jobs"] (defScope s_written) := ⟨rfl, rfl, rfl, by decide +kernel, rfl, by decide +kernel, by decide +kernel⟩
abbrev s_read : Stmt := topS 14
abbrev N_read : List Str := ["text", "row"]
theorem sc_read : FnScope ["text", "row"] ["text"] (defScope s_read) := ⟨rfl, rfl, rfl, by decide +kernel, rfl, by decide +kernel, by decide +kernel⟩
abbrev s_job_of_row : Stmt := topS 15
abbrev N_job_of_row : List Str := ["row", "words", "come", "length", "due", "job", "word"]
theorem sc_job_of_row : FnScope ["row", "words", "come", "length", "due", "job", "word"] ["row"] (defScope s_job_of_row) := ⟨rfl, rfl, rfl, by decide +kernel, rfl, by decide +kernel, by decide +kernel⟩
abbrev s_is_number : Stmt := topS 16
abbrev N_is_number : List Str := ["word", "sign"]
theorem sc_is_number : FnScope ["word", "sign"] ["word"] (defScope s_is_number) := ⟨rfl, rfl, rfl, by decide +kernel, rfl, by decide +kernel, by decide +kernel⟩
abbrev s_law_cell_at : Stmt := topS 19
abbrev N_law_cell_at : List Str := ["_law_script", "_law_k"]
theorem sc_law_cell_at : FnScope ["_law_script", "_law_k"] ["_law_script", "_law_k"] (defScope s_law_cell_at) := ⟨rfl, rfl, rfl, by decide +kernel, rfl, by decide +kernel, by decide +kernel⟩
abbrev s_law_mixed : Stmt := topS 20
abbrev N_law_mixed : List Str := ["_law_cell", "_law_k", "_law_prime"]
theorem sc_law_mixed : FnScope ["_law_cell", "_law_k", "_law_prime"] ["_law_cell", "_law_k", "_law_prime"] (defScope s_law_mixed) := ⟨rfl, rfl, rfl, by decide +kernel, rfl, by decide +kernel, by decide +kernel⟩
abbrev s_law_job_by : Stmt := topS 21
abbrev N_law_job_by : List Str := ["_law_come", "_law_length", "_law_due_here", "_law_wide", "_law_more"]
theorem sc_law_job_by : FnScope ["_law_come", "_law_length", "_law_due_here", "_law_wide", "_law_more"] ["_law_come", "_law_length", "_law_due_here", "_law_wide", "_law_more"] (defScope s_law_job_by) := ⟨rfl, rfl, rfl, by decide +kernel, rfl, by decide +kernel, by decide +kernel⟩
abbrev s_law_count_by : Stmt := topS 22
abbrev N_law_count_by : List Str := ["_law_cell"]
theorem sc_law_count_by : FnScope ["_law_cell"] ["_law_cell"] (defScope s_law_count_by) := ⟨rfl, rfl, rfl, by decide +kernel, rfl, by decide +kernel, by decide +kernel⟩
abbrev s_law_wide_by : Stmt := topS 23
abbrev N_law_wide_by : List Str := ["_law_cell"]
theorem sc_law_wide_by : FnScope ["_law_cell"] ["_law_cell"] (defScope s_law_wide_by) := ⟨rfl, rfl, rfl, by decide +kernel, rfl, by decide +kernel, by decide +kernel⟩
abbrev s_law_tight_by : Stmt := topS 24
abbrev N_law_tight_by : List Str := ["_law_cell", "_law_count", "_law_wide", "_law_jobs", "_law_time", "_law_k", "_law_mix", "_law_begin", "_law_at", "_law_come", "_law_length", "_law_due_here"]
theorem sc_law_tight_by : FnScope ["_law_cell", "_law_count", "_law_wide", "_law_jobs", "_law_time", "_law_k", "_law_mix", "_law_begin", "_law_at", "_law_come", "_law_length", "_law_due_here"] ["_law_cell", "_law_count", "_law_wide"] (defScope s_law_tight_by) := ⟨rfl, rfl, rfl, by decide +kernel, rfl, by decide +kernel, by decide +kernel⟩
abbrev s_law_jobs_by : Stmt := topS 25
abbrev N_law_jobs_by : List Str := ["_law_script", "_law_first", "_law_count", "_law_wide", "_law_cell", "_law_jobs", "_law_k", "_law_at", "_law_come"]
theorem sc_law_jobs_by : FnScope ["_law_script", "_law_first", "_law_count", "_law_wide", "_law_cell", "_law_jobs", "_law_k", "_law_at", "_law_come"] ["_law_script", "_law_first"] (defScope s_law_jobs_by) := ⟨rfl, rfl, rfl, by decide +kernel, rfl, by decide +kernel, by decide +kernel⟩
abbrev s_law_figures : Stmt := topS 26
abbrev N_law_figures : List Str := ["_law_number_here", "_law_found"]
theorem sc_law_figures : FnScope ["_law_number_here", "_law_found"] ["_law_number_here"] (defScope s_law_figures) := ⟨rfl, rfl, rfl, by decide +kernel, rfl, by decide +kernel, by decide +kernel⟩
abbrev s_law_number : Stmt := topS 27
abbrev N_law_number : List Str := ["_law_word", "_law_number_here", "_law_sign"]
theorem sc_law_number : FnScope ["_law_word", "_law_number_here", "_law_sign"] ["_law_word"] (defScope s_law_number) := ⟨rfl, rfl, rfl, by decide +kernel, rfl, by decide +kernel, by decide +kernel⟩
abbrev s_law_job_of : Stmt := topS 28
abbrev N_law_job_of : List Str := ["_law_row", "_law_words", "_law_come", "_law_length", "_law_due_here"]
theorem sc_law_job_of : FnScope ["_law_row", "_law_words", "_law_come", "_law_length", "_law_due_here"] ["_law_row"] (defScope s_law_job_of) := ⟨rfl, rfl, rfl, by decide +kernel, rfl, by decide +kernel, by decide +kernel⟩
abbrev s_law_due : Stmt := topS 29
abbrev N_law_due : List Str := ["_law_text", "_law_jobs", "_law_row"]
theorem sc_law_due : FnScope ["_law_text", "_law_jobs", "_law_row"] ["_law_text"] (defScope s_law_due) := ⟨rfl, rfl, rfl, by decide +kernel, rfl, by decide +kernel, by decide +kernel⟩
abbrev s_law_read : Stmt := topS 30
abbrev N_law_read : List Str := ["_law_text", "e"]
theorem sc_law_read : FnScope ["_law_text", "e"] ["_law_text"] (defScope s_law_read) := ⟨rfl, rfl, rfl, by decide +kernel, rfl, by decide +kernel, by decide +kernel⟩
abbrev s_law_sign_by : Stmt := topS 31
abbrev N_law_sign_by : List Str := ["_law_cell", "_law_some"]
theorem sc_law_sign_by : FnScope ["_law_cell", "_law_some"] ["_law_cell"] (defScope s_law_sign_by) := ⟨rfl, rfl, rfl, by decide +kernel, rfl, by decide +kernel, by decide +kernel⟩
abbrev s_law_changed : Stmt := topS 32
abbrev N_law_changed : List Str := ["_law_text", "_law_how", "_law_place", "_law_sign", "_law_at", "_law_rows"]
theorem sc_law_changed : FnScope ["_law_text", "_law_how", "_law_place", "_law_sign", "_law_at", "_law_rows"] ["_law_text", "_law_how", "_law_place", "_law_sign"] (defScope s_law_changed) := ⟨rfl, rfl, rfl, by decide +kernel, rfl, by decide +kernel, by decide +kernel⟩
abbrev s_law : Stmt := topS 33
abbrev N_law : List Str := ["_law_script", "_law_jobs", "_law_handed", "_law_text", "_law_found", "_law_sign", "_law_job", "_law_number_here"]
theorem sc_law : FnScope ["_law_script", "_law_jobs", "_law_handed", "_law_text", "_law_found", "_law_sign", "_law_job", "_law_number_here"] ["_law_script"] (defScope s_law) := ⟨rfl, rfl, rfl, by decide +kernel, rfl, by decide +kernel, by decide +kernel⟩

structure Fd (K : PySem.W.Frag) (mg : Str → Option Value) (x : Str) (st : Stmt) (ps : List Str) (f : Addr) (fd : FuncData) : Prop where
  F : Fun K x x st f fd
  b : Binds K fd ps []
  g : mg x = some (.ref f)
structure Md (K : PySem.W.Frag) (x q : Str) (st : Stmt) (ps : List Str) (f : Addr) (fd : FuncData) : Prop where
  F : Fun K x q st f fd
  b : Binds K fd ps []
structure TX (K : PySem.W.Frag) (mg : Str → Option Value) where
  f_sound : Addr
  d_sound : FuncData
  h_sound : Fd K mg "sound" s_sound ["job"] f_sound d_sound
  f_check_jobs : Addr
  d_check_jobs : FuncData
  h_check_jobs : Fd K mg "check_jobs" s_check_jobs ["jobs"] f_check_jobs d_check_jobs
  f_written : Addr
  d_written : FuncData
  h_written : Fd K mg "written" s_written ["jobs"] f_written d_written
  f_read : Addr
  d_read : FuncData
  h_read : Fd K mg "read" s_read ["text"] f_read d_read
  f_job_of_row : Addr
  d_job_of_row : FuncData
  h_job_of_row : Fd K mg "_job_of_row" s_job_of_row ["row"] f_job_of_row d_job_of_row
  f_is_number : Addr
  d_is_number : FuncData
  h_is_number : Fd K mg "_is_number" s_is_number ["word"] f_is_number d_is_number
  f_law_cell_at : Addr
  d_law_cell_at : FuncData
  h_law_cell_at : Fd K mg "_law_cell_at" s_law_cell_at ["_law_script", "_law_k"] f_law_cell_at d_law_cell_at
  f_law_mixed : Addr
  d_law_mixed : FuncData
  h_law_mixed : Fd K mg "_law_mixed" s_law_mixed ["_law_cell", "_law_k", "_law_prime"] f_law_mixed d_law_mixed
  f_law_job_by : Addr
  d_law_job_by : FuncData
  h_law_job_by : Fd K mg "_law_job_by" s_law_job_by ["_law_come", "_law_length", "_law_due_here", "_law_wide", "_law_more"] f_law_job_by d_law_job_by
  f_law_count_by : Addr
  d_law_count_by : FuncData
  h_law_count_by : Fd K mg "_law_count_by" s_law_count_by ["_law_cell"] f_law_count_by d_law_count_by
  f_law_wide_by : Addr
  d_law_wide_by : FuncData
  h_law_wide_by : Fd K mg "_law_wide_by" s_law_wide_by ["_law_cell"] f_law_wide_by d_law_wide_by
  f_law_tight_by : Addr
  d_law_tight_by : FuncData
  h_law_tight_by : Fd K mg "_law_tight_by" s_law_tight_by ["_law_cell", "_law_count", "_law_wide"] f_law_tight_by d_law_tight_by
  f_law_jobs_by : Addr
  d_law_jobs_by : FuncData
  h_law_jobs_by : Fd K mg "_law_jobs_by" s_law_jobs_by ["_law_script", "_law_first"] f_law_jobs_by d_law_jobs_by
  f_law_figures : Addr
  d_law_figures : FuncData
  h_law_figures : Fd K mg "_law_figures" s_law_figures ["_law_number_here"] f_law_figures d_law_figures
  f_law_number : Addr
  d_law_number : FuncData
  h_law_number : Fd K mg "_law_number" s_law_number ["_law_word"] f_law_number d_law_number
  f_law_job_of : Addr
  d_law_job_of : FuncData
  h_law_job_of : Fd K mg "_law_job_of" s_law_job_of ["_law_row"] f_law_job_of d_law_job_of
  f_law_due : Addr
  d_law_due : FuncData
  h_law_due : Fd K mg "_law_due" s_law_due ["_law_text"] f_law_due d_law_due
  f_law_read : Addr
  d_law_read : FuncData
  h_law_read : Fd K mg "_law_read" s_law_read ["_law_text"] f_law_read d_law_read
  f_law_sign_by : Addr
  d_law_sign_by : FuncData
  h_law_sign_by : Fd K mg "_law_sign_by" s_law_sign_by ["_law_cell"] f_law_sign_by d_law_sign_by
  f_law_changed : Addr
  d_law_changed : FuncData
  h_law_changed : Fd K mg "_law_changed" s_law_changed ["_law_text", "_law_how", "_law_place", "_law_sign"] f_law_changed d_law_changed
  c_TooMany : Addr
  g_TooMany : mg "TooMany" = some (.ref c_TooMany)
  x_TooMany : PySem.W.excIn K c_TooMany [.type "ValueError", .type "Exception", .type "BaseException", .type "object"] "ValueError.__new__" = true
  k_TooMany : PySem.W.keepIn K (.ref c_TooMany) = true
  s_TooMany : PySem.W.subIn K (.ref c_TooMany) (.type "BaseException") = some true
  t_TooMany : PySem.W.typeIn K (.ref c_TooMany) = some (.type "type")
  c_BadJob : Addr
  g_BadJob : mg "BadJob" = some (.ref c_BadJob)
  x_BadJob : PySem.W.excIn K c_BadJob [.type "ValueError", .type "Exception", .type "BaseException", .type "object"] "ValueError.__new__" = true
  k_BadJob : PySem.W.keepIn K (.ref c_BadJob) = true
  s_BadJob : PySem.W.subIn K (.ref c_BadJob) (.type "BaseException") = some true
  t_BadJob : PySem.W.typeIn K (.ref c_BadJob) = some (.type "type")
  c_OutOfPlace : Addr
  g_OutOfPlace : mg "OutOfPlace" = some (.ref c_OutOfPlace)
  x_OutOfPlace : PySem.W.excIn K c_OutOfPlace [.type "ValueError", .type "Exception", .type "BaseException", .type "object"] "ValueError.__new__" = true
  k_OutOfPlace : PySem.W.keepIn K (.ref c_OutOfPlace) = true
  s_OutOfPlace : PySem.W.subIn K (.ref c_OutOfPlace) (.type "BaseException") = some true
  t_OutOfPlace : PySem.W.typeIn K (.ref c_OutOfPlace) = some (.type "type")
  c_NoRow : Addr
  g_NoRow : mg "NoRow" = some (.ref c_NoRow)
  x_NoRow : PySem.W.excIn K c_NoRow [.type "ValueError", .type "Exception", .type "BaseException", .type "object"] "ValueError.__new__" = true
  k_NoRow : PySem.W.keepIn K (.ref c_NoRow) = true
  s_NoRow : PySem.W.subIn K (.ref c_NoRow) (.type "BaseException") = some true
  t_NoRow : PySem.W.typeIn K (.ref c_NoRow) = some (.type "type")
  c_RunError : Addr
  g_RunError : mg "RunError" = some (.ref c_RunError)
  x_RunError : PySem.W.excIn K c_RunError [.type "ValueError", .type "Exception", .type "BaseException", .type "object"] "ValueError.__new__" = true
  k_RunError : PySem.W.keepIn K (.ref c_RunError) = true
  s_RunError : PySem.W.subIn K (.ref c_RunError) (.type "BaseException") = some true
  t_RunError : PySem.W.typeIn K (.ref c_RunError) = some (.type "type")
  e_TooMany_TooMany : PySem.W.exmOne K (.ref c_TooMany) (.ref c_TooMany) = some true
  e_TooMany_BadJob : PySem.W.exmOne K (.ref c_TooMany) (.ref c_BadJob) = some false
  e_TooMany_OutOfPlace : PySem.W.exmOne K (.ref c_TooMany) (.ref c_OutOfPlace) = some false
  e_TooMany_NoRow : PySem.W.exmOne K (.ref c_TooMany) (.ref c_NoRow) = some false
  e_TooMany_RunError : PySem.W.exmOne K (.ref c_TooMany) (.ref c_RunError) = some true
  e_NoRow_TooMany : PySem.W.exmOne K (.ref c_NoRow) (.ref c_TooMany) = some false
  e_NoRow_BadJob : PySem.W.exmOne K (.ref c_NoRow) (.ref c_BadJob) = some false
  e_NoRow_OutOfPlace : PySem.W.exmOne K (.ref c_NoRow) (.ref c_OutOfPlace) = some false
  e_NoRow_NoRow : PySem.W.exmOne K (.ref c_NoRow) (.ref c_NoRow) = some true
  e_NoRow_RunError : PySem.W.exmOne K (.ref c_NoRow) (.ref c_RunError) = some true
  q_TooMany : ExcC K c_TooMany
  i_TooMany_RunError : PySem.W.kitOne K (.ref c_TooMany) (.ref c_RunError) = some true
  q_NoRow : ExcC K c_NoRow
  i_NoRow_ValueError : PySem.W.kitOne K (.ref c_NoRow) (.type "ValueError") = some true
  i_NoRow_BadJob : PySem.W.kitOne K (.ref c_NoRow) (.ref c_BadJob) = some false
  i_NoRow_OutOfPlace : PySem.W.kitOne K (.ref c_NoRow) (.ref c_OutOfPlace) = some false
  b_tuple : mg "tuple" = none
  b_all : mg "all" = none
  b_type : mg "type" = none
  b_len : mg "len" = none
  b_int : mg "int" = none
  b_enumerate : mg "enumerate" = none
  b_range : mg "range" = none
  b_max : mg "max" = none
  b_isinstance : mg "isinstance" = none
  b_ValueError : mg "ValueError" = none
  b_list : mg "list" = none
  b_str : mg "str" = none
  t_LIMIT : Tok
  c_LIMIT : mg "LIMIT" = some (.int 60 t_LIMIT)
  t_FIGURES : Tok
  c_FIGURES : mg "FIGURES" = some (.str "0123456789" t_FIGURES)
  t_MOST_FIGURES : Tok
  c_MOST_FIGURES : mg "MOST_FIGURES" = some (.int 60 t_MOST_FIGURES)

end DLL
namespace DLL
open PySem PySem.Spec PyProof.Rows L2 Evl DL
def BW : Int := 100000000000000000000000000000000000000000000000000000000
def BJ : Int := 1000000000000000000000000000000000000000000000000000000000000
structure JobOk (j : T3) : Prop where
  s : SoundJ j
  c : j.1 < BJ
  l : j.2.1 < BJ
  d : j.2.2 < BJ
theorem cmulW {i j : Int} (h1 : 0 ≤ i) (h2 : i ≤ BJ) (h3 : 0 ≤ j) (h4 : j ≤ BJ) : CMulW i j := by
  unfold BJ at h2 h4
  exact wide_mul (a := 256) (b := 256) (by omega) (by omega) (by decide) (by decide) (by decide)
theorem mul_bound {a w n : Int} (h0 : 0 ≤ a) (h1 : a ≤ n) (hw : 0 ≤ w) : 0 ≤ a * w ∧ a * w ≤ n * w := ⟨Int.mul_nonneg h0 hw, Int.mul_le_mul_of_nonneg_right h1 hw⟩
theorem mul_step {a b w : Int} (h : a < b) (hw : 0 ≤ w) : a * w + w ≤ b * w := by
  have := Int.mul_le_mul_of_nonneg_right (show a + 1 ≤ b by omega) hw
  rw [Int.add_mul, Int.one_mul] at this
  exact this
theorem cpow56 : CPow 10 56 := ⟨by decide, by decide, by decide⟩
end DLL
namespace DLL
open PySem PySem.Spec PyProof.Rows L2 Evl DL
section
variable {P : Program} {w : World} {K : PySem.W.Frag} {mg : Str → Option Value} {base : Heap} {H : Hp}
/-! ### the law's cells -/
def spCellAt (K : PySem.W.Frag) : Sp := fun vs H Q _ => ∃ (a : Addr) (ns : List Int) (k : Nat), vs = [.ref a, .int (k : Int)] ∧ SqL K H a (ns.map V.int) ∧ ∀ H', Ex H H' → Q (.int (ns.getD k 0)) H'
theorem v_cell_at {a : Addr} {ns : List Int} {k : Nat} (hS : SqL K H a (ns.map V.int)) : SpV (spCellAt K) [.ref a, .int (k : Int)] H (.int (ns.getD k 0)) := fun H1 e Q q E => ⟨a, ns, k, rfl, ex_l e hS, q⟩
theorem ints_at {ns : List Int} {k : Nat} (h : k < ns.length) : (ns.map V.int)[k]? = some (.int (ns.getD k 0)) := by
  rw [List.getElem?_map, List.getElem?_eq_getElem h, getD_lt h]
  rfl
theorem ok_law_cell_at (T : TX K mg) : FnOk P w K mg base CX0 1 T.f_law_cell_at T.d_law_cell_at ["_law_script", "_law_k"] (spCellAt K) := by
  refine T.h_law_cell_at.F.ok sc_law_cell_at (fun vs H Q E h => ?_) (fun cdv A outer s H vs Q E hr h => ?_)
  · obtain ⟨a, ns, k, rfl, _⟩ := h
    rfl
  · obtain ⟨a, ns, k, rfl, hS, q⟩ := h
    refine ⟨_, (pss_cons (ps_if (pt_cmpR op_lt (pv 1) (pe_callB (id := "len") (r := Evl.rLenS K) call_len_seq (by rfl) T.b_len PySem.boot_len (pa_cons (pv 0) pa_nil)) (nomark _))
    (pss_one (ps_ret (pe_ix (r := rIxL K) ix_list (pv 0) (pv 1) (fun _ _ => rfl))))
    pss_nil)
  (pss_one (ps_ret pe_int))), ?_⟩
    refine q_when (b := decide ((k : Int) < ((ns.map V.int).length : Int))) (et_test (ev_op (ev_var rfl) (ev_len (ev_var rfl) hS) rv_I0)) (fun hb H1 e1 => ?_) (fun hb H1 e1 => ?_)
    · have hk : k < ns.length := by
        have := of_decide_eq_true hb
        rw [List.length_map] at this
        omega
      exact s_ret (ev_op (ev_var rfl) (ev_var rfl) (rv_ixL (ex_l e1 hS) (atI_nat (ints_at hk)))) fun H2 e2 => q H2 (e1.trans e2)
    · have hk : ns.length ≤ k := by
        have := of_decide_eq_false hb
        rw [List.length_map] at this
        omega
      refine s_ret ev_c fun H2 e2 => ?_
      have := q H2 (e1.trans e2)
      rw [getD_ge hk] at this
      exact this

/-! ### numbers from cells -/
def mixedI (c k p : Int) : Int := (c + 7 * k + 1) * 48271 % p
def spMixed : Sp := fun vs H Q _ => ∃ c k p : Int, vs = [.int c, .int k, .int p] ∧ 0 < p ∧ ∀ H', Ex H H' → Q (.int (mixedI c k p)) H'
theorem v_mixed {c k p : Int} (hp : 0 < p) : SpV spMixed [.int c, .int k, .int p] H (.int (mixedI c k p)) := fun H1 e Q q E => ⟨c, k, p, rfl, hp, q⟩
theorem ok_law_mixed (T : TX K mg) : FnOk P w K mg base CX0 1 T.f_law_mixed T.d_law_mixed ["_law_cell", "_law_k", "_law_prime"] spMixed := by
  refine T.h_law_mixed.F.ok sc_law_mixed (fun vs H Q E h => ?_) (fun cdv A outer s H vs Q E hr h => ?_)
  · obtain ⟨c, k, p, rfl, _⟩ := h
    rfl
  · obtain ⟨c, k, p, rfl, hp, q⟩ := h
    refine ⟨_, (pss_one (ps_ret (pe_op op_mod (pe_op op_mul (pe_op op_add (pe_op op_add (pv 0) (pe_op op_mul pe_int (pv 1))) pe_int) pe_int) (pv 2)))), ?_⟩
    exact s_ret (by walk_at "ev") q
def countI (c : Int) : Int := if c % 64 = 1 then 25 + c / 64 % 36 else if c % 8 = 5 then 8 + c / 8 % 17 else c / 8 % 12
theorem countI_le (c : Int) : 0 ≤ countI c ∧ countI c ≤ 60 := by
  unfold countI
  split
  · omega
  · split
    · omega
    · omega
def spCount : Sp := fun vs H Q _ => ∃ c : Int, vs = [.int c] ∧ ∀ H', Ex H H' → Q (.int (countI c)) H'
theorem v_count {c : Int} : SpV spCount [.int c] H (.int (countI c)) := fun H1 e Q q E => ⟨c, rfl, q⟩
theorem ok_law_count_by (T : TX K mg) : FnOk P w K mg base CX0 1 T.f_law_count_by T.d_law_count_by ["_law_cell"] spCount := by
  refine T.h_law_count_by.F.ok sc_law_count_by (fun vs H Q E h => ?_) (fun cdv A outer s H vs Q E hr h => ?_)
  · obtain ⟨c, rfl, _⟩ := h
    rfl
  · obtain ⟨c, rfl, q⟩ := h
    refine ⟨_, (pss_cons (ps_if (pt_cmpR op_eq (pe_op op_mod (pv 0) pe_int) pe_int (nomark _))
    (pss_one (ps_ret (pe_op op_add pe_int (pe_op op_mod (pe_op op_fdiv (pv 0) pe_int) pe_int))))
    pss_nil)
  (pss_cons (ps_if (pt_cmpR op_eq (pe_op op_mod (pv 0) pe_int) pe_int (nomark _))
    (pss_one (ps_ret (pe_op op_add pe_int (pe_op op_mod (pe_op op_fdiv (pv 0) pe_int) pe_int))))
    pss_nil)
  (pss_one (ps_ret (pe_op op_mod (pe_op op_fdiv (pv 0) pe_int) pe_int))))), ?_⟩
    refine q_when (b := decide (V.int (c % 64) = V.int 1)) (by walk_at "evt") (fun hb H1 e1 => ?_) (fun hb H1 e1 => ?_)
    · have e0 : c % 64 = 1 := V.int.inj (of_decide_eq_true hb)
      refine s_ret (v := .int (25 + c / 64 % 36)) (by walk_at "ev") fun H2 e2 => ?_
      have := q H2 (e1.trans e2)
      unfold countI at this
      rw [if_pos e0] at this
      exact this
    · have e0 : ¬ c % 64 = 1 := fun z => of_decide_eq_false hb (by rw [z])
      refine q_when (b := decide (V.int (c % 8) = V.int 5)) (by walk_at "evt") (fun hb H2 e2 => ?_) (fun hb H2 e2 => ?_)
      · have e3 : c % 8 = 5 := V.int.inj (of_decide_eq_true hb)
        refine s_ret (v := .int (8 + c / 8 % 17)) (by walk_at "ev") fun H3 e4 => ?_
        have := q H3 ((e1.trans e2).trans e4)
        unfold countI at this
        rw [if_neg e0, if_pos e3] at this
        exact this
      · have e3 : ¬ c % 8 = 5 := fun z => of_decide_eq_false hb (by rw [z])
        refine s_ret (v := .int (c / 8 % 12)) (by walk_at "ev") fun H3 e4 => ?_
        have := q H3 ((e1.trans e2).trans e4)
        unfold countI at this
        rw [if_neg e0, if_neg e3] at this
        exact this
def wideI (c : Int) : Int := if c % 4 = 3 then 2 + c / 4 % BW else 1
theorem wideI_le (c : Int) : 1 ≤ wideI c ∧ wideI c ≤ BW + 1 := by
  unfold wideI BW
  split <;> omega
def spWide : Sp := fun vs H Q _ => ∃ c : Int, vs = [.int c] ∧ ∀ H', Ex H H' → Q (.int (wideI c)) H'
theorem v_wide {c : Int} : SpV spWide [.int c] H (.int (wideI c)) := fun H1 e Q q E => ⟨c, rfl, q⟩
theorem ok_law_wide_by (T : TX K mg) : FnOk P w K mg base CX0 1 T.f_law_wide_by T.d_law_wide_by ["_law_cell"] spWide := by
  refine T.h_law_wide_by.F.ok sc_law_wide_by (fun vs H Q E h => ?_) (fun cdv A outer s H vs Q E hr h => ?_)
  · obtain ⟨c, rfl, _⟩ := h
    rfl
  · obtain ⟨c, rfl, q⟩ := h
    refine ⟨_, (pss_cons (ps_if (pt_cmpR op_eq (pe_op op_mod (pv 0) pe_int) pe_int (nomark _))
    (pss_one (ps_ret (pe_op op_add pe_int (pe_op op_mod (pe_op op_fdiv (pv 0) pe_int) (pe_op op_pow pe_int pe_int)))))
    pss_nil)
  (pss_one (ps_ret pe_int))), ?_⟩
    refine q_when (b := decide (V.int (c % 4) = V.int 3)) (by walk_at "evt") (fun hb H1 e1 => ?_) (fun hb H1 e1 => ?_)
    · have e0 : c % 4 = 3 := V.int.inj (of_decide_eq_true hb)
      refine s_ret (v := .int (2 + c / 4 % (10 ^ (56 : Int).toNat))) (ev_op ev_c (ev_op (by walk_at "ev") (ev_op ev_c ev_c (rv_I cpow56)) (rv_I (by decide))) rv_I0) fun H2 e2 => ?_
      have := q H2 (e1.trans e2)
      unfold wideI at this
      rw [if_pos e0] at this
      exact this
    · have e0 : ¬ c % 4 = 3 := fun z => of_decide_eq_false hb (by rw [z])
      refine s_ret ev_c fun H3 e4 => ?_
      have := q H3 (e1.trans e4)
      unfold wideI at this
      rw [if_neg e0] at this
      exact this
end
end DLL
namespace DLL
open PySem PySem.Spec PyProof.Rows L2 Evl DL
section
variable {P : Program} {w : World} {K : PySem.W.Frag} {mg : Str → Option Value} {base : Heap} {H : Hp}
def jobI (come len due wide more : Int) : T3 :=
  let c := come % (20 + 3 * more)
  let d := c + 1 + due % (18 + 2 * more)
  if wide < 2 then (c, 1 + len % 6, d) else (c * wide + len / 12 % wide, (1 + len / 2 % 6) * wide - len % 2, d * wide)
theorem jobI_ok {come len due wide more : Int} (hm : 0 ≤ more ∧ more ≤ 60) (hw : 1 ≤ wide ∧ wide ≤ BW + 1) : JobOk (jobI come len due wide more) := by
  unfold jobI
  have c0 : 0 ≤ come % (20 + 3 * more) := Int.emod_nonneg _ (by omega)
  have c1 : come % (20 + 3 * more) < 20 + 3 * more := Int.emod_lt_of_pos _ (by omega)
  have d0 : 0 ≤ due % (18 + 2 * more) := Int.emod_nonneg _ (by omega)
  have d1 : due % (18 + 2 * more) < 18 + 2 * more := Int.emod_lt_of_pos _ (by omega)
  dsimp only
  generalize come % (20 + 3 * more) = c at *
  generalize due % (18 + 2 * more) = d at *
  by_cases h : wide < 2
  · rw [if_pos h]
    have hb : (1000 : Int) < BJ := by decide
    exact ⟨⟨c0, by show 1 ≤ 1 + len % 6; omega, by show c < c + 1 + d; omega⟩, by show c < BJ; omega, by show 1 + len % 6 < BJ; omega, by show c + 1 + d < BJ; omega⟩
  · rw [if_neg h]
    have w0 : 0 ≤ wide := by omega
    have e0 : 0 ≤ len / 12 % wide := Int.emod_nonneg _ (by omega)
    have e1 : len / 12 % wide < wide := Int.emod_lt_of_pos _ (by omega)
    generalize len / 12 % wide = e at *
    have p1 := mul_bound (a := c) (n := 200) c0 (by omega) w0
    have p2 := mul_bound (a := 1 + len / 2 % 6) (n := 6) (by omega) (by omega) w0
    have p2' := Int.mul_le_mul_of_nonneg_right (show 1 ≤ 1 + len / 2 % 6 by omega) w0
    have p3 := mul_bound (a := c + 1 + d) (n := 400) (by omega) (by omega) w0
    have p4 := mul_step (a := c) (b := c + 1 + d) (by omega) w0
    have hb : BW + 1 = 100000000000000000000000000000000000000000000000000000001 := by decide
    have hc : BJ = 1000000000000000000000000000000000000000000000000000000000000 := by decide
    refine ⟨⟨?_, ?_, ?_⟩, ?_, ?_, ?_⟩
    · show 0 ≤ c * wide + e; omega
    · show 1 ≤ (1 + len / 2 % 6) * wide - len % 2; omega
    · show c * wide + e < (c + 1 + d) * wide; omega
    · show c * wide + e < BJ; omega
    · show (1 + len / 2 % 6) * wide - len % 2 < BJ; omega
    · show (c + 1 + d) * wide < BJ; omega
def spJobBy : Sp := fun vs H Q _ => ∃ come len due wide more : Int, vs = [.int come, .int len, .int due, .int wide, .int more] ∧ (0 ≤ more ∧ more ≤ 60) ∧ (1 ≤ wide ∧ wide ≤ BW + 1) ∧
  ∀ p H', H p = none → Ex H H' → AtT H' p (jobI come len due wide more) → Q (.ref p) H'
theorem ok_law_job_by (T : TX K mg) : FnOk P w K mg base CX0 1 T.f_law_job_by T.d_law_job_by ["_law_come", "_law_length", "_law_due_here", "_law_wide", "_law_more"] spJobBy := by
  refine T.h_law_job_by.F.ok sc_law_job_by (fun vs H Q E h => ?_) (fun cdv A outer s H vs Q E hr h => ?_)
  · obtain ⟨_, _, _, _, _, rfl, _⟩ := h
    rfl
  · obtain ⟨come, len, due, wide, more, rfl, hm, hw, q⟩ := h
    refine ⟨_, (pss_cons (ps_set (i := 0) sc_law_job_by.nd rfl (.inl rfl) (pe_op op_mod (pv 0) (pe_op op_add pe_int (pe_op op_mul pe_int (pv 4)))))
  (pss_cons (ps_set (i := 2) sc_law_job_by.nd rfl (.inl rfl) (pe_op op_add (pe_op op_add (pv 0) pe_int) (pe_op op_mod (pv 2) (pe_op op_add pe_int (pe_op op_mul pe_int (pv 4))))))
  (pss_cons (ps_if (pt_cmpR op_lt (pv 3) pe_int (nomark _))
    (pss_one (ps_ret (pe_tup (pa_cons (pv 0) (pa_cons (pe_op op_add pe_int (pe_op op_mod (pv 1) pe_int)) (pa_cons (pv 2) pa_nil))))))
    pss_nil)
  (pss_one (ps_ret (pe_tup (pa_cons (pe_op op_add (pe_op op_mulW (pv 0) (pv 3)) (pe_op op_mod (pe_op op_fdiv (pv 1) pe_int) (pv 3))) (pa_cons (pe_op op_sub (pe_op op_mulW (pe_op op_add pe_int (pe_op op_mod (pe_op op_fdiv (pv 1) pe_int) pe_int)) (pv 3)) (pe_op op_mod (pv 1) pe_int)) (pa_cons (pe_op op_mulW (pv 2) (pv 3)) pa_nil))))))))), ?_⟩
    have c0 : 0 ≤ come % (20 + 3 * more) := Int.emod_nonneg _ (by omega)
    have c1 : come % (20 + 3 * more) < 20 + 3 * more := Int.emod_lt_of_pos _ (by omega)
    have d0 : 0 ≤ due % (18 + 2 * more) := Int.emod_nonneg _ (by omega)
    have d1 : due % (18 + 2 * more) < 18 + 2 * more := Int.emod_lt_of_pos _ (by omega)
    refine q_asg (v := .int (come % (20 + 3 * more))) (by walk_at "ev") fun H1 e1 => ?_
    refine q_asg (v := .int (come % (20 + 3 * more) + 1 + due % (18 + 2 * more))) (by walk_at "ev") fun H2 e2 => ?_
    have ej : jobI come len due wide more = if wide < 2 then (come % (20 + 3 * more), 1 + len % 6, come % (20 + 3 * more) + 1 + due % (18 + 2 * more)) else (come % (20 + 3 * more) * wide + len / 12 % wide, (1 + len / 2 % 6) * wide - len % 2, (come % (20 + 3 * more) + 1 + due % (18 + 2 * more)) * wide) := rfl
    rw [ej] at q
    generalize come % (20 + 3 * more) = c at *
    generalize due % (18 + 2 * more) = d at *
    refine q_when (b := decide (wide < 2)) (by walk_at "evt") (fun hb H3 e3 => ?_) (fun hb H3 e3 => ?_)
    · rw [if_pos (of_decide_eq_true hb)] at q
      refine s_retU (xs := tv (c, 1 + len % 6, c + 1 + d)) (eu_three (by walk_at "ev") (by walk_at "ev") (by walk_at "ev")) fun p H4 hp e4 ht => ?_
      exact q p H4 (fresh_back ((e1.trans e2).trans e3) hp) (((e1.trans e2).trans e3).trans e4) ht
    · rw [if_neg (of_decide_eq_false hb)] at q
      have hbb : BW + 1 ≤ BJ := by decide
      have hb0 : (1000 : Int) ≤ BJ := by decide
      refine s_retU (xs := tv (c * wide + len / 12 % wide, (1 + len / 2 % 6) * wide - len % 2, (c + 1 + d) * wide)) (eu_three ?_ ?_ ?_) fun p H4 hp e4 ht => ?_
      · exact ev_op (ev_op (ev_var rfl) (ev_var rfl) (rv_I (cmulW (by omega) (by omega) (by omega) (by omega)))) (ev_op (by walk_at "ev") (ev_var rfl) (rv_I (by show 0 < wide; omega))) rv_I0
      · exact ev_op (ev_op (by walk_at "ev") (ev_var rfl) (rv_I (cmulW (by omega) (by omega) (by omega) (by omega)))) (by walk_at "ev") rv_I0
      · exact ev_op (ev_var rfl) (ev_var rfl) (rv_I (cmulW (by omega) (by omega) (by omega) (by omega)))
      exact q p H4 (fresh_back ((e1.trans e2).trans e3) hp) (((e1.trans e2).trans e3).trans e4) ht
theorem v_job_by {come len due wide more : Int} (hm : 0 ≤ more ∧ more ≤ 60) (hw : 1 ≤ wide ∧ wide ≤ BW + 1) {σ : St} {ta : TA} {E : XK} (h : EvA ta σ H [.int come, .int len, .int due, .int wide, .int more]) :
    EvU (tCall spJobBy [] E ta) σ H (tv (jobI come len due wide more)) := fun H1 e Q k =>
  h H1 e _ fun H2 e2 => ⟨come, len, due, wide, more, rfl, hm, hw, fun p H3 hp e3 ht => k p H3 (fresh_back e2 hp) (e2.trans e3) ht⟩
end
end DLL
namespace DLL
open PySem PySem.Spec PyProof.Rows L2 Evl DL
def Small (k : Nat) (js : List T3) : Prop := ∀ j ∈ js, 0 ≤ j.1 ∧ j.1 < j.2.2 ∧ 1 ≤ j.2.1 ∧ j.2.1 ≤ 4 * k ∧ j.2.2 ≤ 5 * k + 2
theorem Small.mono {k m : Nat} {js : List T3} (h : Small k js) (l : k ≤ m) : Small m js := fun j hj => by
  have := h j hj
  omega
theorem Small.snoc {k : Nat} {js : List T3} {j : T3} (h : Small k js) (c : 0 ≤ j.1 ∧ j.1 < j.2.2 ∧ 1 ≤ j.2.1 ∧ j.2.1 ≤ 4 * k ∧ j.2.2 ≤ 5 * k + 2) : Small k (js ++ [j]) := fun x hx => by
  rcases List.mem_append.mp hx with e | e
  · exact h x e
  · rw [List.mem_singleton.mp e]; exact c
theorem Small.put {k n : Nat} {js : List T3} {j : T3} (h : Small k js) (c : 0 ≤ j.1 ∧ j.1 < j.2.2 ∧ 1 ≤ j.2.1 ∧ j.2.1 ≤ 4 * k ∧ j.2.2 ≤ 5 * k + 2) : Small k (js.take n ++ [j] ++ js.drop (n + 1)) := fun x hx => by
  rcases List.mem_append.mp hx with e | e
  · rcases List.mem_append.mp e with e | e
    · exact h x (List.mem_of_mem_take e)
    · rw [List.mem_singleton.mp e]; exact c
  · exact h x (List.mem_of_mem_drop e)
theorem put_len {n : Nat} {js : List T3} {j : T3} (h : n < js.length) : (js.take n ++ [j] ++ js.drop (n + 1)).length = js.length := by
  rw [List.length_append, List.length_append, List.length_take, List.length_drop, List.length_singleton]
  omega
section
variable {P : Program} {w : World} {K : PySem.W.Frag} {mg : Str → Option Value} {base : Heap} {H : Hp}
def spTight : Sp := fun vs H Q _ => ∃ cell count wide : Int, vs = [.int cell, .int count, .int wide] ∧ (0 ≤ count ∧ count ≤ 60) ∧ (1 ≤ wide ∧ wide ≤ BW + 1) ∧
  ∀ p H' js, H p = none → Ex H H' → TL H' p js → js.length ≤ 60 → (∀ j ∈ js, JobOk j) → Q (.ref p) H'
theorem toNat_at {x n : Int} (h0 : 0 ≤ x) (h : x < n) {js : List T3} (hl : (js.length : Int) = n) : x.toNat < js.length ∧ x = ((x.toNat : Nat) : Int) := by omega
theorem wide_ok {j : T3} {wide : Int} (hw : 1 ≤ wide ∧ wide ≤ BW + 1) (h : 0 ≤ j.1 ∧ j.1 < j.2.2 ∧ 1 ≤ j.2.1 ∧ j.2.1 ≤ 480 ∧ j.2.2 ≤ 602) : JobOk (j.1 * wide, j.2.1 * wide, j.2.2 * wide) := by
  have w0 : 0 ≤ wide := by omega
  have p1 := mul_bound (a := j.1) (n := 602) (w := wide) h.1 (by omega) w0
  have p2 := mul_bound (a := j.2.1) (n := 480) (w := wide) (by omega) (by omega) w0
  have p2' := Int.mul_le_mul_of_nonneg_right h.2.2.1 w0
  have p3 := mul_bound (a := j.2.2) (n := 602) (w := wide) (by omega) (by omega) w0
  have p4 := mul_step h.2.1 w0
  have hb : BW + 1 = 100000000000000000000000000000000000000000000000000000001 := by decide
  have hc : BJ = 1000000000000000000000000000000000000000000000000000000000000 := by decide
  exact ⟨⟨p1.1, by show 1 ≤ j.2.1 * wide; omega, by show j.1 * wide < j.2.2 * wide; omega⟩, by show j.1 * wide < BJ; omega, by show j.2.1 * wide < BJ; omega, by show j.2.2 * wide < BJ; omega⟩
theorem less_ok {j : T3} (h : JobOk j) : JobOk (j.1, j.2.1, max (j.1 + 1) (j.2.2 - 1)) := by
  obtain ⟨⟨h1, h2, h3⟩, h4, h5, h6⟩ := h
  exact ⟨⟨h1, h2, by show j.1 < max (j.1 + 1) (j.2.2 - 1); omega⟩, h4, h5, by show max (j.1 + 1) (j.2.2 - 1) < BJ; omega⟩
theorem ok_law_tight_by (T : TX K mg) : FnOk P w K mg base CX0 2 T.f_law_tight_by T.d_law_tight_by ["_law_cell", "_law_count", "_law_wide"] spTight := by
  refine T.h_law_tight_by.F.ok sc_law_tight_by (fun vs H Q E h => ?_) (fun cdv A outer s H vs Q E hr h => ?_)
  · obtain ⟨_, _, _, rfl, _⟩ := h
    rfl
  · obtain ⟨cell, count, wide, rfl, hc, hw, q⟩ := h
    refine ⟨_, (pss_cons (ps_set (i := 3) sc_law_tight_by.nd rfl (.inl rfl) (pe_lst pa_nil))
  (pss_cons (ps_set (i := 4) sc_law_tight_by.nd rfl (.inl rfl) pe_int)
  (pss_cons (ps_for PassesOwn.never rfl (pi_range1 (by rfl) T.b_range (pa_cons (pe_op op_mul pe_int (pv 1)) pa_nil)) (pg_name (i := 5) sc_law_tight_by.nd rfl (.inl rfl))
    (pss_cons (ps_set (i := 6) sc_law_tight_by.nd rfl (.inl rfl) (pe_call (ok_law_mixed T) (hr.mono (by decide)) (by rfl) T.h_law_mixed.g T.h_law_mixed.F.kp T.h_law_mixed.b .nil pass0 (pa_cons (pv 0) (pa_cons (pv 5) (pa_cons pe_int pa_nil)))))
  (pss_cons (ps_set (i := 7) sc_law_tight_by.nd rfl (.inl rfl) (pe_op op_add (pv 4) (pe_op op_fdiv (pe_op op_mod (pv 6) pe_int) pe_int)))
  (pss_cons (ps_set (i := 4) sc_law_tight_by.nd rfl (.inl rfl) (pe_op op_add (pe_op op_add (pv 7) pe_int) (pe_op op_mod (pe_op op_fdiv (pv 6) pe_int) pe_int)))
  (pss_one (ps_if (pt_cmpR op_lt (pv 5) (pv 1) (nomark _))
    (pss_one (ps_expr (pe_bm PySem.F.plainAttrs_list PySem.F.slot_list_append PySem.F.type_list_append mt_append (pv 3) (pa_cons (pe_tup (pa_cons (pe_callB (id := "max") (call_max2 rfl) (by rfl) T.b_max (by decide +kernel) (pa_cons pe_int (pa_cons (pe_op op_sub (pv 7) (pe_op op_mod (pe_op op_fdiv (pv 6) pe_int) pe_int)) pa_nil))) (pa_cons (pe_op op_sub (pv 4) (pv 7)) (pa_cons (pe_op op_add (pv 4) (pe_op op_mod (pe_op op_fdiv (pv 6) pe_int) pe_int)) pa_nil)))) pa_nil))))
    (pss_cons (ps_set (i := 8) sc_law_tight_by.nd rfl (.inl rfl) (pe_op op_mod (pe_op op_fdiv (pv 6) pe_int) (pv 1)))
  (pss_cons (ps_asg (pe_ix (r := rIxL K) ix_list (pv 3) (pv 8) (fun _ _ => rfl)) (pg_tup rfl (pgs_cons (pg_name (i := 9) sc_law_tight_by.nd rfl (.inl rfl)) (pgs_cons (pg_name (i := 10) sc_law_tight_by.nd rfl (.inl rfl)) (pgs_cons (pg_name (i := 11) sc_law_tight_by.nd rfl (.inl rfl)) pgs_nil)))))
  (pss_one (ps_set (i := 3) sc_law_tight_by.nd rfl (.inl rfl) (pe_op op_cat (pe_op op_cat (pe_slice (r := rSlL K) sl_list (pv 3) po_none (po_some (pv 8))) (pe_lst (pa_cons (pe_tup (pa_cons (pv 9) (pa_cons (pe_op op_sub (pe_op op_add (pv 10) (pv 4)) (pv 7)) (pa_cons (pe_callB (id := "max") (call_max2 rfl) (by rfl) T.b_max (by decide +kernel) (pa_cons (pv 11) (pa_cons (pe_op op_add (pv 4) (pe_op op_mod (pe_op op_fdiv (pv 6) pe_int) pe_int)) pa_nil))) pa_nil)))) pa_nil))) (pe_slice (r := rSlL K) sl_list (pv 3) (po_some (pe_op op_add (pv 8) pe_int)) po_none))))))))))))
  (pss_cons (ps_setLc (i := 3) (own := [("_law_come", 9), ("_law_length", 10), ("_law_due_here", 11)]) (g := (gTup K 3 (gCons (gName 9) (gCons (gName 10) (gCons (gName 11) gNil))))) (tt := tYes) rfl sc_law_tight_by.nd rfl rfl (sw_true rfl rfl rfl (by decide +kernel)) (pi_list (pv 3)) (blkOk_by (own := [("_law_come", 9), ("_law_length", 10), ("_law_due_here", 11)]) (N := N_law_tight_by) (sc := defScope s_law_tight_by) (by decide +kernel)) (fun _ _ _ _ _ => (pg_tup rfl (pgs_cons (pg_name (i := 9) sc_law_tight_by.nd rfl (.inl rfl)) (pgs_cons (pg_name (i := 10) sc_law_tight_by.nd rfl (.inl rfl)) (pgs_cons (pg_name (i := 11) sc_law_tight_by.nd rfl (.inl rfl)) pgs_nil))))) (fun _ _ _ _ _ => pts_nil) (fun _ _ _ _ _ => (pe_tup (pa_cons (pe_op op_mulW (pv 9) (pv 2)) (pa_cons (pe_op op_mulW (pv 10) (pv 2)) (pa_cons (pe_op op_mulW (pv 11) (pv 2)) pa_nil))))))
  (pss_cons (ps_if (PW.pt (pw_and (pt_cmpR op_gt (pv 1) pe_int (nomark _)) (pw_and1 (pt_cmpR op_eq (pe_op op_mod (pe_op op_fdiv (pv 0) pe_int) pe_int) pe_int (nomark _)))))
    (pss_cons (ps_set (i := 8) sc_law_tight_by.nd rfl (.inl rfl) (pe_op op_mod (pe_op op_fdiv (pv 0) pe_int) (pv 1)))
  (pss_cons (ps_asg (pe_ix (r := rIxL K) ix_list (pv 3) (pv 8) (fun _ _ => rfl)) (pg_tup rfl (pgs_cons (pg_name (i := 9) sc_law_tight_by.nd rfl (.inl rfl)) (pgs_cons (pg_name (i := 10) sc_law_tight_by.nd rfl (.inl rfl)) (pgs_cons (pg_name (i := 11) sc_law_tight_by.nd rfl (.inl rfl)) pgs_nil)))))
  (pss_one (ps_set (i := 3) sc_law_tight_by.nd rfl (.inl rfl) (pe_op op_cat (pe_op op_cat (pe_slice (r := rSlL K) sl_list (pv 3) po_none (po_some (pv 8))) (pe_lst (pa_cons (pe_tup (pa_cons (pv 9) (pa_cons (pv 10) (pa_cons (pe_callB (id := "max") (call_max2 rfl) (by rfl) T.b_max (by decide +kernel) (pa_cons (pe_op op_add (pv 9) pe_int) (pa_cons (pe_op op_sub (pv 11) pe_int) pa_nil))) pa_nil)))) pa_nil))) (pe_slice (r := rSlL K) sl_list (pv 3) (po_some (pe_op op_add (pv 8) pe_int)) po_none))))))
    pss_nil)
  (pss_one (ps_ret (pv 3)))))))), ?_⟩
    refine q_asgTL etl_nil fun l0 H1 n0 e1 h1 => ?_
    refine q_asg ev_c fun H2 e2 => ?_
    refine q_forR1 (n := 2 * count) (ea_cons (by walk_at "ev") ea_nil) (by omega) (fun i σ' H' => ∃ (l : Addr) (js : List T3) (t : Int) (x5 x6 x7 x8 x9 x10 x11 : Option V), σ' = [some (.int cell), some (.int count), some (.int wide), some (.ref l), some (.int t), x5, x6, x7, x8, x9, x10, x11] ∧
      Ex H H' ∧ H l = none ∧ TL H' l js ∧ js.length = min i count.toNat ∧ Small i js ∧ 0 ≤ t ∧ t ≤ 5 * i)
      (fun H3 e3 => ⟨l0, [], 0, none, none, none, none, none, none, none, rfl, (e1.trans e2).trans e3, n0, (h1.mono e2).mono e3, by simp, fun j hj => by simp at hj, by omega, by omega⟩) ?_ ?_
    · rintro i σ' H' hi ⟨l, js, t, x5, x6, x7, x8, x9, x10, x11, rfl, eH, nl, hT, hlen, hS, t0, t1⟩
      have hjl : js.length ≤ 60 := by omega
      -- _law_mix
      refine q_asg (ev_call (ea_cons (ev_var rfl) (ea_cons (ev_var rfl) (ea_cons ev_c ea_nil))) (v_mixed (by decide))) fun H3 e3 => ?_
      have m0 : 0 ≤ mixedI cell (i : Int) 2147483647 := Int.emod_nonneg _ (by decide)
      generalize mixedI cell (i : Int) 2147483647 = mx at *
      refine q_asg (v := .int (t + mx % 6 / 5)) (by walk_at "ev") fun H4 e4 => ?_
      refine q_asg (v := .int (t + mx % 6 / 5 + 1 + mx / 6 % 4)) (by walk_at "ev") fun H5 e5 => ?_
      have b0 : 0 ≤ mx % 6 / 5 ∧ mx % 6 / 5 ≤ 1 := by omega
      have b1 : 0 ≤ mx / 6 % 4 ∧ mx / 6 % 4 ≤ 3 := by omega
      have b2 : 0 ≤ mx / 24 % 3 ∧ mx / 24 % 3 ≤ 2 := by omega
      have b3 : 0 ≤ mx / 72 % 3 ∧ mx / 72 % 3 ≤ 2 := by omega
      have b4 : 0 ≤ mx / 72 % 2 ∧ mx / 72 % 2 ≤ 1 := by omega
      have m24 : 0 ≤ mx / 24 := by omega
      have e35 := (e3.trans e4).trans e5
      have hT5 := hT.mono e35
      refine s_if (b := decide ((i : Int) < count)) (by walk_at "evt") (fun hb H6 e6 => ?_) (fun hb H6 e6 => ?_)
      · have hik : i < count.toNat := by have := of_decide_eq_true hb; omega
        refine s_appT (hT5.mono e6) (ev_var rfl) (j := (max 0 (t + mx % 6 / 5 - mx / 24 % 3), t + mx % 6 / 5 + 1 + mx / 6 % 4 - (t + mx % 6 / 5), t + mx % 6 / 5 + 1 + mx / 6 % 4 + mx / 72 % 3)) (eu_three (ev_mx2 ev_c (by walk_at "ev") fun _ _ q => ⟨_, _, rfl, q⟩) (by walk_at "ev") (by walk_at "ev")) (by omega) fun H7 md hT7 => ?_
        refine ⟨l, _, _, _, _, _, _, _, _, _, rfl, md.base ((eH.trans e35).trans e6) nl, nl, hT7, ?_, ?_, by omega, by omega⟩
        · rw [List.length_append, List.length_singleton, hlen]; omega
        · refine (hS.mono (Nat.le_succ i)).snoc ⟨?_, ?_, ?_, ?_, ?_⟩
          all_goals (dsimp only; omega)
      · have hik : count ≤ (i : Int) := by have := of_decide_eq_false hb; omega
        have hcp : 0 < count := by omega
        have hl2 : (js.length : Int) = count := by omega
        -- _law_at
        refine q_asg (v := .int (mx / 24 % count)) (ev_op (by walk_at "ev") (ev_var rfl) (rv_I (by show 0 < count; exact hcp))) fun H7 e7 => ?_
        have a0 : 0 ≤ mx / 24 % count := Int.emod_nonneg _ (by omega)
        have a1 : mx / 24 % count < count := Int.emod_lt_of_pos _ hcp
        generalize mx / 24 % count = at_ at *
        obtain ⟨g1, g2⟩ := toNat_at a0 a1 hl2
        generalize at_.toNat = n at *
        subst g2
        have hT7 := hT5.mono (e6.trans e7)
        obtain ⟨tt, ts, k1, k2, k3⟩ := hT7.atI (List.getElem?_eq_getElem g1)
        -- _law_come, _law_length, _law_due = _law_jobs[_law_at]
        refine (ev_op (ev_var rfl) (ev_var rfl) (rv_ixL (SqL.of k1) (atI_nat k2))) H7 (Ex.refl _) _ fun H8 e8 => ?_
        refine g_three (e8 _ _ k3) ?_
        have hS7 := hS js[n] (List.getElem_mem g1)
        generalize js[n] = jn at *
        have hT8 := hT7.mono e8
        refine s_asgTL (etl_cat (etl_cat (etl_take (n := n) (ev_var rfl) (ev_var rfl) hT8) (etl_one (j := (jn.1, jn.2.1 + (t + mx % 6 / 5 + 1 + mx / 6 % 4) - (t + mx % 6 / 5), max jn.2.2 (t + mx % 6 / 5 + 1 + mx / 6 % 4 + mx / 72 % 2))) (eu_three (ev_var rfl) (by walk_at "ev") (ev_mx2 (ev_var rfl) (by walk_at "ev") fun _ _ q => ⟨_, _, rfl, q⟩))) (by simp only [List.length_take, List.length_cons, List.length_nil]; omega))
          (etl_drop (n := n + 1) (ev_var rfl) (ev_is (v := .int ((n : Int) + 1)) (by walk_at "ev") rfl) hT8) (by simp only [List.length_append, List.length_take, List.length_drop, List.length_cons, List.length_nil]; omega)) fun l9 H9 n9 e9 hT9 => ?_
        have eAll := ((((eH.trans e35).trans e6).trans e7).trans e8)
        refine ⟨l9, _, _, _, _, _, _, _, _, _, rfl, eAll.trans e9, fresh_back eAll n9, hT9, ?_, ?_, by omega, by omega⟩
        · rw [put_len g1, hlen]; omega
        · refine (hS.mono (Nat.le_succ i)).put ⟨?_, ?_, ?_, ?_, ?_⟩
          all_goals (dsimp only; omega)
    · rintro σ' H' ⟨l, js, t, x5, x6, x7, x8, x9, x10, x11, rfl, eH, nl, hT, hlen, hS, t0, t1⟩
      have hcn : (2 * count).toNat ≤ 120 := by omega
      have hjl : js.length ≤ 60 := by omega
      have hl2 : (js.length : Int) = count := by omega
      have hbw : BW + 1 ≤ BJ := by decide
      have hb0 : (1000 : Int) ≤ BJ := by decide
      have hS2 : ∀ j ∈ js, 0 ≤ j.1 ∧ j.1 < j.2.2 ∧ 1 ≤ j.2.1 ∧ j.2.1 ≤ 480 ∧ j.2.2 ≤ 602 := fun j hj => by
        have := hS j hj
        omega
      -- the times made wider
      refine q_asgTL (etl_lc (fun _ => true) (fun j => (j.1 * wide, j.2.1 * wide, j.2.2 * wide)) (fun j _ => [some (.int cell), some (.int count), some (.int wide), some (.ref l), some (.int t), x5, x6, x7, x8, some (.int j.1), some (.int j.2.1), some (.int j.2.2)])
        (ev_var rfl) hT (by omega) (fun j u H1 Q' hu hq => g_three hu hq) (fun j u => rfl) (fun j u H1 hj _ _ => fun H2 _ Q' k => k H2 (Ex.refl _)) (fun j u H1 hj _ _ _ => .inl ?_)) fun l4 H4 n4 e4 hT4 => ?_
      · have := hS2 j hj
        exact eu_three (ev_op (ev_var rfl) (ev_var rfl) (rv_I (cmulW (by omega) (by omega) (by omega) (by omega)))) (ev_op (ev_var rfl) (ev_var rfl) (rv_I (cmulW (by omega) (by omega) (by omega) (by omega)))) (ev_op (ev_var rfl) (ev_var rfl) (rv_I (cmulW (by omega) (by omega) (by omega) (by omega))))
      rw [List.filter_eq_self.mpr (fun _ _ => rfl)] at hT4
      have hJ : ∀ j ∈ js.map (fun j => (j.1 * wide, j.2.1 * wide, j.2.2 * wide)), JobOk j := fun j hj => by
        obtain ⟨i, hi, rfl⟩ := List.mem_map.mp hj
        exact wide_ok hw (hS2 i hi)
      have hl4 : (js.map (fun j => (j.1 * wide, j.2.1 * wide, j.2.2 * wide))).length = js.length := List.length_map _
      generalize js.map (fun j => (j.1 * wide, j.2.1 * wide, j.2.2 * wide)) = js4 at *
      refine q_when (b := decide (0 < count) && decide (V.int (cell / 3 % 3) = V.int 1)) (et_and (by walk_at "evt") fun _ => by walk_at "evt") (fun hb H5 e5 => ?_) (fun hb H5 e5 => ?_)
      · have hcp : 0 < count := of_decide_eq_true (Bool.and_eq_true_iff.mp hb).1
        refine q_asg (v := .int (cell / 9 % count)) (ev_op (by walk_at "ev") (ev_var rfl) (rv_I (by show 0 < count; exact hcp))) fun H6 e6 => ?_
        have a0 : 0 ≤ cell / 9 % count := Int.emod_nonneg _ (by omega)
        have a1 : cell / 9 % count < count := Int.emod_lt_of_pos _ hcp
        generalize cell / 9 % count = at_ at *
        obtain ⟨g1, g2⟩ := toNat_at a0 a1 (js := js4) (by rw [hl4]; exact hl2)
        generalize at_.toNat = n at *
        subst g2
        have hT6 := (hT4.mono e5).mono e6
        obtain ⟨tt, ts, k1, k2, k3⟩ := hT6.atI (List.getElem?_eq_getElem g1)
        refine (ev_op (ev_var rfl) (ev_var rfl) (rv_ixL (SqL.of k1) (atI_nat k2))) H6 (Ex.refl _) _ fun H8 e8 => ?_
        refine g_three (e8 _ _ k3) ?_
        have hJn := hJ js4[n] (List.getElem_mem g1)
        generalize js4[n] = jn at *
        have hT8 := hT6.mono e8
        refine s_asgTL (etl_cat (etl_cat (etl_take (n := n) (ev_var rfl) (ev_var rfl) hT8) (etl_one (j := (jn.1, jn.2.1, max (jn.1 + 1) (jn.2.2 - 1))) (eu_three (ev_var rfl) (ev_var rfl) (ev_mx2 (by walk_at "ev") (by walk_at "ev") fun _ _ q => ⟨_, _, rfl, q⟩))) (by simp only [List.length_take, List.length_cons, List.length_nil]; omega))
          (etl_drop (n := n + 1) (ev_var rfl) (ev_is (v := .int ((n : Int) + 1)) (by walk_at "ev") rfl) hT8) (by simp only [List.length_append, List.length_take, List.length_drop, List.length_cons, List.length_nil]; omega)) fun l9 H9 n9 e9 hT9 => ?_
        have eAll := ((((eH.trans e4).trans e5).trans e6).trans e8)
        refine s_ret (ev_var rfl) fun H10 e10 => ?_
        refine q l9 H10 _ (fresh_back eAll n9) ((eAll.trans e9).trans e10) (hT9.mono e10) (by rw [put_len g1]; omega) fun x hx => ?_
        rcases List.mem_append.mp hx with z | z
        · rcases List.mem_append.mp z with z | z
          · exact hJ x (List.mem_of_mem_take z)
          · rw [List.mem_singleton.mp z]; exact less_ok hJn
        · exact hJ x (List.mem_of_mem_drop z)
      · refine s_ret (ev_var rfl) fun H6 e6 => ?_
        exact q l4 H6 _ (fresh_back eH n4) (((eH.trans e4).trans e5).trans e6) ((hT4.mono e5).mono e6) (by omega) hJ
end
end DLL
namespace DLL
open PySem PySem.Spec PyProof.Rows L2 Evl DL
section
variable {P : Program} {w : World} {K : PySem.W.Frag} {mg : Str → Option Value} {base : Heap} {H : Hp}
theorem ev_cell {σ : St} {ta : TA} {E : XK} {a : Addr} {ns : List Int} {k : Nat} (h : EvA ta σ H [.ref a, .int (k : Int)]) (hS : SqL K H a (ns.map V.int)) : Ev (tCall (spCellAt K) [] E ta) σ H (.int (ns.getD k 0)) := ev_call h (v_cell_at hS)
/-- the jobs of a script: some sound ones, at most sixty -/
def spJobsBy (K : PySem.W.Frag) : Sp := fun vs H Q _ => ∃ (a : Addr) (ns : List Int) (f : Nat), vs = [.ref a, .int (f : Int)] ∧ SqL K H a (ns.map V.int) ∧ ns.length ≤ 63 ∧ f ≤ 10 ∧
  ∀ p H' js, H p = none → Ex H H' → TL H' p js → js.length ≤ 60 → (∀ j ∈ js, JobOk j) → Q (.ref p) H'
theorem ok_law_jobs_by (T : TX K mg) : FnOk P w K mg base CX0 3 T.f_law_jobs_by T.d_law_jobs_by ["_law_script", "_law_first"] (spJobsBy K) := by
  refine T.h_law_jobs_by.F.ok sc_law_jobs_by (fun vs H Q E h => ?_) (fun cdv A outer s H vs Q E hr h => ?_)
  · obtain ⟨_, _, _, rfl, _⟩ := h
    rfl
  · obtain ⟨a, ns, f, rfl, hS, hn, hf, q⟩ := h
    refine ⟨_, (pss_cons (ps_set (i := 2) sc_law_jobs_by.nd rfl (.inl rfl) (pe_call (ok_law_count_by T) (hr.mono (by decide)) (by rfl) T.h_law_count_by.g T.h_law_count_by.F.kp T.h_law_count_by.b .nil pass0 (pa_cons (pe_call (ok_law_cell_at T) (hr.mono (by decide)) (by rfl) T.h_law_cell_at.g T.h_law_cell_at.F.kp T.h_law_cell_at.b .nil pass0 (pa_cons (pv 0) (pa_cons (pv 1) pa_nil))) pa_nil)))
  (pss_cons (ps_set (i := 3) sc_law_jobs_by.nd rfl (.inl rfl) (pe_call (ok_law_wide_by T) (hr.mono (by decide)) (by rfl) T.h_law_wide_by.g T.h_law_wide_by.F.kp T.h_law_wide_by.b .nil pass0 (pa_cons (pe_call (ok_law_cell_at T) (hr.mono (by decide)) (by rfl) T.h_law_cell_at.g T.h_law_cell_at.F.kp T.h_law_cell_at.b .nil pass0 (pa_cons (pv 0) (pa_cons (pe_op op_add (pv 1) pe_int) pa_nil))) pa_nil)))
  (pss_cons (ps_set (i := 4) sc_law_jobs_by.nd rfl (.inl rfl) (pe_call (ok_law_cell_at T) (hr.mono (by decide)) (by rfl) T.h_law_cell_at.g T.h_law_cell_at.F.kp T.h_law_cell_at.b .nil pass0 (pa_cons (pv 0) (pa_cons (pe_op op_add (pv 1) pe_int) pa_nil))))
  (pss_cons (ps_if (pt_cmpR op_eq (pe_op op_mod (pv 4) pe_int) pe_int (nomark _))
    (pss_one (ps_ret (pe_call (ok_law_tight_by T) (hr.mono (by decide)) (by rfl) T.h_law_tight_by.g T.h_law_tight_by.F.kp T.h_law_tight_by.b .nil pass0 (pa_cons (pv 4) (pa_cons (pv 2) (pa_cons (pv 3) pa_nil))))))
    pss_nil)
  (pss_cons (ps_set (i := 5) sc_law_jobs_by.nd rfl (.inl rfl) (pe_lst pa_nil))
  (pss_cons (ps_for PassesOwn.never rfl (pi_range1 (by rfl) T.b_range (pa_cons (pv 2) pa_nil)) (pg_name (i := 6) sc_law_jobs_by.nd rfl (.inl rfl))
    (pss_cons (ps_set (i := 7) sc_law_jobs_by.nd rfl (.inl rfl) (pe_op op_add (pe_op op_add (pv 1) pe_int) (pe_op op_mul pe_int (pv 6))))
  (pss_one (ps_if (PW.pt (pw_and (pt_cmpR op_lt (pv 2) pe_int (nomark _)) (pw_and1 (pt_cmpR op_lt (pe_op op_add (pv 7) pe_int) (pe_callB (id := "len") (r := Evl.rLenS K) call_len_seq (by rfl) T.b_len PySem.boot_len (pa_cons (pv 0) pa_nil)) (nomark _)))))
    (pss_one (ps_expr (pe_bm PySem.F.plainAttrs_list PySem.F.slot_list_append PySem.F.type_list_append mt_append (pv 5) (pa_cons (pe_call (ok_law_job_by T) (hr.mono (by decide)) (by rfl) T.h_law_job_by.g T.h_law_job_by.F.kp T.h_law_job_by.b .nil pass0 (pa_cons (pe_ix (r := rIxL K) ix_list (pv 0) (pv 7) (fun _ _ => rfl)) (pa_cons (pe_ix (r := rIxL K) ix_list (pv 0) (pe_op op_add (pv 7) pe_int) (fun _ _ => rfl)) (pa_cons (pe_ix (r := rIxL K) ix_list (pv 0) (pe_op op_add (pv 7) pe_int) (fun _ _ => rfl)) (pa_cons (pv 3) (pa_cons pe_int pa_nil)))))) pa_nil))))
    (pss_cons (ps_set (i := 8) sc_law_jobs_by.nd rfl (.inl rfl) (pe_call (ok_law_mixed T) (hr.mono (by decide)) (by rfl) T.h_law_mixed.g T.h_law_mixed.F.kp T.h_law_mixed.b .nil pass0 (pa_cons (pv 4) (pa_cons (pv 6) (pa_cons pe_int pa_nil)))))
  (pss_one (ps_expr (pe_bm PySem.F.plainAttrs_list PySem.F.slot_list_append PySem.F.type_list_append mt_append (pv 5) (pa_cons (pe_call (ok_law_job_by T) (hr.mono (by decide)) (by rfl) T.h_law_job_by.g T.h_law_job_by.F.kp T.h_law_job_by.b .nil pass0 (pa_cons (pv 8) (pa_cons (pe_call (ok_law_mixed T) (hr.mono (by decide)) (by rfl) T.h_law_mixed.g T.h_law_mixed.F.kp T.h_law_mixed.b .nil pass0 (pa_cons (pv 4) (pa_cons (pv 6) (pa_cons pe_int pa_nil)))) (pa_cons (pe_call (ok_law_mixed T) (hr.mono (by decide)) (by rfl) T.h_law_mixed.g T.h_law_mixed.F.kp T.h_law_mixed.b .nil pass0 (pa_cons (pv 4) (pa_cons (pv 6) (pa_cons pe_int pa_nil)))) (pa_cons (pv 3) (pa_cons (pv 2) pa_nil)))))) pa_nil)))))))))
  (pss_one (ps_ret (pv 5))))))))), ?_⟩
    refine q_asg (ev_call (ea_cons (ev_cell (ea_cons (ev_var rfl) (ea_cons (ev_var rfl) ea_nil)) hS) ea_nil) v_count) fun H1 e1 => ?_
    have hc := countI_le (ns.getD f 0)
    generalize countI (ns.getD f 0) = count at *
    refine q_asg (ev_call (ea_cons (ev_cell (k := f + 1) (ea_cons (ev_var rfl) (ea_cons (ev_is (v := .int ((f : Int) + 1)) (by walk_at "ev") rfl) ea_nil)) (ex_l e1 hS)) ea_nil) v_wide) fun H2 e2 => ?_
    have hw := wideI_le (ns.getD (f + 1) 0)
    generalize wideI (ns.getD (f + 1) 0) = wide at *
    refine q_asg (ev_cell (k := f + 2) (ea_cons (ev_var rfl) (ea_cons (ev_is (v := .int ((f : Int) + 2)) (by walk_at "ev") rfl) ea_nil)) (ex_l (e1.trans e2) hS)) fun H3 e3 => ?_
    generalize ns.getD (f + 2) 0 = cell at *
    refine q_when (b := decide (V.int (cell % 3) = V.int 1)) (by walk_at "evt") (fun hb H4 e4 => ?_) (fun hb H4 e4 => ?_)
    · refine s_retC (ea_cons (ev_var rfl) (ea_cons (ev_var rfl) (ea_cons (ev_var rfl) ea_nil))) fun H5 e5 => ?_
      have eA := (((e1.trans e2).trans e3).trans e4).trans e5
      exact ⟨cell, count, wide, rfl, hc, hw, fun p H' js hp e hT hl hJ => q p H' js (fresh_back eA hp) (eA.trans e) hT hl hJ⟩
    · refine q_asgTL etl_nil fun l0 H5 n5 e5 h5 => ?_
      have eA := (((e1.trans e2).trans e3).trans e4)
      refine q_forR1 (n := count) (ea_cons (ev_var rfl) ea_nil) (by omega) (fun i σ' H' => ∃ (js : List T3) (x6 x7 x8 : Option V), σ' = [some (.ref a), some (.int (f : Int)), some (.int count), some (.int wide), some (.int cell), some (.ref l0), x6, x7, x8] ∧
        Ex H H' ∧ TL H' l0 js ∧ js.length = i ∧ ∀ j ∈ js, JobOk j) (fun H6 e6 => ⟨[], none, none, none, rfl, (eA.trans e5).trans e6, h5.mono e6, rfl, fun j hj => by simp at hj⟩) ?_ ?_
      · rintro i σ' H' hi ⟨js, x6, x7, x8, rfl, eH, hT, hl, hJ⟩
        have hS' := ex_l eH hS
        refine q_asg (v := .int (((f + 3 + 3 * i : Nat)) : Int)) (ev_is (v := .int ((f : Int) + 3 + 3 * (i : Int))) (by walk_at "ev") (by congr 1)) fun H6 e6 => ?_
        have n0 : H l0 = none := fresh_back eA n5
        have hS6 := ex_l e6 hS'
        refine s_if (b := decide (count < 12) && decide (((f + 3 + 3 * i : Nat) : Int) + 2 < ((ns.map V.int).length : Int))) (et_and (by walk_at "evt") fun _ => et_test (ev_op (by walk_at "ev") (ev_len (ev_var rfl) hS6) rv_I0)) (fun hb H7 e7 => ?_) (fun hb H7 e7 => ?_)
        · have hk : f + 3 + 3 * i + 2 < ns.length := by
            have := of_decide_eq_true (Bool.and_eq_true_iff.mp hb).2
            rw [List.length_map] at this
            omega
          have hS7 := ex_l e7 hS6
          refine s_appT ((hT.mono e6).mono e7) (ev_var rfl) (v_job_by (by omega) hw (ea_cons (ev_op (ev_var rfl) (ev_var rfl) (rv_ixL hS7 (atI_nat (ints_at (by omega))))) (ea_cons (ev_op (ev_var rfl) (ev_is (v := .int (((f + 3 + 3 * i : Nat) : Int) + 1)) (by walk_at "ev") rfl) (rv_ixL hS7 (atI_nat (j := f + 3 + 3 * i + 1) (ints_at (by omega)))))
            (ea_cons (ev_op (ev_var rfl) (ev_is (v := .int (((f + 3 + 3 * i : Nat) : Int) + 2)) (by walk_at "ev") rfl) (rv_ixL hS7 (atI_nat (j := f + 3 + 3 * i + 2) (ints_at (by omega))))) (ea_cons (ev_var rfl) (ea_cons ev_c ea_nil)))))) (by omega) fun H8 md hT8 => ?_
          refine ⟨_, _, _, _, rfl, md.base ((eH.trans e6).trans e7) n0, hT8, by rw [List.length_append, List.length_singleton, hl], fun j hj => ?_⟩
          rcases List.mem_append.mp hj with z | z
          · exact hJ j z
          · rw [List.mem_singleton.mp z]; exact jobI_ok (by omega) hw
        · refine q_asg (ev_call (ea_cons (ev_var rfl) (ea_cons (ev_var rfl) (ea_cons ev_c ea_nil))) (v_mixed (by decide))) fun H8 e8 => ?_
          refine s_appT (((hT.mono e6).mono e7).mono e8) (ev_var rfl) (v_job_by (more := count) hc hw (ea_cons (ev_var rfl) (ea_cons (ev_call (ea_cons (ev_var rfl) (ea_cons (ev_var rfl) (ea_cons ev_c ea_nil))) (v_mixed (by decide)))
            (ea_cons (ev_call (ea_cons (ev_var rfl) (ea_cons (ev_var rfl) (ea_cons ev_c ea_nil))) (v_mixed (by decide))) (ea_cons (ev_var rfl) (ea_cons (ev_var rfl) ea_nil)))))) (by omega) fun H9 md hT9 => ?_
          refine ⟨_, _, _, _, rfl, md.base (((eH.trans e6).trans e7).trans e8) n0, hT9, by rw [List.length_append, List.length_singleton, hl], fun j hj => ?_⟩
          rcases List.mem_append.mp hj with z | z
          · exact hJ j z
          · rw [List.mem_singleton.mp z]; exact jobI_ok hc hw
      · rintro σ' H' ⟨js, x6, x7, x8, rfl, eH, hT, hl, hJ⟩
        refine s_ret (ev_var rfl) fun H6 e6 => ?_
        exact q l0 H6 js (fresh_back eA n5) (eH.trans e6) (hT.mono e6) (by omega) hJ
end
end DLL
namespace DLL
open PySem PySem.Spec PyProof.Rows L2 Evl DL
section
variable {P : Program} {w : World} {K : PySem.W.Frag} {mg : Str → Option Value} {base : Heap} {H : Hp}
/-! ### sound, check_jobs -/
def soundB (j : T3) : Bool := decide (0 ≤ j.1) && (decide (1 ≤ j.2.1) && decide (j.1 < j.2.2))
theorem soundB_iff {j : T3} : soundB j = true ↔ SoundJ j := by
  unfold soundB SoundJ
  simp
def spSound : Sp := fun vs H Q _ => ∃ (t : Addr) (j : T3), vs = [.ref t] ∧ AtT H t j ∧ ∀ H', Ex H H' → Q (.bl (soundB j)) H'
theorem ok_sound (T : TX K mg) : FnOk P w K mg base CX0 1 T.f_sound T.d_sound ["job"] spSound := by
  refine T.h_sound.F.ok sc_sound (fun vs H Q E h => ?_) (fun cdv A outer s H vs Q E hr h => ?_)
  · obtain ⟨_, _, rfl, _⟩ := h
    rfl
  · obtain ⟨t, j, rfl, ht, q⟩ := h
    refine ⟨_, (pss_cons (ps_if (PW.pt (pw_or (pt_cmpR op_neTy (pe_callTy (T := "type") (r := rTyp K) call_type1 (by rfl) T.b_type (by decide +kernel) (pa_cons (pv 0) pa_nil)) (pe_bltn (v := .ty "tuple") (by rfl) T.b_tuple (by decide +kernel) rfl) (nomark _)) (pw_or1 (pt_cmpR op_ne (pe_callB (id := "len") (r := Evl.rLenS K) call_len_seq (by rfl) T.b_len PySem.boot_len (pa_cons (pv 0) pa_nil)) pe_int (nomark _)))))
    (pss_one (ps_ret pe_bl))
    pss_nil)
  (pss_cons (ps_if (pt_not (pt_val (pe_callB (id := "all") (r := rAll K) (cr_all rfl) (by rfl) T.b_all (by decide +kernel) (pa_cons (pe_lc (own := [("number", 4)]) (g := (gName 4)) (tt := tYes) rfl sc_sound.nd (pi_tup (pv 0)) (blkOk_by (own := [("number", 4)]) (N := N_sound) (sc := defScope s_sound) (by decide +kernel)) (fun _ _ _ _ _ => (pg_name (i := 4) sc_sound.nd rfl (.inl rfl))) (fun _ _ _ _ _ => pts_nil) (fun _ _ _ _ _ => (pe_cmpR op_eqTy (pe_callTy (T := "type") (r := rTyp K) call_type1 (by rfl) T.b_type (by decide +kernel) (pa_cons (pv 4) pa_nil)) (pe_bltn (v := .ty "int") (by rfl) T.b_int (by decide +kernel) rfl) (nomark _)))) pa_nil))))
    (pss_one (ps_ret pe_bl))
    pss_nil)
  (pss_cons (ps_asg (pv 0) (pg_tup rfl (pgs_cons (pg_name (i := 1) sc_sound.nd rfl (.inl rfl)) (pgs_cons (pg_name (i := 2) sc_sound.nd rfl (.inl rfl)) (pgs_cons (pg_name (i := 3) sc_sound.nd rfl (.inl rfl)) pgs_nil)))))
  (pss_one (ps_ret (pe_and (pe_cmpR op_ge (pv 1) pe_int (nomark _)) (pe_and (pe_cmpR op_ge (pv 2) pe_int (nomark _)) (pe_one (pe_cmpR op_gt (pv 3) (pv 1) (nomark _)))))))))), ?_⟩
    refine q_when (b := (!decide (("tuple" : String) = "tuple")) || (!decide (V.int (((tv j).length : Nat) : Int) = V.int 3))) (et_or (et_test (ev_op (ev_type (ev_var rfl) fun H1 e1 => .tup (ex_t e1 (SqT.of ht))) ev_c (rv_neTy st_tup st_tup))) fun _ => et_test (ev_op (ev_lenU (ev_var rfl) ht) ev_c (rv_ne rfl))) (fun hb H1 e1 => ?_) (fun hb H1 e1 => ?_)
    · exact absurd (show ((!decide (("tuple" : String) = "tuple")) || (!decide (V.int (((tv j).length : Nat) : Int) = V.int 3))) = false from rfl) (by rw [hb]; decide)
    · refine q_when (b := !([true, true, true].all id)) (et_not (et_B (ev_allN (bs := [true, true, true]) (el_lcU (xs := tv j) (fun _ => .bl true) (ev_var rfl) (ex_t e1 (SqT.of ht)) (show 3 ≤ 40000 by decide) (fun _ => rfl) fun x H2 hx e2 => ?_)))) (fun hb H2 e2 => absurd hb (by decide)) (fun hb H2 e2 => ?_)
      · obtain ⟨n, rfl⟩ : ∃ n, x = V.int n := by
          unfold tv at hx
          simp only [List.mem_cons, List.not_mem_nil, or_false] at hx
          rcases hx with e | e | e <;> exact ⟨_, e⟩
        exact ev_op (ev_type (ev_var rfl) fun H3 _ => .int n) ev_c (rv_eqTy st_int st_int)
      · refine q_asgG (ev_var rfl) fun H3 e3 => ?_
        refine g_three (((e1.trans e2).trans e3) _ _ ht) ?_
        exact s_ret (v := .bl (soundB j)) (ev_andV (by walk_at "ev") fun _ => ev_andV (by walk_at "ev") fun _ => by walk_at "ev") fun H4 e4 => q H4 (((e1.trans e2).trans e3).trans e4)
theorem ev_sound {σ : St} {ta : TA} {E : XK} {t : Addr} {j : T3} (h : EvA ta σ H [.ref t]) (ht : AtT H t j) : Ev (tCall spSound [] E ta) σ H (.bl (soundB j)) := ev_call h fun H1 e Q q E => ⟨t, j, rfl, e _ _ ht, q⟩
/-- at most sixty sound jobs: nothing is refused -/
def spCheck : Sp := fun vs H Q _ => ∃ (p : Addr) (js : List T3), vs = [.ref p] ∧ TL H p js ∧ js.length ≤ 60 ∧ Sound js ∧ ∀ H', Ex H H' → Q .non H'
theorem ok_check_jobs (T : TX K mg) : FnOk P w K mg base CX0 2 T.f_check_jobs T.d_check_jobs ["jobs"] spCheck := by
  refine T.h_check_jobs.F.ok sc_check_jobs (fun vs H Q E h => ?_) (fun cdv A outer s H vs Q E hr h => ?_)
  · obtain ⟨_, _, rfl, _⟩ := h
    rfl
  · obtain ⟨p, js, rfl, hT, hl, hS, q⟩ := h
    refine ⟨_, (pss_cons (ps_if (pt_cmpR op_gt (pe_callB (id := "len") (r := Evl.rLenS K) call_len_seq (by rfl) T.b_len PySem.boot_len (pa_cons (pv 0) pa_nil)) (pe_glob (v := .int 60) (by rfl) T.c_LIMIT ⟨_, rfl⟩) (nomark _))
    (pss_one ps_never)
    pss_nil)
  (pss_one (ps_for PassesOwn.never rfl (pi_enum (by rfl) T.b_enumerate (pa_cons (pv 0) pa_nil)) (pg_tup rfl (pgs_cons (pg_name (i := 1) sc_check_jobs.nd rfl (.inl rfl)) (pgs_cons (pg_name (i := 2) sc_check_jobs.nd rfl (.inl rfl)) pgs_nil)))
    (pss_one (ps_if (pt_not (pt_val (pe_call (ok_sound T) (hr.mono (by decide)) (by rfl) T.h_sound.g T.h_sound.F.kp T.h_sound.b .nil pass0 (pa_cons (pv 2) pa_nil))))
    (pss_one ps_never)
    pss_nil))))), ?_⟩
    refine q_when (b := decide ((60 : Int) < (js.length : Int))) (et_test (ev_op (ev_lenT (ev_var rfl) hT) ev_c rv_I0)) (fun hb H1 e1 => ?_) (fun hb H1 e1 => ?_)
    · have := of_decide_eq_true hb
      omega
    · obtain ⟨ts, h1, h2⟩ := hT.mono e1
      refine s_forEn (ev_var rfl) (SqL.of h1) (fun i σ' H' => ∃ x1 x2 : Option V, σ' = [some (.ref p), x1, x2] ∧ Ex H1 H') (fun H2 e2 => ⟨none, none, rfl, e2⟩) (fun i σ' H' _ ⟨_, _, _, e⟩ => SqL.of (e _ _ h1)) ?_ ?_
      · rintro i x TT σ' H' hi nT ⟨x1, x2, rfl, e2⟩
        rw [List.getElem?_map] at hi
        obtain ⟨t, et, rfl⟩ := Option.map_eq_some_iff.mp hi
        obtain ⟨j, hj, a⟩ := h2.getA et
        have e3 : Ex H' (upd H' TT (.tup [.int (i : Int), .ref t])) := Ex.new nT
        refine g_two upd_same ?_
        have hs : soundB j = true := soundB_iff.mpr (hS j (List.mem_of_getElem? hj))
        refine s_when (b := !soundB j) (et_not (et_B (ev_sound (ea_cons (ev_var rfl) ea_nil) (e3 _ _ (e2 _ _ a))))) (fun hb H4 e4 => ?_) (fun hb H4 e4 => ⟨_, _, rfl, (e2.trans e3).trans e4⟩)
        rw [hs] at hb
        cases hb
      · rintro σ' H' ⟨x1, x2, rfl, e2⟩
        exact q _ (e1.trans e2)
theorem ev_check {σ : St} {ta : TA} {E : XK} {p : Addr} {js : List T3} (h : EvA ta σ H [.ref p]) (hT : TL H p js) (hl : js.length ≤ 60) (hS : Sound js) : Ev (tCall spCheck [] E ta) σ H .non := ev_call h fun H1 e Q q E => ⟨p, js, rfl, hT.mono e, hl, hS, q⟩
end
end DLL
namespace DLL
open PySem PySem.Spec PyProof.Rows L2 Evl DL
section
variable {P : Program} {w : World} {K : PySem.W.Frag} {mg : Str → Option Value} {base : Heap} {H : Hp}
end
def spLaw (K : PySem.W.Frag) : Sp := fun vs H Q _ => ∃ (a : Addr) (ns : List Int), vs = [.ref a] ∧ SqL K H a (ns.map V.int) ∧ ns.length ≤ 63 ∧ ∀ H', Q (.bl true) H'
theorem all_zero {l : List Int} {n : Nat} (hl : l.length = n) (h : ∀ i, l.getD i 0 = 0) : l = List.replicate n 0 := by
  refine List.eq_replicate_iff.mpr ⟨hl, fun x hx => ?_⟩
  obtain ⟨i, hi, e⟩ := List.getElem_of_mem hx
  have := h i
  rw [getD_lt hi, e] at this
  exact this
theorem soundOf {js : List T3} (h : ∀ j ∈ js, JobOk j) : Sound js := fun j hj => (h j hj).s
theorem left_step {js ps : List T3} {i : Nat} {q : T3} (h : ps[i]? = some q) : leftAfter js (ps.take (i + 1)) = takeOff (leftAfter js (ps.take i)) q := by
  rw [List.take_add_one, h]
  exact leftAfter_snoc js (ps.take i) q
theorem time_step {ps : List T3} {i : Nat} {q : T3} (h : ps[i]? = some q) : timeAfter (ps.take (i + 1)) = q.2.2 := by
  rw [List.take_add_one, h]
  exact timeAfter_snoc (ps.take i) q
end DLL
namespace DLL
open PySem PySem.Spec PyProof.Rows L2 Evl DL
section
variable {P : Program} {w : World} {K : PySem.W.Frag} {mg : Str → Option Value} {base : Heap} {H : Hp}
/-! ### the jobs as a text -/
theorem small_of {j : T3} (h : JobOk j) : Small3 j := ⟨h.s.1, h.c, (by have := h.s.2.1; omega), h.l, (by have := h.s.1; have := h.s.2.2; omega), h.d⟩
def spWritten : Sp := fun vs H Q _ => ∃ (p : Addr) (js : List T3), vs = [.ref p] ∧ TL H p js ∧ js.length ≤ 60 ∧ (∀ j ∈ js, JobOk j) ∧ ∀ H', Ex H H' → Q (.str (S (textL js))) H'
theorem ok_written (T : TX K mg) : FnOk P w K mg base CX0 3 T.f_written T.d_written ["jobs"] spWritten := by
  refine T.h_written.F.ok sc_written (fun vs H Q E h => ?_) (fun cdv A outer s H vs Q E hr h => ?_)
  · obtain ⟨_, _, rfl, _⟩ := h
    rfl
  · obtain ⟨p, js, rfl, hT, hl, hJ, q⟩ := h
    refine ⟨_, (pss_cons (ps_expr (pe_call (ok_check_jobs T) (hr.mono (by decide)) (by rfl) T.h_check_jobs.g T.h_check_jobs.F.kp T.h_check_jobs.b .nil pass0 (pa_cons (pv 0) pa_nil)))
  (pss_one (ps_ret (pe_join pe_str (pe_lc (own := [("come", 1), ("length", 2), ("due", 3)]) (g := (gTup K 3 (gCons (gName 1) (gCons (gName 2) (gCons (gName 3) gNil))))) (tt := tYes) rfl sc_written.nd (pi_list (pv 0)) (blkOk_by (own := [("come", 1), ("length", 2), ("due", 3)]) (N := N_written) (sc := defScope s_written) (by decide +kernel)) (fun _ _ _ _ _ => (pg_tup rfl (pgs_cons (pg_name (i := 1) sc_written.nd rfl (.inl rfl)) (pgs_cons (pg_name (i := 2) sc_written.nd rfl (.inl rfl)) (pgs_cons (pg_name (i := 3) sc_written.nd rfl (.inl rfl)) pgs_nil))))) (fun _ _ _ _ _ => pts_nil) (fun _ _ _ _ _ => (pe_joined (.cons (pe_fmt (pv 1)) (.cons pe_str (.cons (pe_fmt (pv 2)) (.cons pe_str (.cons (pe_fmt (pv 3)) (.cons pe_str .nil))))))))))))), ?_⟩
    refine q_drop (ev_check (ea_cons (ev_var rfl) ea_nil) hT hl (fun j hj => (hJ j hj).s)) fun H1 e1 => ?_
    have hsm : ∀ j ∈ js, Small3 j := fun j hj => small_of (hJ j hj)
    have hz := textL_len hsm
    have hlc := el_lcTL (K := K) (σ := [some (.ref p), none, none, none]) (H := H1) (g := gTup K 3 (gCons (gName 1) (gCons (gName 2) (gCons (gName 3) gNil)))) (t' := tYes)
      (te := fun σ H Q => tJs [tFmt (tVar 1), tC (.str " "), tFmt (tVar 2), tC (.str " "), tFmt (tVar 3), tC (.str "\n")] Str.empty σ H fun out H1 => Q (.str out) H1) (tl := tVar 0) (vs := [1, 2, 3])
      (fun _ => true) (fun j => .str (S (rowL j))) (fun j _ => [some (.ref p), some (.int j.1), some (.int j.2.1), some (.int j.2.2)]) (ev_var rfl) (hT.mono e1) (by omega) (fun j u H1 Q' hu hq => g_three hu hq) (fun j u => rfl) (fun j u H1 _ _ _ => evt_yes)
      (fun j u H1 hj _ _ _ => ev_rowS (hsm j hj) (ev_var rfl) (ev_var rfl) (ev_var rfl))
    rw [filter_yes] at hlc
    refine s_ret (v := .str (S (textL js))) ?_ fun H2 e2 => q H2 (e1.trans e2)
    refine ev_is (v := .str (Txt.join Str.empty ((js.map rowL).map S))) (ev_joinN (K := K) ev_c (ys := (js.map rowL).map S) ?_ ?_) (congrArg V.str (join_text js))
    · rw [List.map_map, List.map_map]
      exact hlc
    · rw [sum_lens]
      show _ + _ * 0 ≤ _
      omega
theorem ev_written {σ : St} {ta : TA} {E : XK} {p : Addr} {js : List T3} (h : EvA ta σ H [.ref p]) (hT : TL H p js) (hl : js.length ≤ 60) (hJ : ∀ j ∈ js, JobOk j) : Ev (tCall spWritten [] E ta) σ H (.str (S (textL js))) :=
  ev_call h fun H1 e Q q E => ⟨p, js, rfl, hT.mono e, hl, hJ, q⟩
end
end DLL
namespace DLL
open PySem PySem.Spec PyProof.Rows L2 Evl DL
theorem eqS (a b : List Nat) : decide (V.str (S a) = V.str (S b)) = decide (a = b) := decide_eq_decide.mpr ⟨fun e => SX.S_inj (V.str.inj e), fun e => by rw [e]⟩
theorem headS (c : Nat) (r : List Nat) : decide ((c :: r).head? = some 48) = decide ([c] = [48]) := decide_eq_decide.mpr ⟨fun e => by cases e; rfl, fun e => by cases e; rfl⟩
def gV : V → V
  | .str s => .bl (goodW s.cps.toList)
  | _ => .non
theorem gV_map (ws : List (List Nat)) : (ws.map sV).map gV = (ws.map goodW).map V.bl := by
  rw [List.map_map, List.map_map]
  rfl
def nV : V → V
  | .str s => .int (valW s.cps.toList)
  | _ => .non
section
variable {P : Program} {w : World} {K : PySem.W.Frag} {mg : Str → Option Value} {base : Heap} {H : Hp}
/-! ### a word that is a number -/
def spIsNum : Sp := fun vs H Q _ => ∃ u : List Nat, vs = [sV u] ∧ u.length ≤ 30000 ∧ ∀ H', Ex H H' → Q (.bl (goodW u)) H'
theorem ok_is_number (T : TX K mg) : FnOk P w K mg base CX0 1 T.f_is_number T.d_is_number ["word"] spIsNum := by
  refine T.h_is_number.F.ok sc_is_number (fun vs H Q E h => ?_) (fun cdv A outer s H vs Q E hr h => ?_)
  · obtain ⟨_, rfl, _⟩ := h
    rfl
  · obtain ⟨u, rfl, hl, q⟩ := h
    refine ⟨_, (pss_cons (ps_if (pt_not (pt_chain op_le op_le pe_int (pe_callB (id := "len") call_len_str (by rfl) T.b_len PySem.boot_len (pa_cons (pv 0) pa_nil)) (pe_glob (v := .int 60) (by rfl) T.c_MOST_FIGURES ⟨_, rfl⟩)))
    (pss_one (ps_ret pe_bl))
    pss_nil)
  (pss_cons (ps_if (PW.pt (pw_and (pt_cmpR op_eq (pe_ix (r := rIxS) ix_str (pv 0) pe_int (fun _ _ => rfl)) pe_str (nomark _)) (pw_and1 (pt_cmpR op_ne (pv 0) pe_str (nomark _)))))
    (pss_one (ps_ret pe_bl))
    pss_nil)
  (pss_one (ps_ret (pe_callB (id := "all") (r := rAll K) (cr_all rfl) (by rfl) T.b_all (by decide +kernel) (pa_cons (pe_lc (own := [("sign", 1)]) (g := (gName 1)) (tt := tYes) rfl sc_is_number.nd (pi_str (pv 0)) (blkOk_by (own := [("sign", 1)]) (N := N_is_number) (sc := defScope s_is_number) (by decide +kernel)) (fun _ _ _ _ _ => (pg_name (i := 1) sc_is_number.nd rfl (.inl rfl))) (fun _ _ _ _ _ => pts_nil) (fun _ _ _ _ _ => (pe_cmpR op_in_sign (pv 1) (pe_glob (v := .str "0123456789") (by rfl) T.c_FIGURES ⟨_, rfl⟩) (by rfl)))) pa_nil)))))), ?_⟩
    have hlen : (S u).length = u.length := SX.S_len u
    refine q_when (b := !(decide ((1 : Int) ≤ ((S u).length : Int)) && decide (((S u).length : Int) ≤ 60))) (et_not (et_test (ev_chain ev_c (ev_c1 (ev_var rfl) fun H1 Q k => ⟨S u, rfl, sz_of (by omega), k⟩) rv_I0 (fun _ => ev_c) fun _ => rv_I0))) (fun hb H1 e1 => ?_) (fun hb H1 e1 => ?_)
    · have hg : goodW u = false := by
        unfold goodW
        rw [hlen] at hb
        have : (decide (1 ≤ u.length) && decide (u.length ≤ 60)) = false := by
          rw [show decide (1 ≤ u.length) = decide ((1 : Int) ≤ (u.length : Int)) from decide_eq_decide.mpr (by omega), show decide (u.length ≤ 60) = decide ((u.length : Int) ≤ 60) from decide_eq_decide.mpr (by omega)]
          rw [Bool.not_eq_true'] at hb
          exact hb
        rw [this]
        rfl
      rw [hg] at q
      exact s_ret ev_c fun H2 e2 => q H2 (e1.trans e2)
    · have hb2 : (decide (1 ≤ u.length) && decide (u.length ≤ 60)) = true := by
        rw [hlen] at hb
        rw [show decide (1 ≤ u.length) = decide ((1 : Int) ≤ (u.length : Int)) from decide_eq_decide.mpr (by omega), show decide (u.length ≤ 60) = decide ((u.length : Int) ≤ 60) from decide_eq_decide.mpr (by omega)]
        simpa using hb
      unfold goodW at q
      rw [hb2, Bool.true_and] at q
      cases u with
      | nil => exact absurd hb2 (by decide)
      | cons c r =>
        rw [headS] at q
        refine q_when (b := decide (sV [c] = sV [48]) && !decide (sV (c :: r) = sV [48])) (et_and (et_test (ev_op (ev_op (ev_var rfl) ev_c (rv_ixS (by omega) (atI_nat (j := 0) rfl))) ev_c (rv_eq rfl))) fun _ => et_test (ev_op (ev_var rfl) ev_c (rv_ne rfl))) (fun hb H2 e2 => ?_) (fun hb H2 e2 => ?_)
        · rw [eqS, eqS] at hb
          rw [hb] at q
          exact s_ret ev_c fun H3 e3 => q H3 ((e1.trans e2).trans e3)
        · rw [eqS, eqS] at hb
          rw [hb] at q
          have q : ∀ H', Ex H H' → Q (.bl ((c :: r).all digB)) H' := q
          refine s_ret (v := .bl (((c :: r).map digB).all id)) (ev_allN ?_) fun H3 e3 => ?_
          · rw [List.map_map]
            refine el_lcS (fun c => .bl (digB c)) (ev_var rfl) (by omega) (fun _ => rfl) fun d H4 _ _ => ?_
            refine ev_is (v := .bl (decide (d ∈ FIG.cps.toList))) (ev_op (ev_var rfl) ev_c fun H5 _ Q k => ⟨d, FIG, rfl, rfl, k H5 (Ex.refl H5)⟩) (by rw [fig_in])
          · rw [List.all_map]
            exact q H3 ((e1.trans e2).trans e3)
theorem ev_isnum {σ : St} {ta : TA} {E : XK} {u : List Nat} (h : EvA ta σ H [sV u]) (hl : u.length ≤ 30000) : Ev (tCall spIsNum [] E ta) σ H (.bl (goodW u)) := ev_call h fun H1 e Q q E => ⟨u, rfl, hl, q⟩
/-! ### a row that is a job -/
def spJobX (T : TX K mg) : Sp := fun vs H Q E => ∃ r : List Nat, vs = [sV r] ∧ r.length ≤ 30000 ∧ (jobW r = none → ∀ H', Ex H H' → E (.ref T.c_NoRow) none H') ∧ (∀ j, jobW r = some j → ∀ t H', H t = none → Ex H H' → AtT H' t j → Q (.ref t) H')
theorem okx_job_of_row (T : TX K mg) : FnOk P w K mg base (L2.CX P w) 2 T.f_job_of_row T.d_job_of_row ["row"] (spJobX T) := by
  refine T.h_job_of_row.F.okX sc_job_of_row (fun vs H Q E h => ?_) (fun cdv A outer s H vs Q E hr h => ?_)
  · obtain ⟨_, rfl, _⟩ := h
    rfl
  · obtain ⟨r, rfl, hl, q1, q2⟩ := h
    refine ⟨_, (pss_cons (ps_set (i := 1) sc_job_of_row.nd rfl (.inl rfl) (pe_split (pv 0) pe_str))
  (pss_cons (ps_if (PW.pt (pw_or (pt_cmpR op_ne (pe_callB (id := "len") (r := Evl.rLenS K) call_len_seq (by rfl) T.b_len PySem.boot_len (pa_cons (pv 1) pa_nil)) pe_int (nomark _)) (pw_or1 (pt_not (pt_val (pe_callB (id := "all") (r := rAll K) (cr_all rfl) (by rfl) T.b_all (by decide +kernel) (pa_cons (pe_lc (own := [("word", 6)]) (g := (gName 6)) (tt := tYes) rfl sc_job_of_row.nd (pi_list (pv 1)) (blkOk_by (own := [("word", 6)]) (N := N_job_of_row) (sc := defScope s_job_of_row) (by decide +kernel)) (fun _ _ _ _ _ => (pg_name (i := 6) sc_job_of_row.nd rfl (.inl rfl))) (fun _ _ _ _ _ => pts_nil) (fun _ _ _ _ _ => (pe_call (ok_is_number T) (hr.mono (by decide)) (by rfl) T.h_is_number.g T.h_is_number.F.kp T.h_is_number.b .nil pass0 (pa_cons (pv 6) pa_nil)))) pa_nil)))))))
    (pss_one (ps_raise rfl (takes_of rfl rfl rfl rfl) (pmk_own PySem.F.excBase_ValueError T.x_NoRow T.g_NoRow T.k_NoRow (raises_own T.s_NoRow T.t_NoRow) (by exact rfl))))
    pss_nil)
  (pss_cons (ps_asg (pe_lc (own := [("word", 6)]) (g := (gName 6)) (tt := tYes) rfl sc_job_of_row.nd (pi_list (pv 1)) (blkOk_by (own := [("word", 6)]) (N := N_job_of_row) (sc := defScope s_job_of_row) (by decide +kernel)) (fun _ _ _ _ _ => (pg_name (i := 6) sc_job_of_row.nd rfl (.inl rfl))) (fun _ _ _ _ _ => pts_nil) (fun _ _ _ _ _ => (pe_callTy (T := "int") call_int_str (by rfl) T.b_int (by decide +kernel) (pa_cons (pv 6) pa_nil)))) (pg_unl rfl (pgs_cons (pg_name (i := 2) sc_job_of_row.nd rfl (.inl rfl)) (pgs_cons (pg_name (i := 3) sc_job_of_row.nd rfl (.inl rfl)) (pgs_cons (pg_name (i := 4) sc_job_of_row.nd rfl (.inl rfl)) pgs_nil)))))
  (pss_cons (ps_set (i := 5) sc_job_of_row.nd rfl (.inl rfl) (pe_tup (pa_cons (pv 2) (pa_cons (pv 3) (pa_cons (pv 4) pa_nil)))))
  (pss_cons (ps_if (pt_not (pt_val (pe_call (ok_sound T) (hr.mono (by decide)) (by rfl) T.h_sound.g T.h_sound.F.kp T.h_sound.b .nil pass0 (pa_cons (pv 5) pa_nil))))
    (pss_one (ps_raise rfl (takes_of rfl rfl rfl rfl) (pmk_own PySem.F.excBase_ValueError T.x_NoRow T.g_NoRow T.k_NoRow (raises_own T.s_NoRow T.t_NoRow) (by exact rfl))))
    pss_nil)
  (pss_one (ps_ret (pv 5)))))))), ?_⟩
    have hshort := spl_short 32 r []
    unfold jobW at q1 q2
    generalize hws : TL.spl [32] 0 [] r = ws at q1 q2 hshort
    have hcnt := spl_len 32 r []
    rw [hws] at hcnt
    have hcl : r.count 32 ≤ r.length := List.count_le_length
    refine q_asgL (xs := ws.map sV) (by rw [← hws]; exact el_split (ev_var rfl) ev_c (by decide) (by decide) (by omega)) fun p H1 np e1 hp => ?_
    have hw30 : ∀ u ∈ ws, u.length ≤ 30000 := fun u hu => by
      have := hshort u hu
      rw [List.length_nil] at this
      omega
    refine q_when (b := (!decide (V.int (((ws.map sV).length : Nat) : Int) = V.int 3)) || !((ws.map goodW).all id)) (et_or (et_test (ev_op (ev_len (ev_var rfl) (SqL.of hp)) ev_c (rv_ne rfl))) fun _ => et_not (et_B (ev_allN (bs := ws.map goodW) ?_))) (fun hb H2 e2 => ?_) (fun hb H2 e2 => ?_)
    · rw [← gV_map]
      refine el_lcM gV (ev_var rfl) (SqL.of hp) (by rw [List.length_map]; omega) (fun _ => rfl) fun x H3 hx e3 => ?_
      obtain ⟨u, hu, rfl⟩ := List.mem_map.mp hx
      exact ev_isnum (ea_cons (ev_var rfl) ea_nil) (hw30 u hu)
    · refine q1 ?_ H2 (e1.trans e2)
      have hb : ¬ (ws.length = 3 ∧ (ws.map goodW).all id = true) := fun ⟨g1, g2⟩ => by
        rw [List.length_map, g1, g2] at hb
        exact absurd hb (by decide)
      split
      · rename_i a b c
        refine if_neg fun hz => hb ⟨rfl, ?_⟩
        have := hz.1
        simpa using this
      · rfl
    · have hn : ws.length = 3 := by
        rw [List.length_map] at hb
        have : decide (V.int ((ws.length : Nat) : Int) = V.int 3) = true := by
          cases hd : decide (V.int ((ws.length : Nat) : Int) = V.int 3) with
          | true => rfl
          | false => rw [hd] at hb; exact absurd hb (by simp)
        have := V.int.inj (of_decide_eq_true this)
        omega
      have hall : (ws.map goodW).all id = true := by
        cases hd : (ws.map goodW).all id with
        | true => rfl
        | false => rw [hd] at hb; exact absurd hb (by simp)
      obtain ⟨a, b, c, rfl⟩ : ∃ a b c, ws = [a, b, c] := by
        match ws, hn with
        | [a, b, c], _ => exact ⟨a, b, c, rfl⟩
      have hg : goodW a = true ∧ goodW b = true ∧ goodW c = true := by simpa using hall
      dsimp only at q1 q2
      rw [show (goodW a && (goodW b && goodW c)) = true by rw [hg.1, hg.2.1, hg.2.2]; rfl] at q1 q2
      refine q_asgGL (xs := [.int (valW a), .int (valW b), .int (valW c)]) (el_lcM (xs := [sV a, sV b, sV c]) nV (ev_var rfl) (SqL.of (e2 _ _ hp)) (show 3 ≤ 40000 by decide) (fun _ => rfl) fun x H3 hx e3 => ?_) fun l H3 e3 hl3 => ?_
      · have one : ∀ u, goodW u = true → ∀ σ : St, σ[6]? = some (some (sV u)) → Ev (tCB (fun xs H Q => ∃ a n, xs = [.str a] ∧ PySem.intText? a = some n ∧ a.length ≤ 640 ∧ Q (.int n) H) (tCons (tVar 6) tNil)) σ H3 (nV (sV u)) := fun u gu σ hσ =>
          ev_c1 (ev_var hσ) fun H4 Q k => ⟨_, _, rfl, int_good gu, by rw [SX.S_len]; have := (good_ne gu).2.1; omega, k⟩
        simp only [List.mem_cons, List.not_mem_nil, or_false] at hx
        rcases hx with rfl | rfl | rfl
        · exact one a hg.1 _ rfl
        · exact one b hg.2.1 _ rfl
        · exact one c hg.2.2 _ rfl
      · refine g_unl3 hl3 ?_
        refine q_asgU (xs := tv (valW a, valW b, valW c)) (eu_three (ev_var rfl) (ev_var rfl) (ev_var rfl)) fun t H4 nt e4 ht => ?_
        have e14 := ((e1.trans e2).trans e3).trans e4
        refine q_when (b := !soundB (valW a, valW b, valW c)) (et_not (et_B (ev_sound (ea_cons (ev_var rfl) ea_nil) ht))) (fun hb H5 e5 => ?_) (fun hb H5 e5 => ?_)
        · refine q1 (if_neg fun hz => ?_) H5 (e14.trans e5)
          have hz : soundB (valW a, valW b, valW c) = true := hz.2
          rw [hz] at hb
          exact absurd hb (by decide)
        · have hs : soundB (valW a, valW b, valW c) = true := by simpa using hb
          exact s_ret (ev_var rfl) fun H6 e6 => q2 _ (if_pos ⟨rfl, hs⟩) t H6 (fresh_back ((e1.trans e2).trans e3) nt) ((e14.trans e5).trans e6) ((e5.trans e6) _ _ ht)
end
end DLL
namespace DLL
open PySem PySem.Spec PyProof.Rows L2 Evl DL
section
variable {K : PySem.W.Frag} {σ : St} {H : Hp} {tl te : TE} {j : Nat} {vs : List Nat}
/-- [a job for row in rows]: where a row is none, the element owes nothing to the list -/
theorem lc_jobs {ws : List (List Nat)} (f : List Nat → Option T3) (h : EvL tl σ H (ws.map sV)) (hz : ws.length ≤ 40000) (hw : ∀ x, wipe ((wipe σ vs).set j (some x)) vs = wipe σ vs)
    (he : ∀ w H1, w ∈ ws → Ex H H1 → ∀ Q : VK, (∀ o, f w = some o → ∀ t H2, Ex H1 H2 → AtT H2 t o → Q (.ref t) H2) → te ((wipe σ vs).set j (some (sV w))) H1 Q) {Q : VK}
    (k : ∀ d H2 js, ws.map f = js.map some → H d = none → Ex H H2 → TL H2 d js → Q (.ref d) H2) : tLc (iList K tl) (gName j) tYes te vs σ H Q :=
  h H (Ex.refl H) _ fun a H1 na e1 hx => by
    refine ⟨a, rfl, ⟨_, SqL.of hx⟩, fun Dl hD => ?_⟩
    refine lc_list (K := K) (xs := ws.map sV) (fun i H' => Ex H1 H' ∧ ∃ ts js, H' Dl = some (.lst (List.map V.ref ts)) ∧ Tps H' ts js ∧ (ws.take i).map f = js.map some) ⟨Ex.new hD, [], [], upd_same, .nil, rfl⟩ (fun i H' _ p => SqL.of (p.1 _ _ hx)) (fun i x H' hi pv => ?_) fun H' pv => ?_
    · obtain ⟨p1, ts, js, p2, p3, p4⟩ := pv
      rw [List.getElem?_map] at hi
      obtain ⟨w, hw1, rfl⟩ := Option.map_eq_some_iff.mp hi
      have hlt : i < ws.length := (List.getElem?_eq_some_iff.mp hw1).1
      refine ⟨hw _, ?_⟩
      show te _ H' _
      refine he w H' (List.mem_of_getElem? hw1) (e1.trans p1) _ fun o ho t H4 e4 ht => ?_
      have hlen : ts.length = js.length := p3.len
      have hl2 := congrArg List.length p4
      rw [List.length_map, List.length_take, List.length_map] at hl2
      have hd4 := e4 _ _ p2
      refine ⟨_, hd4, sz_lt (by rw [List.length_map]; omega), Ex.mut (p1.trans e4) hD, ts ++ [t], js ++ [o], by rw [upd_same, List.map_append]; rfl, ?_, ?_⟩
      · exact ((p3.mono e4).append (.cons ht .nil)).keep (tup_upd hd4)
      · rw [List.take_add_one, hw1, List.map_append, p4, List.map_append]
        show js.map some ++ [f w] = _
        rw [ho]
        rfl
    · obtain ⟨p1, ts, js, p2, p3, p4⟩ := pv
      rw [List.length_map, List.take_length] at p4
      exact k Dl H' js p4 (fresh_back e1 hD) (e1.trans p1) ⟨ts, p2, p3⟩
end
theorem getLast_take {t : List Nat} (h : t.getLast? = some 10) : TL.spl [10] 0 [] (t.take (t.length - 1)) = rowsW t := by
  have e := last_split h
  generalize t.take (t.length - 1) = u at *
  rw [e, rows_end]
theorem mapM_none {α β : Type} {f : α → Option β} {xs : List α} {x : α} (hx : x ∈ xs) (h : f x = none) : xs.mapM f = none := by
  cases e : xs.mapM f with
  | none => rfl
  | some ys =>
    have m := mapM_some.mp e
    have : none ∈ ys.map some := by
      rw [← m, ← h]
      exact List.mem_map_of_mem hx
    obtain ⟨y, _, hy⟩ := List.mem_map.mp this
    cases hy
theorem count_nil : ([] : List Nat).count 10 = 0 := rfl
section
variable {P : Program} {w : World} {K : PySem.W.Frag} {mg : Str → Option Value} {base : Heap} {H : Hp}
/-! ### a text that is read -/
def spReadX (T : TX K mg) : Sp := fun vs H Q E => ∃ t : List Nat, vs = [sV t] ∧ t.length ≤ 30000 ∧ (readW t = .many → ∀ H', Ex H H' → E (.ref T.c_TooMany) none H') ∧ (readW t = .row → ∀ H', Ex H H' → E (.ref T.c_NoRow) none H') ∧
  (∀ js, readW t = .jobs js → ∀ p H', Ex H H' → TL H' p js → Q (.ref p) H')
theorem okx_read (T : TX K mg) : FnOk P w K mg base (L2.CX P w) 3 T.f_read T.d_read ["text"] (spReadX T) := by
  refine T.h_read.F.okX sc_read (fun vs H Q E h => ?_) (fun cdv A outer s H vs Q E hr h => ?_)
  · obtain ⟨_, rfl, _⟩ := h
    rfl
  · obtain ⟨t, rfl, hl, q1, q2, q3⟩ := h
    refine ⟨_, (pss_cons (ps_if (pt_cmpR op_gt (pe_m1 PySem.F.slot_str_count PySem.F.type_str_count mt_count (pv 0) pe_str) (pe_glob (v := .int 60) (by rfl) T.c_LIMIT ⟨_, rfl⟩) (nomark _))
    (pss_one (ps_raise rfl (takes_of rfl rfl rfl rfl) (SkE.pmk_own1 PySem.F.excBase_ValueError T.x_TooMany T.g_TooMany T.k_TooMany (raises_own T.s_TooMany T.t_TooMany) (by exact rfl) (pe_joined (.cons pe_str (.cons (pe_fmt (pe_glob (v := .int 60) (by rfl) T.c_LIMIT ⟨_, rfl⟩)) (.cons pe_str .nil)))))))
    pss_nil)
  (pss_cons (ps_if (pt_cmpR op_eq (pv 0) pe_str (nomark _))
    (pss_one (ps_ret (pe_lst pa_nil)))
    pss_nil)
  (pss_cons (ps_if (pt_not (pt_val (pe_m1 PySem.F.slot_str_endswith PySem.F.type_str_endswith mt_endswith (pv 0) pe_str)))
    (pss_one (ps_raise rfl (takes_of rfl rfl rfl rfl) (pmk_own PySem.F.excBase_ValueError T.x_NoRow T.g_NoRow T.k_NoRow (raises_own T.s_NoRow T.t_NoRow) (by exact rfl))))
    pss_nil)
  (pss_one (ps_ret (pe_lcX (E := E) (own := [("row", 1)]) (g := (gName 1)) (tt := tYes) rfl rfl (takes_of rfl rfl rfl rfl) (fun _ _ _ _ h => h) rfl sc_read.nd (pi_list (pe_split (pe_slice (r := C8.rSlX) C8.sl_txt (pv 0) po_none (po_some (pe_un un_neg pe_int))) pe_str)) (blkOk_by (own := [("row", 1)]) (N := N_read) (sc := defScope s_read) (by decide +kernel)) (fun _ _ _ _ _ _ => (pg_name (i := 1) sc_read.nd rfl (.inl rfl))) (fun _ _ _ _ _ _ => pts_nil) (fun _ _ _ _ _ _ px => (pe_call (okx_job_of_row T) (hr.mono (by decide)) (by rfl) T.h_job_of_row.g T.h_job_of_row.F.kp T.h_job_of_row.b .nil px (pa_cons (pv 1) pa_nil))))))))), ?_⟩
    refine q_when (b := decide ((60 : Int) < ((t.count 10 : Nat) : Int))) (et_test (ev_op (ev_m1 (z := .int ((t.count 10 : Nat) : Int)) (b := S [10]) (ev_var rfl) ev_c fun H1 Q k => ⟨_, _, rfl, rfl, by rw [count_S]; exact k⟩) ev_c rv_I0)) (fun hb H1 e1 => ?_) (fun hb H1 e1 => ?_)
    · have hb := of_decide_eq_true hb
      have hr : readW t = .many := by
        unfold readW
        exact if_pos (by omega)
      exact ⟨_, rfl, by decide +kernel, .inr ⟨60, rfl, by decide +kernel, _, rfl, by decide +kernel, _, rfl, by decide +kernel, q1 hr _ e1⟩⟩
    · have hb := of_decide_eq_false hb
      have h60 : ¬ 60 < t.count 10 := by omega
      refine q_when (b := decide (sV t = sV [])) (et_test (ev_op (ev_var rfl) ev_c (rv_eq rfl))) (fun hb H2 e2 => ?_) (fun hb H2 e2 => ?_)
      · rw [eqS] at hb
        have e0 := of_decide_eq_true hb
        subst e0
        exact s_retTL etl_nil fun p H3 _ e3 hT => q3 [] rfl p H3 ((e1.trans e2).trans e3) hT
      · rw [eqS] at hb
        have hne : t ≠ [] := of_decide_eq_false hb
        refine q_when (b := !decide (t.getLast? = some 10)) (et_not (et_B (ev_m1 (z := .bl (decide (t.getLast? = some 10))) (b := S [10]) (ev_var rfl) ev_c fun H1 Q k => ⟨_, _, rfl, rfl, by rw [ends_S]; exact k⟩))) (fun hb H3 e3 => ?_) (fun hb H3 e3 => ?_)
        · have hn : t.getLast? ≠ some 10 := by simpa using hb
          refine q2 ?_ H3 ((e1.trans e2).trans e3)
          unfold readW
          rw [if_neg h60, if_pos ⟨hne, hn⟩]
        · have hlast : t.getLast? = some 10 := by simpa using hb
          have e13 := (e1.trans e2).trans e3
          have hrd : readW t = outW ((rowsW t).mapM jobW) := by
            unfold readW
            rw [if_neg h60, if_neg fun z => z.2 hlast]
          have hrow : TL.spl [10] 0 [] (t.take (t.length - 1)) = rowsW t := getLast_take hlast
          have hcl : (t.take (t.length - 1)).length ≤ t.length := by rw [List.length_take]; omega
          have hnum := spl_len 10 (t.take (t.length - 1)) []
          have hsh := spl_short 10 (t.take (t.length - 1)) []
          rw [hrow] at hnum hsh
          have hcnt : (t.take (t.length - 1)).count 10 ≤ (t.take (t.length - 1)).length := List.count_le_length
          show tLc _ _ _ _ _ _ H3 _
          refine lc_jobs (ws := rowsW t) jobW ?_ (by omega) (fun _ => rfl) (fun u H4 hu e4 Q k => ?_) (fun d H4 js hjs nd e4 hT => ?_)
          · rw [← hrow]
            refine el_split (a := t.take (t.length - 1)) (b := [10]) ?_ ev_c (by decide) (by decide) (by omega)
            exact ev_is (v := .str (Txt.slice (S t) none (some (-1)))) (ev_slS (ev_var rfl) eo_none (eo_some (ev_un ev_c ru_neg)) (by rw [SX.S_len]; omega)) (by rw [SX.slice_butlast hne])
          · have hul := hsh u hu
            rw [List.length_nil] at hul
            refine (ea_cons (ev_var rfl) ea_nil) H4 (Ex.refl _) _ fun H5 e5 => ?_
            refine ⟨u, rfl, by omega, fun hn H6 e6 => ?_, fun o ho tt H6 _ e6 ht => k o ho tt H6 (e5.trans e6) ht⟩
            refine q2 ?_ H6 (((e13.trans e4).trans e5).trans e6)
            rw [hrd, mapM_none hu hn]
            rfl
          · refine q3 js ?_ d H4 (e13.trans e4) hT
            rw [hrd, mapM_some.mpr hjs]
            rfl
end
end DLL
namespace DLL
open PySem PySem.Spec PyProof.Rows L2 Evl DL
def OutV (H : Hp) (v : V) : Out → Prop
  | .many => v = .str "many"
  | .row => v = .str "row"
  | .jobs js => ∃ p, v = .ref p ∧ TL H p js
theorem OutV.mono {H H' : Hp} {v : V} {o : Out} (e : Ex H H') (h : OutV H v o) : OutV H' v o := by
  cases o with
  | many => exact h
  | row => exact h
  | jobs js => exact h.elim fun p z => ⟨p, z.1, z.2.mono e⟩
theorem atI_last {t : List Nat} {c : Nat} (h : t.getLast? = some c) : atI t (-1) = some c := by
  obtain ⟨ys, rfl⟩ := List.getLast?_eq_some_iff.mp h
  unfold atI ixN
  rw [if_neg (by decide), if_pos (by rw [List.length_append]; show -((ys.length + 1 : Nat) : Int) ≤ -1; omega)]
  rw [show (-1 + (((ys ++ [c]).length : Nat) : Int)).toNat = ys.length by rw [List.length_append]; show (-1 + ((ys.length + 1 : Nat) : Int)).toNat = _; omega]
  show (ys ++ [c])[ys.length]? = some c
  simp
theorem atI_some {l : List Nat} {i : Int} (h0 : 0 ≤ i) (h : i < (l.length : Int)) : ∃ c, atI l i = some c := by
  have hn : i.toNat < l.length := by omega
  have := atI_nat (List.getElem?_eq_getElem hn)
  rw [Int.toNat_of_nonneg h0] at this
  exact ⟨_, this⟩
theorem mapM_cases {f : List Nat → Option T3} (ws : List (List Nat)) : ((ws.map f).any Option.isNone = true ∧ ws.mapM f = none) ∨ ((ws.map f).any Option.isNone = false ∧ ∃ js, ws.mapM f = some js ∧ ws.map f = js.map some) := by
  cases e : ws.mapM f with
  | none =>
    refine .inl ⟨?_, rfl⟩
    induction ws with
    | nil => cases e
    | cons w ws ih =>
      rw [List.map_cons, List.any_cons]
      cases hw : f w with
      | none => rfl
      | some o =>
        rw [List.mapM_cons, hw] at e
        cases hm : ws.mapM f with
        | none => rw [ih hm]; rfl
        | some js => rw [hm] at e; cases e
  | some js =>
    have m := mapM_some.mp e
    refine .inr ⟨?_, js, rfl, m⟩
    rw [m, List.any_map]
    exact List.any_eq_false.mpr fun x _ => by simp
section
variable {P : Program} {w : World} {K : PySem.W.Frag} {mg : Str → Option Value} {base : Heap} {H : Hp}
theorem el_slN {σ : St} {te : TE} {tl th : TO} {xs : List V} {lo hi : Option Int} (h : EvL te σ H xs) (h1 : EvO tl σ H lo) (h2 : EvO th σ H hi) : EvL (tSl (rSlL K) te tl th) σ H (cutV xs lo hi) := fun H1 e Q k =>
  h H1 e _ fun a H2 _ e2 hx => h1 H2 (e.trans e2) _ fun H3 e3 => h2 H3 ((e.trans e2).trans e3) _ fun H4 e4 =>
    ⟨a, xs, rfl, SqL.of (e4 _ _ (e3 _ _ hx)), fun p hp => k p _ (fresh_back ((e2.trans e3).trans e4) hp) (((e2.trans e3).trans e4).trans (Ex.new hp)) upd_same⟩
/-! ### the law's figures -/
def spFig : Sp := fun vs H Q _ => ∃ n : Int, vs = [.int n] ∧ 0 ≤ n ∧ n < B60 ∧ ∀ H', Ex H H' → Q (sV (numI n)) H'
theorem ok_law_figures (T : TX K mg) : FnOk P w K mg base CX0 1 T.f_law_figures T.d_law_figures ["_law_number_here"] spFig := by
  refine T.h_law_figures.F.ok sc_law_figures (fun vs H Q E h => ?_) (fun cdv A outer s H vs Q E hr h => ?_)
  · obtain ⟨_, rfl, _⟩ := h
    rfl
  · obtain ⟨n, rfl, h0, hn, q⟩ := h
    refine ⟨_, (pss_cons (ps_set (i := 1) sc_law_figures.nd rfl (.inl rfl) pe_str)
  (pss_cons (ps_while PassesOwn.never (pt_cmpR op_gt (pv 0) pe_int (nomark _))
    (pss_cons (ps_set (i := 1) sc_law_figures.nd rfl (.inl rfl) (pe_op op_add_str (pe_ix (r := rIxS) ix_str pe_str (pe_op op_mod (pv 0) pe_int) (fun _ _ => rfl)) (pv 1)))
  (pss_one (ps_set (i := 0) sc_law_figures.nd rfl (.inl rfl) (pe_op op_fdiv (pv 0) pe_int)))))
  (pss_one (ps_ret (pe_op op_add_str (pe_ix (r := rIxS) ix_str pe_str (pv 0) (fun _ _ => rfl)) (pv 1)))))), ?_⟩
    have hlen := numI_len hn
    have head : ∀ (k : Nat) (f : List Nat), k < 10 → S [48 + k] ++ S f = S ((48 + k) :: f) := fun k f _ => SX.S_cat [48 + k] f
    refine q_asg (v := sV []) ev_c fun H1 e1 => ?_
    refine q_while (fun m σ' H' => ∃ f : List Nat, σ' = [some (.int (m : Int)), some (sV f)] ∧ Ex H H' ∧ numI n = TL.numL m ++ f) n.toNat ⟨[], by rw [Int.toNat_of_nonneg h0]; rfl, e1, (List.append_nil _).symm⟩ ?_
    rintro m σ' H' ⟨f, rfl, e2, hf⟩
    have hfl : f.length ≤ 60 := by
      rw [hf, List.length_append] at hlen
      omega
    refine ⟨decide ((9 : Int) < (m : Int)), by walk_at "evt", fun hb H2 e3 => ?_, fun hb H2 e3 => ?_⟩
    · have hb := of_decide_eq_true hb
      have hm : 10 ≤ m := by omega
      refine ⟨fun σ2 H2 => ∃ f : List Nat, σ2 = [some (.int ((m / 10 : Nat) : Int)), some (sV f)] ∧ Ex H H2 ∧ numI n = TL.numL (m / 10) ++ f, fun σ2 H2 h => ⟨m / 10, by omega, h⟩, ?_⟩
      have m0 : (0 : Int) ≤ (m : Int) % 10 := by omega
      have m1 : (m : Int) % 10 < 10 := by omega
      have hat := fig_at m0 m1
      have ht : ((m : Int) % 10).toNat = m % 10 := by omega
      rw [ht] at hat
      refine q_asg (v := sV ((48 + m % 10) :: f)) (ev_is (v := .str (S [48 + m % 10] ++ S f)) (ev_addS (ev_op ev_c (by walk_at "ev") (rv_ixS (w := FIG) (by decide +kernel) hat)) (ev_var rfl) fun H4 Q k => ⟨_, _, rfl, rfl, sz_of (by rw [SX.S_len]; show 1 + (S f).length ≤ _; rw [SX.S_len]; omega), k⟩) (by rw [head _ _ (by omega)])) fun H4 e4 => ?_
      refine s_asg (v := .int ((m / 10 : Nat) : Int)) (ev_is (v := .int ((m : Int) / 10)) (by walk_at "ev") rfl) fun H5 e5 => ⟨(48 + m % 10) :: f, rfl, ((e2.trans e3).trans e4).trans e5, ?_⟩
      rw [hf, TL.numL_step hm, List.append_assoc]
      rfl
    · have hb := of_decide_eq_false hb
      have hm : m < 10 := by omega
      have hat := fig_at (k := (m : Int)) (by omega) (by omega)
      have ht : ((m : Int)).toNat = m := by omega
      rw [ht] at hat
      refine s_ret (v := sV (numI n)) (ev_is (v := .str (S [48 + m] ++ S f)) (ev_addS (ev_op ev_c (ev_var rfl) (rv_ixS (w := FIG) (by decide +kernel) hat)) (ev_var rfl) fun H4 Q k => ⟨_, _, rfl, rfl, sz_of (by rw [SX.S_len]; show 1 + (S f).length ≤ _; rw [SX.S_len]; omega), k⟩) (by rw [head _ _ hm, hf, TL.numL_lt hm]; rfl)) fun H4 e4 => q H4 ((e2.trans e3).trans e4)
theorem ev_fig {σ : St} {ta : TA} {E : XK} {n : Int} (h : EvA ta σ H [.int n]) (h0 : 0 ≤ n) (h1 : n < B60) : Ev (tCall spFig [] E ta) σ H (sV (numI n)) := ev_call h fun H1 e Q q E => ⟨n, rfl, h0, h1, q⟩
/-! ### the law's number of a word -/
def spNumW : Sp := fun vs H Q _ => ∃ u : List Nat, vs = [sV u] ∧ u.length ≤ 30000 ∧ ∀ H', Ex H H' → Q (.int (numW u)) H'
theorem ok_law_number (T : TX K mg) : FnOk P w K mg base CX0 1 T.f_law_number T.d_law_number ["_law_word"] spNumW := by
  refine T.h_law_number.F.ok sc_law_number (fun vs H Q E h => ?_) (fun cdv A outer s H vs Q E hr h => ?_)
  · obtain ⟨_, rfl, _⟩ := h
    rfl
  · obtain ⟨u, rfl, hl, q⟩ := h
    refine ⟨_, (pss_cons (ps_set (i := 1) sc_law_number.nd rfl (.inl rfl) pe_int)
  (pss_cons (ps_if (PW.pt (pw_or (pt_cmpR op_eq (pv 0) pe_str (nomark _)) (pw_or (pt_cmpR op_gt (pe_callB (id := "len") call_len_str (by rfl) T.b_len PySem.boot_len (pa_cons (pv 0) pa_nil)) pe_int (nomark _)) (pw_or1 (PW.pt (pw_and (pt_cmpR op_eq (pe_ix (r := rIxS) ix_str (pv 0) pe_int (fun _ _ => rfl)) pe_str (nomark _)) (pw_and1 (pt_cmpR op_ne (pv 0) pe_str (nomark _)))))))))
    (pss_one (ps_ret (pe_un un_neg pe_int)))
    pss_nil)
  (pss_cons (ps_for PassesOwn.never rfl (pi_str (pv 0)) (pg_name (i := 2) sc_law_number.nd rfl (.inl rfl))
    (pss_cons (ps_if (pt_cmpR op_lt (pe_m1 PySem.F.slot_str_find PySem.F.type_str_find mt_find pe_str (pv 2)) pe_int (nomark _))
    (pss_one (ps_ret (pe_un un_neg pe_int)))
    pss_nil)
  (pss_one (ps_set (i := 1) sc_law_number.nd rfl (.inl rfl) (pe_op op_add (pe_op op_mul pe_int (pv 1)) (pe_m1 PySem.F.slot_str_find PySem.F.type_str_find mt_find pe_str (pv 2)))))))
  (pss_one (ps_ret (pv 1)))))), ?_⟩
    refine q_asg ev_c fun H1 e1 => ?_
    have hlen : (S u).length = u.length := SX.S_len u
    have he : decide ((60 : Int) < ((S u).length : Int)) = decide (60 < u.length) := by rw [hlen]; exact decide_eq_decide.mpr (by omega)
    refine q_when (b := badW u) ?_ (fun hb H2 e2 => ?_) (fun hb H2 e2 => ?_)
    · unfold badW
      refine et_or (et_is (et_test (ev_op (y := sV []) (ev_var rfl) ev_c (rv_eq rfl))) (eqS u [])) fun hne => ?_
      refine et_or (et_is (et_test (ev_op (ev_c1 (ev_var rfl) fun H1 Q k => ⟨S u, rfl, sz_of (by omega), k⟩) ev_c rv_I0)) he) fun _ => ?_
      cases u with
      | nil => cases hne
      | cons c r =>
        rw [headS]
        refine et_is (b := decide ([c] = [48]) && !decide (c :: r = [48])) (a := decide (sV [c] = sV [48]) && !decide (sV (c :: r) = sV [48])) (et_and (et_test (ev_op (ev_op (ev_var rfl) ev_c (rv_ixS (by omega) (atI_nat (j := 0) rfl))) ev_c (rv_eq rfl))) fun _ => et_test (ev_op (ev_var rfl) ev_c (rv_ne rfl))) (by rw [eqS, eqS])
    · have hz : numW u = -1 := by
        unfold numW
        rw [bad_good, hb]
        rfl
      rw [hz] at q
      exact s_ret (by walk_at "ev") fun H3 e3 => q H3 ((e1.trans e2).trans e3)
    · refine q_forS (w := u) (ev_var rfl) (fun i σ' H' => ∃ x : Option V, σ' = [some (sV u), some (.int (valW (u.take i))), x] ∧ Ex H H' ∧ (u.take i).all digB = true) (fun H3 e3 => ⟨none, rfl, (e1.trans e2).trans e3, rfl⟩) ?_ ?_
      · rintro i c σ' H' hc ⟨x, rfl, e3, hd⟩
        have hf := fig_find c
        have find : ∀ H4, Ev (tM1 (fun x xs H Q => ∃ a b, x = .str a ∧ xs = [.str b] ∧ Q (.int (Txt.find a b)) H) (tC (.str FIG)) (tVar 2)) [some (sV u), some (.int (valW (u.take i))), some (sV [c])] H4 (.int (if digB c = true then ((c - 48 : Nat) : Int) else -1)) := fun H4 =>
          ev_m1 ev_c (ev_var rfl) fun H5 Q k => ⟨_, _, rfl, rfl, by rw [hf]; exact k⟩
        show tSeq _ _ _ [some (sV u), some (.int (valW (u.take i))), some (sV [c])] H'
        refine q_when (b := decide ((if digB c = true then ((c - 48 : Nat) : Int) else -1) < 0)) (et_test (ev_op (find H') ev_c rv_I0)) (fun hb2 H4 e4 => ?_) (fun hb2 H4 e4 => ?_)
        · have hcd : digB c = false := by
            cases hg : digB c with
            | false => rfl
            | true =>
              rw [hg, if_pos rfl] at hb2
              have := of_decide_eq_true hb2
              omega
          have hz : numW u = -1 := by
            unfold numW
            have hall : u.all digB = false := List.all_eq_false.mpr ⟨c, List.mem_of_getElem? hc, by rw [hcd]; decide⟩
            rw [bad_good, hall, Bool.and_false]
            rfl
          rw [hz] at q
          exact s_ret (by walk_at "ev") fun H5 e5 => q H5 ((e3.trans e4).trans e5)
        · have hcd : digB c = true := by
            cases hg : digB c with
            | true => rfl
            | false =>
              rw [hg, if_neg (by decide)] at hb2
              exact absurd hb2 (by decide)
          refine s_asg (v := .int (valW (u.take (i + 1)))) (ev_is (v := .int (10 * valW (u.take i) + (if digB c = true then ((c - 48 : Nat) : Int) else -1))) (ev_op (by walk_at "ev") (find H4) rv_I0) ?_) fun H5 e5 => ⟨_, rfl, (e3.trans e4).trans e5, ?_⟩
          · rw [if_pos hcd, List.take_add_one, hc]
            show _ = V.int (valW (u.take i ++ [c]))
            rw [val_snoc]
          · rw [List.take_add_one, hc, List.all_append, hd]
            show (true && (digB c && true)) = true
            rw [hcd]
            rfl
      · rintro σ' H' ⟨x, rfl, e3, hd⟩
        rw [List.take_length] at hd ⊢
        have hz : numW u = valW u := by
          unfold numW
          rw [bad_good, hb, hd]
          rfl
        rw [hz] at q
        exact s_ret (ev_var rfl) fun H4 e4 => q H4 (e3.trans e4)
theorem ev_numW {σ : St} {ta : TA} {E : XK} {u : List Nat} (h : EvA ta σ H [sV u]) (hl : u.length ≤ 30000) : Ev (tCall spNumW [] E ta) σ H (.int (numW u)) := ev_call h fun H1 e Q q E => ⟨u, rfl, hl, q⟩
/-! ### the law's job of a row -/
def spJobOf : Sp := fun vs H Q _ => ∃ r : List Nat, vs = [sV r] ∧ r.length ≤ 30000 ∧ ∀ v H', Ex H H' → OptV H' v (jobW r) → Q v H'
theorem ok_law_job_of (T : TX K mg) : FnOk P w K mg base CX0 2 T.f_law_job_of T.d_law_job_of ["_law_row"] spJobOf := by
  refine T.h_law_job_of.F.ok sc_law_job_of (fun vs H Q E h => ?_) (fun cdv A outer s H vs Q E hr h => ?_)
  · obtain ⟨_, rfl, _⟩ := h
    rfl
  · obtain ⟨r, rfl, hl, q⟩ := h
    refine ⟨_, (pss_cons (ps_set (i := 1) sc_law_job_of.nd rfl (.inl rfl) (pe_split (pv 0) pe_str))
  (pss_cons (ps_if (pt_cmpR op_ne (pe_callB (id := "len") (r := Evl.rLenS K) call_len_seq (by rfl) T.b_len PySem.boot_len (pa_cons (pv 1) pa_nil)) pe_int (nomark _))
    (pss_one (ps_ret pe_non))
    pss_nil)
  (pss_cons (ps_set (i := 2) sc_law_job_of.nd rfl (.inl rfl) (pe_call (ok_law_number T) (hr.mono (by decide)) (by rfl) T.h_law_number.g T.h_law_number.F.kp T.h_law_number.b .nil pass0 (pa_cons (pe_ix (r := rIxL K) ix_list (pv 1) pe_int (fun _ _ => rfl)) pa_nil)))
  (pss_cons (ps_set (i := 3) sc_law_job_of.nd rfl (.inl rfl) (pe_call (ok_law_number T) (hr.mono (by decide)) (by rfl) T.h_law_number.g T.h_law_number.F.kp T.h_law_number.b .nil pass0 (pa_cons (pe_ix (r := rIxL K) ix_list (pv 1) pe_int (fun _ _ => rfl)) pa_nil)))
  (pss_cons (ps_set (i := 4) sc_law_job_of.nd rfl (.inl rfl) (pe_call (ok_law_number T) (hr.mono (by decide)) (by rfl) T.h_law_number.g T.h_law_number.F.kp T.h_law_number.b .nil pass0 (pa_cons (pe_ix (r := rIxL K) ix_list (pv 1) pe_int (fun _ _ => rfl)) pa_nil)))
  (pss_cons (ps_if (PW.pt (pw_or (pt_cmpR op_lt (pv 2) pe_int (nomark _)) (pw_or (pt_cmpR op_lt (pv 3) pe_int (nomark _)) (pw_or1 (pt_cmpR op_le (pv 4) (pv 2) (nomark _))))))
    (pss_one (ps_ret pe_non))
    pss_nil)
  (pss_one (ps_ret (pe_tup (pa_cons (pv 2) (pa_cons (pv 3) (pa_cons (pv 4) pa_nil)))))))))))), ?_⟩
    have hshort := spl_short 32 r []
    unfold jobW at q
    generalize hws : TL.spl [32] 0 [] r = ws at q hshort
    have hw30 : ∀ u ∈ ws, u.length ≤ 30000 := fun u hu => by
      have := hshort u hu
      rw [List.length_nil] at this
      omega
    refine q_asgL (xs := ws.map sV) (by rw [← hws]; exact el_split (ev_var rfl) ev_c (by decide) (by decide) (by omega)) fun p H1 np e1 hp => ?_
    refine q_when (b := !decide (V.int (((ws.map sV).length : Nat) : Int) = V.int 3)) (et_test (ev_op (ev_len (ev_var rfl) (SqL.of hp)) ev_c (rv_ne rfl))) (fun hb H2 e2 => ?_) (fun hb H2 e2 => ?_)
    · have hn : ws.length ≠ 3 := fun z => by
        rw [List.length_map, z] at hb
        exact absurd hb (by decide)
      exact s_ret ev_c fun H3 e3 => q _ H3 ((e1.trans e2).trans e3) (by
        split
        · exact absurd rfl hn
        · rfl)
    · have hn : ws.length = 3 := by
        rw [List.length_map] at hb
        have : decide (V.int ((ws.length : Nat) : Int) = V.int 3) = true := by simpa using hb
        have := V.int.inj (of_decide_eq_true this)
        omega
      obtain ⟨a, b, c, rfl⟩ : ∃ a b c, ws = [a, b, c] := by
        match ws, hn with
        | [a, b, c], _ => exact ⟨a, b, c, rfl⟩
      dsimp only at q
      rw [← job_words] at q
      have hp : H1 p = some (.lst [sV a, sV b, sV c]) := hp
      refine q_asg (ev_numW (u := a) (ea_cons (ev_op (ev_var rfl) ev_c (rv_ixL (SqL.of (e2 _ _ hp)) (atI_nat (j := 0) rfl))) ea_nil) (hw30 a (by simp))) fun H3 e3 => ?_
      refine q_asg (ev_numW (u := b) (ea_cons (ev_op (ev_var rfl) ev_c (rv_ixL (SqL.of (e3 _ _ (e2 _ _ hp))) (atI_nat (j := 1) rfl))) ea_nil) (hw30 b (by simp))) fun H4 e4 => ?_
      refine q_asg (ev_numW (u := c) (ea_cons (ev_op (ev_var rfl) ev_c (rv_ixL (SqL.of (e4 _ _ (e3 _ _ (e2 _ _ hp)))) (atI_nat (j := 2) rfl))) ea_nil) (hw30 c (by simp))) fun H5 e5 => ?_
      have e15 := (((e1.trans e2).trans e3).trans e4).trans e5
      refine q_when (b := decide (numW a < 0) || (decide (numW b < 1) || decide (numW c ≤ numW a))) (et_or (by walk_at "evt") fun _ => et_or (by walk_at "evt") fun _ => by walk_at "evt") (fun hb2 H6 e6 => ?_) (fun hb2 H6 e6 => ?_)
      · rw [if_pos hb2] at q
        exact s_ret ev_c fun H7 e7 => q _ H7 ((e15.trans e6).trans e7) rfl
      · rw [if_neg (by rw [hb2]; decide)] at q
        exact s_retU (xs := tv (numW a, numW b, numW c)) (eu_three (ev_var rfl) (ev_var rfl) (ev_var rfl)) fun t H7 _ e7 ht => q _ H7 ((e15.trans e6).trans e7) ⟨t, rfl, ht⟩
end
end DLL
namespace DLL
open PySem PySem.Spec PyProof.Rows L2 Evl DL
theorem len_cat (a b : Str) : (a ++ b).length = a.length + b.length := by rw [TL.len_tl, TL.tl_append, List.length_append, ← TL.len_tl, ← TL.len_tl]
theorem slice_le (z : Str) (lo hi : Option Int) : (Txt.slice z lo hi).length ≤ z.length := by
  rw [← C8.cutS_slice]
  exact cutS_length z lo hi
def LenLe (n : Nat) : Pr := fun _ v => ∃ y : Str, v = .str y ∧ y.length ≤ n
theorem st_LenLe (n : Nat) : Steady (LenLe n) := fun _ _ _ _ h => h
def SGA : Str := " !\"#$&'()*+,-./0123456789:;<=>?@ABCDEFGHIJKLMNOPQRSTUVWXYZ[\\]^_`"
def SGB : Str := "abcdefghijklmnopqrstuvwxyz{|}~\n\t"
theorem sg_len : (SGA ++ SGB).cps.toList.length = 96 ∧ (SGA ++ SGB).length ≤ 100000 ∧ SGA.length + SGB.length ≤ 100000 := by decide +kernel
section
variable {P : Program} {w : World} {K : PySem.W.Frag} {mg : Str → Option Value} {base : Heap} {H : Hp}
section
variable {σ : St} {ta tb te tl : TE} {n m j i : Nat} {vs : List Nat} {D : Ends} {tz : TS}
theorem q_lcOpt {ws : List (List Nat)} (f : List Nat → Option T3) (h : EvL tl σ H (ws.map sV)) (hz : ws.length ≤ 40000) (hw : ∀ x, wipe ((wipe σ vs).set j (some x)) vs = wipe σ vs)
    (he : ∀ w H1, w ∈ ws → Ex H H1 → ∀ Q : VK, (∀ v H2, Ex H1 H2 → OptV H2 v (f w) → Q v H2) → te ((wipe σ vs).set j (some (sV w))) H1 Q)
    (k : ∀ d H2 xs, Ex H H2 → H2 d = some (.lst xs) → OptL H2 xs (ws.map f) → tz D (σ.set i (some (.ref d))) H2) : tSeq (tAsg (tLc (iList K tl) (gName j) tYes te vs) (gName i)) tz D σ H := by
  show tLc (iList K tl) (gName j) tYes te vs σ H (fun x H2 => tz D (σ.set i (some x)) H2)
  exact lc_opt f h hz hw he k
theorem ep_addS {r : R2} (ha : EvP ta σ H (LenLe n)) (hb : EvP tb σ H (LenLe m)) (hr : ∀ a b H1 (Q : VK), a.length + b.length ≤ 100000 → Q (.str (a ++ b)) H1 → r (.str a) (.str b) H1 Q) (hz : n + m ≤ 100000) : EvP (tOp r ta tb) σ H (LenLe (n + m)) := fun H1 e Q k =>
  ha H1 e _ fun y H2 e2 ⟨a, hy, hl⟩ => by
    subst hy
    refine hb H2 (e.trans e2) _ fun z H3 e3 ⟨b, hz2, hl2⟩ => ?_
    subst hz2
    exact hr a b H3 Q (by omega) (k _ H3 (e2.trans e3) ⟨_, rfl, by rw [len_cat]; omega⟩)
theorem ep_slS {to th : TO} {lo hi : Option Int} (h : EvP te σ H (LenLe n)) (h1 : EvO to σ H lo) (h2 : EvO th σ H hi) (hz : n ≤ 100000) : EvP (tSl C8.rSlX te to th) σ H (LenLe n) := fun H1 e Q k =>
  h H1 e _ fun y H2 e2 ⟨a, hy, hl⟩ => by
    subst hy
    refine h1 H2 (e.trans e2) _ fun H3 e3 => h2 H3 ((e.trans e2).trans e3) _ fun H4 e4 => ⟨a, rfl, sz_of (by omega), k _ H4 ((e2.trans e3).trans e4) ⟨_, rfl, ?_⟩⟩
    have := slice_le a lo hi
    omega
theorem ep_up (h : EvP te σ H (LenLe n)) (hnm : n ≤ m) : EvP te σ H (LenLe m) := fun H1 e Q k => h H1 e _ fun y H2 e2 ⟨a, hy, hl⟩ => k y H2 e2 ⟨a, hy, Nat.le_trans hl hnm⟩
theorem ep_c {z : Str} (hz : z.length ≤ n) : EvP (tC (.str z)) σ H (LenLe n) := ep_ev ev_c fun _ _ => ⟨z, rfl, hz⟩
end
/-! ### what the document asks of a text -/
def spDueT : Sp := fun vs H Q _ => ∃ t : List Nat, vs = [sV t] ∧ t.length ≤ 30000 ∧ ∀ v H', Ex H H' → OutV H' v (readW t) → Q v H'
theorem ok_law_due (T : TX K mg) : FnOk P w K mg base CX0 3 T.f_law_due T.d_law_due ["_law_text"] spDueT := by
  refine T.h_law_due.F.ok sc_law_due (fun vs H Q E h => ?_) (fun cdv A outer s H vs Q E hr h => ?_)
  · obtain ⟨_, rfl, _⟩ := h
    rfl
  · obtain ⟨t, rfl, hl, q⟩ := h
    refine ⟨_, (pss_cons (ps_if (pt_cmpR op_gt (pe_m1 PySem.F.slot_str_count PySem.F.type_str_count mt_count (pv 0) pe_str) pe_int (nomark _))
    (pss_one (ps_ret pe_str))
    pss_nil)
  (pss_cons (ps_if (PW.pt (pw_and (pt_cmpR op_ne (pv 0) pe_str (nomark _)) (pw_and1 (pt_cmpR op_ne (pe_ix (r := rIxS) ix_str (pv 0) (pe_un un_neg pe_int) (fun _ _ => rfl)) pe_str (nomark _)))))
    (pss_one (ps_ret pe_str))
    pss_nil)
  (pss_cons (ps_setLc (i := 1) (own := [("_law_row", 2)]) (g := (gName 2)) (tt := tYes) rfl sc_law_due.nd rfl rfl (sw_true rfl rfl rfl (by decide +kernel)) (pi_list (pe_slice (r := rSlL K) sl_list (pe_split (pv 0) pe_str) po_none (po_some (pe_un un_neg pe_int)))) (blkOk_by (own := [("_law_row", 2)]) (N := N_law_due) (sc := defScope s_law_due) (by decide +kernel)) (fun _ _ _ _ _ => (pg_name (i := 2) sc_law_due.nd rfl (.inl rfl))) (fun _ _ _ _ _ => pts_nil) (fun _ _ _ _ _ => (pe_call (ok_law_job_of T) (hr.mono (by decide)) (by rfl) T.h_law_job_of.g T.h_law_job_of.F.kp T.h_law_job_of.b .nil pass0 (pa_cons (pv 2) pa_nil))))
  (pss_cons (ps_if (pt_cmpR (r := rInD K) (op_inD (room65 hr)) pe_non (pv 1) (by rfl))
    (pss_one (ps_ret pe_str))
    pss_nil)
  (pss_one (ps_ret (pv 1))))))), ?_⟩
    have hlen : (S t).length = t.length := SX.S_len t
    refine q_when (b := decide ((60 : Int) < ((t.count 10 : Nat) : Int))) (et_test (ev_op (ev_m1 (z := .int ((t.count 10 : Nat) : Int)) (b := S [10]) (ev_var rfl) ev_c fun H1 Q k => ⟨_, _, rfl, rfl, by rw [count_S]; exact k⟩) ev_c rv_I0)) (fun hb H1 e1 => ?_) (fun hb H1 e1 => ?_)
    · have hb := of_decide_eq_true hb
      have hr : readW t = .many := by
        unfold readW
        exact if_pos (by omega)
      rw [hr] at q
      exact s_ret ev_c fun H2 e2 => q _ H2 (e1.trans e2) rfl
    · have hb := of_decide_eq_false hb
      have h60 : ¬ 60 < t.count 10 := by omega
      refine q_when (b := decide (t ≠ [] ∧ t.getLast? ≠ some 10)) ?_ (fun hb H2 e2 => ?_) (fun hb H2 e2 => ?_)
      · cases hlast : t.getLast? with
        | none =>
          have e0 : t = [] := List.getLast?_eq_none_iff.mp hlast
          subst e0
          refine et_is (b := decide (([] : List Nat) ≠ [] ∧ (none : Option Nat) ≠ some 10)) (a := !decide (sV [] = sV []) && false) (et_and (et_test (ev_op (y := sV []) (ev_var rfl) ev_c (rv_ne rfl))) fun hz => ?_) (by rw [Bool.and_false]; decide)
          exact absurd hz (by decide)
        | some c =>
          have hne : t ≠ [] := fun z => by rw [z] at hlast; cases hlast
          refine et_is (a := !decide (sV t = sV []) && !decide (sV [c] = sV [10])) (et_and (et_test (ev_op (y := sV []) (ev_var rfl) ev_c (rv_ne rfl))) fun _ => et_test (ev_op (y := sV [10]) (ev_op (ev_var rfl) (by walk_at "ev") (rv_ixS (by omega) (atI_last hlast))) ev_c (rv_ne rfl))) ?_
          rw [eqS, eqS, decide_eq_false hne]
          by_cases hc : c = 10
          · subst hc; simp
          · simp [hc, hne]
      · have hb := of_decide_eq_true hb
        have hr : readW t = .row := by
          unfold readW
          rw [if_neg h60, if_pos hb]
        rw [hr] at q
        exact s_ret ev_c fun H3 e3 => q _ H3 ((e1.trans e2).trans e3) rfl
      · have hb := of_decide_eq_false hb
        have hrd : readW t = outW ((rowsW t).mapM jobW) := by
          unfold readW
          rw [if_neg h60, if_neg hb]
        have e12 := e1.trans e2
        have hnum := spl_len 10 t []
        have hsh := spl_short 10 t []
        have hcnt : t.count 10 ≤ t.length := List.count_le_length
        have hdl : (rowsW t).length ≤ t.length + 1 := by
          unfold rowsW
          rw [List.length_dropLast]
          omega
        refine q_lcOpt (ws := rowsW t) jobW ?_ (by omega) (fun _ => rfl) (fun u H3 hu e3 Q k => ?_) (fun d H3 xs e3 hd ho => ?_)
        · have := el_slN (K := K) (xs := (TL.spl [10] 0 [] t).map sV) (lo := none) (hi := some (-1)) (H := H2) (σ := [some (sV t), none, none]) (el_split (a := t) (b := [10]) (ta := tVar 0) (te := tC (sV [10])) (ev_var rfl) ev_c (by decide) (by decide) (by omega)) eo_none (eo_some (te := tUn (rU fun i => .int (-i)) (tC (.int 1))) (ev_un ev_c ru_neg))
          rw [cut_init] at this
          have e : ((TL.spl [10] 0 [] t).map sV).dropLast = (rowsW t).map sV := by
            unfold rowsW
            rw [List.map_dropLast]
          rw [e] at this
          exact this
        · have hul := hsh u (List.dropLast_subset _ hu)
          rw [List.length_nil] at hul
          refine (ea_cons (ev_var rfl) ea_nil) H3 (Ex.refl _) _ fun H4 e4 => ⟨u, rfl, by omega, fun v H5 e5 ho => k v H5 (e4.trans e5) ho⟩
        · show tSeq _ _ _ [some (sV t), some (.ref d), none] H3
          rcases mapM_cases (f := jobW) (rowsW t) with ⟨m1, m2⟩ | ⟨m1, js, m2, m3⟩
          · rw [hrd, m2] at q
            refine q_when (b := ((rowsW t).map jobW).any Option.isNone) (et_test (ev_noneIn (ev_var rfl) hd ho)) (fun _ H4 e4 => ?_) (fun hb4 H4 e4 => ?_)
            · exact s_ret ev_c fun H5 e5 => q _ H5 (((e12.trans e3).trans e4).trans e5) rfl
            · rw [m1] at hb4
              cases hb4
          · rw [hrd, m2] at q
            refine q_when (b := ((rowsW t).map jobW).any Option.isNone) (et_test (ev_noneIn (ev_var rfl) hd ho)) (fun hb4 H4 e4 => ?_) (fun _ H4 e4 => ?_)
            · rw [m1] at hb4
              cases hb4
            · rw [m3] at ho
              obtain ⟨ts, rfl, hts⟩ := ho.tps
              exact s_ret (ev_var rfl) fun H5 e5 => q _ H5 (((e12.trans e3).trans e4).trans e5) ⟨d, rfl, ts, (e4.trans e5) _ _ hd, hts.mono (e4.trans e5)⟩
/-! ### what the program answers -/
theorem kit2 (T : TX K mg) : PySem.W.kitAny K (.ref T.c_NoRow) ([T.c_BadJob, T.c_OutOfPlace].map .ref) = some false :=
  kitAny_cons T.i_NoRow_BadJob (fun _ => kitAny_cons T.i_NoRow_OutOfPlace (fun _ => kitAny_nil) (fun z => by cases z)) (fun z => by cases z)
theorem ok_law_read (T : TX K mg) : FnOk P w K mg base CX0 4 T.f_law_read T.d_law_read ["_law_text"] spDueT := by
  refine T.h_law_read.F.ok sc_law_read (fun vs H Q E h => ?_) (fun cdv A outer s H vs Q E hr h => ?_)
  · obtain ⟨_, rfl, _⟩ := h
    rfl
  · obtain ⟨t, rfl, hl, q⟩ := h
    refine ⟨_, (pss_one (ps_try_cl rfl rfl sc_law_read.nd takes0 (fun W pn xe tk _ => (pss_one (ps_ret (pe_callS (okx_read T) (hr.mono (by decide)) (by rfl) T.h_read.g T.h_read.F.kp T.h_read.b (fun σ => passAt tk σ) (pa_cons (pv 0) pa_nil))))) (.named (i := 1) rfl rfl ⟨rfl, by decide, .inl T.g_TooMany⟩ (fun a oe cls d pn hz hf => (pss_one (ps_ret (pe_ifExp (pt_val (pe_callB (id := "isinstance") (r := rIsC K a cls d) (call_isC hz hf) (by rfl) T.b_isinstance (by decide +kernel) (pa_cons (pv 1) (pa_cons (pe_glob (v := .ref T.c_RunError) (by rfl) T.g_RunError rfl) pa_nil)))) pe_str pe_str)))) (.named (i := 1) rfl rfl ⟨rfl, by decide, .inl T.g_NoRow⟩ (fun a oe cls d pn hz hf => (pss_one (ps_ret (pe_ifExp (PW.pt (pw_and (pt_val (pe_callB (id := "isinstance") (r := rIsC K a cls d) (call_isC hz hf) (by rfl) T.b_isinstance (by decide +kernel) (pa_cons (pv 1) (pa_cons (pe_bltn (v := .ty "ValueError") (by rfl) T.b_ValueError (by decide +kernel) rfl) pa_nil)))) (pw_and1 (pt_not (pt_val (pe_callB (id := "isinstance") (r := rIsCT K a cls d) (call_isCT hz hf) (by rfl) T.b_isinstance (by decide +kernel) (pa_cons (pv 1) (pa_cons (pe_tup (pa_cons (pe_glob (v := .ref T.c_BadJob) (by rfl) T.g_BadJob rfl) (pa_cons (pe_glob (v := .ref T.c_OutOfPlace) (by rfl) T.g_OutOfPlace rfl) pa_nil))) pa_nil)))))))) pe_str pe_str)))) .nil)))), ?_⟩
    refine ⟨_, rfl, t, rfl, hl, fun hr H1 e1 => ?_, fun hr H1 e1 => ?_, fun js hr p H1 e1 hT => ?_⟩
    · rw [hr] at q
      refine ⟨true, T.e_TooMany_TooMany, fun _ a _ => ?_, fun z => Bool.noConfusion z⟩
      exact s_ret (ev_if (b := true) (et_B (ev_isC T.q_TooMany T.i_TooMany_RunError (ev_var rfl) ev_c)) (fun _ => ev_c) (fun z => by cases z)) fun H2 e2 => q _ H2 (e1.trans e2) rfl
    · rw [hr] at q
      refine ⟨false, T.e_NoRow_TooMany, fun z => Bool.noConfusion z, fun _ => ⟨true, T.e_NoRow_NoRow, fun _ a _ => ?_, fun z => Bool.noConfusion z⟩⟩
      exact s_ret (ev_if (b := true && !false) (et_and (et_B (ev_isCT' T.q_NoRow T.i_NoRow_ValueError (ev_var rfl) ev_c)) fun _ => et_not (et_B (ev_isCU (Ds := [T.c_BadJob, T.c_OutOfPlace]) T.q_NoRow (kit2 T) (ev_var rfl) (eu_tup (ea_cons ev_c (ea_cons ev_c ea_nil)) (show 2 ≤ 100000 by decide))))) (fun _ => ev_c) (fun z => by cases z)) fun H2 e2 => q _ H2 (e1.trans e2) rfl
    · rw [hr] at q
      exact q _ H1 e1 ⟨p, rfl, hT⟩
/-! ### the sign, and the text changed -/
def spSign : Sp := fun vs H Q _ => ∃ c : Int, vs = [.int c] ∧ ∀ g H', Ex H H' → Q (sV [g]) H'
theorem ok_law_sign_by (T : TX K mg) : FnOk P w K mg base CX0 1 T.f_law_sign_by T.d_law_sign_by ["_law_cell"] spSign := by
  refine T.h_law_sign_by.F.ok sc_law_sign_by (fun vs H Q E h => ?_) (fun cdv A outer s H vs Q E hr h => ?_)
  · obtain ⟨_, rfl, _⟩ := h
    rfl
  · obtain ⟨c, rfl, q⟩ := h
    refine ⟨_, (pss_cons (ps_if (pt_cmpR op_eq (pe_op op_mod (pv 0) pe_int) pe_int (nomark _))
    (pss_one (ps_ret (pe_ix (r := rIxS) ix_str pe_str (pe_op op_mod (pe_op op_fdiv (pv 0) pe_int) pe_int) (fun _ _ => rfl))))
    pss_nil)
  (pss_cons (ps_set (i := 1) sc_law_sign_by.nd rfl (.inl rfl) pe_str)
  (pss_cons (ps_set (i := 1) sc_law_sign_by.nd rfl (.inl rfl) (pe_op op_add_str (pv 1) pe_str))
  (pss_one (ps_ret (pe_ix (r := rIxS) ix_str (pv 1) (pe_op op_mod (pe_op op_fdiv (pv 0) pe_int) pe_int) (fun _ _ => rfl))))))), ?_⟩
    refine q_when (b := decide (V.int (c % 2) = V.int 0)) (by walk_at "evt") (fun hb H1 e1 => ?_) (fun hb H1 e1 => ?_)
    · have hl : (("0123456789 \n" : Str)).cps.toList.length = 12 ∧ (("0123456789 \n" : Str)).length ≤ 100000 := by decide +kernel
      obtain ⟨g, hg⟩ := atI_some (l := ("0123456789 \n" : Str).cps.toList) (i := c / 2 % 12) (by omega) (by rw [hl.1]; omega)
      exact s_ret (v := sV [g]) (ev_op ev_c (by walk_at "ev") (rv_ixS hl.2 hg)) fun H2 e2 => q g H2 (e1.trans e2)
    · refine q_asg (v := .str SGA) ev_c fun H2 e2 => ?_
      refine q_asg (v := .str (SGA ++ SGB)) (ev_addS (ev_var rfl) ev_c fun H3 Q k => ⟨_, _, rfl, rfl, sz_of sg_len.2.2, k⟩) fun H3 e3 => ?_
      obtain ⟨g, hg⟩ := atI_some (l := (SGA ++ SGB).cps.toList) (i := c / 2 % 96) (by omega) (by rw [sg_len.1]; omega)
      exact s_ret (v := sV [g]) (ev_op (ev_var rfl) (by walk_at "ev") (rv_ixS sg_len.2.1 hg)) fun H4 e4 => q g H4 (((e1.trans e2).trans e3).trans e4)
theorem mul_ok (z : Str) (n : Int) (hz : z.length = 1) (h0 : 2 ≤ n) (h1 : n ≤ 100) (hm : (Txt.mul z n).length ≤ 100) (ht : PySem.Builtin.Str.tooLong (z.length * n.toNat) = false) : MulOk z n := by
  refine ⟨?_, fun _ _ => ?_, fun _ _ => ht⟩
  · rw [Bool.or_eq_false_iff]
    exact ⟨decide_eq_false (by omega), decide_eq_false (by omega)⟩
  · rw [hz]
    have : (1 : Int) ≤ (2 ^ 63 - 1) / n := by
      rw [Int.le_ediv_iff_mul_le (by omega)]
      omega
    omega
def spChanged : Sp := fun vs H Q _ => ∃ (x g : Str) (how place : Int), vs = [.str x, .int how, .int place, .str g] ∧ x.length ≤ 11000 ∧ g.length ≤ 10 ∧ ∀ (y : Str) H', y.length ≤ 30000 → Ex H H' → Q (.str y) H'
theorem ok_law_changed (T : TX K mg) : FnOk P w K mg base CX0 1 T.f_law_changed T.d_law_changed ["_law_text", "_law_how", "_law_place", "_law_sign"] spChanged := by
  refine T.h_law_changed.F.ok sc_law_changed (fun vs H Q E h => ?_) (fun cdv A outer s H vs Q E hr h => ?_)
  · obtain ⟨_, _, _, _, rfl, _⟩ := h
    rfl
  · obtain ⟨x, g, how, place, rfl, hx, hg, q⟩ := h
    refine ⟨_, (pss_cons (ps_set (i := 4) sc_law_changed.nd rfl (.inl rfl) (pe_op op_mod (pv 2) (pe_op op_add (pe_callB (id := "len") call_len_str (by rfl) T.b_len PySem.boot_len (pa_cons (pv 0) pa_nil)) pe_int)))
  (pss_cons (ps_if (pt_cmpR op_eq (pe_op op_mod (pv 1) pe_int) pe_int (nomark _))
    (pss_one (ps_ret (pe_op op_add_str (pe_slice (r := C8.rSlX) C8.sl_txt (pv 0) po_none (po_some (pv 4))) (pe_slice (r := C8.rSlX) C8.sl_txt (pv 0) (po_some (pe_op op_add (pv 4) pe_int)) po_none))))
    pss_nil)
  (pss_cons (ps_if (pt_cmpR op_eq (pe_op op_mod (pv 1) pe_int) pe_int (nomark _))
    (pss_one (ps_ret (pe_op op_add_str (pe_op op_add_str (pe_slice (r := C8.rSlX) C8.sl_txt (pv 0) po_none (po_some (pv 4))) (pv 3)) (pe_slice (r := C8.rSlX) C8.sl_txt (pv 0) (po_some (pv 4)) po_none))))
    pss_nil)
  (pss_cons (ps_if (pt_cmpR op_eq (pe_op op_mod (pv 1) pe_int) pe_int (nomark _))
    (pss_one (ps_ret (pe_op op_add_str (pe_op op_add_str (pe_slice (r := C8.rSlX) C8.sl_txt (pv 0) po_none (po_some (pv 4))) (pv 3)) (pe_slice (r := C8.rSlX) C8.sl_txt (pv 0) (po_some (pe_op op_add (pv 4) pe_int)) po_none))))
    pss_nil)
  (pss_cons (ps_if (pt_cmpR op_eq (pe_op op_mod (pv 1) pe_int) pe_int (nomark _))
    (pss_one (ps_ret (pe_op op_add_str (pe_op op_add_str (pv 0) (pe_op op_mulS pe_str pe_int)) (pe_slice (r := C8.rSlX) C8.sl_txt pe_str po_none (po_some (pe_op op_mod (pv 2) pe_int))))))
    pss_nil)
  (pss_cons (ps_set (i := 5) sc_law_changed.nd rfl (.inl rfl) (pe_lst (pa_cons pe_str (pa_cons pe_str (pa_cons pe_str (pa_cons pe_str (pa_cons pe_str (pa_cons pe_str (pa_cons pe_str (pa_cons pe_str pa_nil))))))))))
  (pss_cons (ps_set (i := 5) sc_law_changed.nd rfl (.inl rfl) (pe_op op_cat (pv 5) (pe_lst (pa_cons pe_str (pa_cons pe_str (pa_cons pe_str (pa_cons (pe_op op_add_str (pe_op op_add_str pe_str (pe_op op_mulS pe_str pe_int)) pe_str) (pa_cons (pe_op op_add_str (pe_op op_add_str pe_str (pe_op op_mulS pe_str pe_int)) pe_str) pa_nil))))))))
  (pss_cons (ps_set (i := 5) sc_law_changed.nd rfl (.inl rfl) (pe_op op_cat (pv 5) (pe_lst (pa_cons (pe_op op_add_str (pe_op op_add_str pe_str (pe_op op_mulS pe_str pe_int)) pe_str) (pa_cons (pe_op op_add_str (pe_op op_add_str pe_str (pe_op op_mulS pe_str pe_int)) pe_str) pa_nil)))))
  (pss_one (ps_ret (pe_op op_add_str (pe_op op_add_str (pe_slice (r := C8.rSlX) C8.sl_txt (pv 0) po_none (po_some (pe_op op_add (pe_m1 PySem.F.slot_str_find PySem.F.type_str_find mt_find (pv 0) pe_str) pe_int))) (pe_ix (r := rIxL K) ix_list (pv 5) (pe_op op_mod (pv 2) pe_int) (fun _ _ => rfl))) (pe_slice (r := C8.rSlX) C8.sl_txt (pv 0) (po_some (pe_op op_add (pe_m1 PySem.F.slot_str_find PySem.F.type_str_find mt_find (pv 0) pe_str) pe_int)) po_none)))))))))))), ?_⟩
    have add : ∀ (a b : Str) (H1 : Hp) (Q : VK), a.length + b.length ≤ 100000 → Q (.str (a ++ b)) H1 → ∃ i j, V.str a = .str i ∧ V.str b = .str j ∧ i.length + j.length ≤ sizeLine ∧ Q (.str (i ++ j)) H1 := fun a b H1 Q hz k => ⟨a, b, rfl, rfl, sz_of hz, k⟩
    have vx : ∀ {σ : St} {H1 : Hp}, σ[0]? = some (some (.str x)) → EvP (tVar 0) σ H1 (LenLe 11000) := fun hs => ep_ev (ev_var hs) fun _ _ => ⟨x, rfl, hx⟩
    have vg : ∀ {σ : St} {H1 : Hp}, σ[3]? = some (some (.str g)) → EvP (tVar 3) σ H1 (LenLe 10) := fun hs => ep_ev (ev_var hs) fun _ _ => ⟨g, rfl, hg⟩
    have mulP : ∀ {σ : St} {H1 : Hp} {z : Str} {n : Int}, MulOk z n → (Txt.mul z n).length ≤ 61 → EvP (tOp rMulS (tC (.str z)) (tC (.int n))) σ H1 (LenLe 61) := fun {σ H1 z n} hm hl => fun H2 e Q k => ⟨z, n, rfl, rfl, hm, k _ H2 (Ex.refl H2) ⟨_, rfl, hl⟩⟩
    have m1 : MulOk "\n" 61 := mul_ok _ _ (by decide) (by decide) (by decide) (by decide +kernel) (by decide +kernel)
    have m2 : MulOk "9" 60 := mul_ok _ _ (by decide) (by decide) (by decide) (by decide +kernel) (by decide +kernel)
    have m3 : MulOk "9" 61 := mul_ok _ _ (by decide) (by decide) (by decide) (by decide +kernel) (by decide +kernel)
    have l1 : (Txt.mul "\n" 61).length ≤ 61 := by decide +kernel
    have l2 : (Txt.mul "9" 60).length ≤ 61 := by decide +kernel
    have l3 : (Txt.mul "9" 61).length ≤ 61 := by decide +kernel
    have fin : ∀ {H0 : Hp} {n : Nat} {te : TE} {σ : St} {D : Ends}, D.rt = Q → Ex H H0 → n ≤ 30000 → EvP te σ H0 (LenLe n) → tRet te D σ H0 := fun {H0 n te σ D} hD e hn h => s_retP h fun y H2 e2 ⟨z, hz, hl⟩ => by
      rw [hz, hD]
      exact q z H2 (by omega) (e.trans e2)
    refine q_asg (v := .int (place % ((x.length : Int) + 1))) (ev_op (ev_var rfl) (ev_op (ev_c1 (ev_var rfl) fun H1 Q k => ⟨x, rfl, sz_of (by omega), k⟩) ev_c rv_I0) (rv_I (by show (0 : Int) < (x.length : Int) + 1; omega))) fun H1 e1 => ?_
    generalize place % ((x.length : Int) + 1) = at_
    refine q_when (b := decide (V.int (how % 8) = V.int 1)) (by walk_at "evt") (fun _ H2 e2 => ?_) (fun _ H2 e2 => ?_)
    · exact fin rfl (e1.trans e2) (show 22000 ≤ 30000 by decide) (ep_addS (n := 11000) (m := 11000) (ep_slS (vx rfl) eo_none (eo_some (ev_var rfl)) (by omega)) (ep_slS (vx rfl) (eo_some (i := at_ + 1) (by walk_at "ev")) eo_none (by omega)) add (by omega))
    refine q_when (b := decide (V.int (how % 8) = V.int 2)) (by walk_at "evt") (fun _ H3 e3 => ?_) (fun _ H3 e3 => ?_)
    · exact fin rfl ((e1.trans e2).trans e3) (show 11000 + 10 + 11000 ≤ 30000 by decide) (ep_addS (n := 11000 + 10) (m := 11000) (ep_addS (n := 11000) (m := 10) (ep_slS (vx rfl) eo_none (eo_some (ev_var rfl)) (by omega)) (vg rfl) add (by omega)) (ep_slS (vx rfl) (eo_some (ev_var rfl)) eo_none (by omega)) add (by omega))
    refine q_when (b := decide (V.int (how % 8) = V.int 3)) (by walk_at "evt") (fun _ H4 e4 => ?_) (fun _ H4 e4 => ?_)
    · exact fin rfl (((e1.trans e2).trans e3).trans e4) (show 11000 + 10 + 11000 ≤ 30000 by decide) (ep_addS (n := 11000 + 10) (m := 11000) (ep_addS (n := 11000) (m := 10) (ep_slS (vx rfl) eo_none (eo_some (ev_var rfl)) (by omega)) (vg rfl) add (by omega)) (ep_slS (vx rfl) (eo_some (i := at_ + 1) (by walk_at "ev")) eo_none (by omega)) add (by omega))
    refine q_when (b := decide (V.int (how % 8) = V.int 4)) (by walk_at "evt") (fun _ H5 e5 => ?_) (fun _ H5 e5 => ?_)
    · exact fin rfl ((((e1.trans e2).trans e3).trans e4).trans e5) (show 11000 + 61 + 10 ≤ 30000 by decide) (ep_addS (n := 11000 + 61) (m := 10) (ep_addS (n := 11000) (m := 61) (vx rfl) (mulP m1 l1) add (by omega)) (ep_slS (ep_c (by decide)) eo_none (eo_some (i := place % 2) (by walk_at "ev")) (by omega)) add (by omega))
    have e15 := (((e1.trans e2).trans e3).trans e4).trans e5
    have nine : ∀ {σ : St} {H1 : Hp} {a z : Str} {n : Int}, MulOk "9" n → (Txt.mul "9" n).length ≤ 61 → a.length ≤ 30 → z.length ≤ 30 → EvP (tOp (fun x y H Q => ∃ i j, x = .str i ∧ y = .str j ∧ i.length + j.length ≤ sizeLine ∧ Q (.str (i ++ j)) H) (tOp (fun x y H Q => ∃ i j, x = .str i ∧ y = .str j ∧ i.length + j.length ≤ sizeLine ∧ Q (.str (i ++ j)) H) (tC (.str a)) (tOp rMulS (tC (.str "9")) (tC (.int n)))) (tC (.str z))) σ H1 (LenLe 121) := fun {σ H1 a z n} hm hl ha hz =>
      ep_addS (n := 91) (m := 30) (ep_addS (n := 30) (m := 61) (ep_c ha) (mulP hm hl) add (by omega)) (ep_c hz) add (by omega)
    have cst : ∀ {σ : St} {H1 : Hp} {z : Str}, z.length ≤ 121 → EvP (tC (.str z)) σ H1 (LenLe 121) := fun hz => ep_c hz
    have st := st_LenLe 121
    refine q_asgPs (n := 8) st (eps_cons st (cst (by decide)) (eps_cons st (cst (by decide)) (eps_cons st (cst (by decide)) (eps_cons st (cst (by decide)) (eps_cons st (cst (by decide)) (eps_cons st (cst (by decide)) (eps_cons st (cst (by decide)) (eps_cons st (cst (by decide)) eps_nil)))))))) (by omega) fun p1 H6 e6 h6 => ?_
    refine q_asgCat (n := 8) (m := 5) st (ev_var rfl) h6 (eps_cons st (cst (by decide)) (eps_cons st (cst (by decide)) (eps_cons st (cst (by decide)) (eps_cons st (nine m2 l2 (by decide) (by decide)) (eps_cons st (nine m3 l3 (by decide) (by decide)) eps_nil))))) (by omega) fun p2 H7 e7 h7 => ?_
    refine q_asgCat (n := 13) (m := 2) st (ev_var rfl) h7 (eps_cons st (nine m2 l2 (by decide) (by decide)) (eps_cons st (nine m3 l3 (by decide) (by decide)) eps_nil)) (by omega) fun p3 H8 e8 h8 => ?_
    obtain ⟨i, hi, hi2⟩ : ∃ i : Nat, place % 15 = (i : Int) ∧ i < 15 := ⟨(place % 15).toNat, by omega, by omega⟩
    have fnd : ∀ {H1 : Hp}, EvO (tPart (tOp (rI0 fun i j => V.int (i + j)) (tM1 (fun x xs H Q => ∃ a b, x = .str a ∧ xs = [.str b] ∧ Q (.int (Txt.find a b)) H) (tVar 0) (tC (.str "\n"))) (tC (.int 1)))) [some (.str x), some (.int how), some (.int place), some (.str g), some (.int at_), some (.ref p3)] H1 (some (Txt.find x "\n" + 1)) :=
      eo_some (ev_op (ev_m1 (ev_var rfl) ev_c fun H5 Q k => ⟨_, _, rfl, rfl, k⟩) ev_c rv_I0)
    exact fin rfl (((e15.trans e6).trans e7).trans e8) (show 11000 + 121 + 11000 ≤ 30000 by decide) (ep_addS (n := 11000 + 121) (m := 11000) (ep_addS (n := 11000) (m := 121) (ep_slS (vx rfl) eo_none fnd (by omega)) (ep_at (i := i) (n := 15) st (ev_var rfl) (ev_is (v := .int (place % 15)) (by walk_at "ev") (by rw [hi])) h8 hi2) add (by omega)) (ep_slS (vx rfl) fnd eo_none (by omega)) add (by omega))
end
end DLL
namespace DLL
open PySem PySem.Spec PyProof.Rows L2 Evl DL
def figV : V → V
  | .int n => sV (numI n)
  | _ => .non
theorem okj_of {j : T3} (h : JobOk j) : okJ j = true := soundB_iff.mpr h.s
theorem shape_many : SeqAt.shaped (.str "many") = true := by decide +kernel
theorem shape_row : SeqAt.shaped (.str "row") = true := by decide +kernel
section
variable {P : Program} {w : World} {K : PySem.W.Frag} {mg : Str → Option Value} {base : Heap} {H : Hp} {σ : St} {ta tb te tl : TE} {tA tA2 : TA} {E E2 : XK}
theorem out_dp {v : V} {o : Out} (h : OutV H v o) : ∃ d, Dp K H v d ∧ SeqAt.shaped d = true ∧ PyData.eqv d d = true ∧ ∀ v', OutV H v' o → Dp K H v' d := by
  cases o with
  | many =>
    cases h
    exact ⟨.str "many", .str _, shape_many, by decide +kernel, fun v' h' => by cases h'; exact .str _⟩
  | row =>
    cases h
    exact ⟨.str "row", .str _, shape_row, by decide +kernel, fun v' h' => by cases h'; exact .str _⟩
  | jobs js =>
    obtain ⟨p, rfl, hT⟩ := h
    exact ⟨_, hT.dp, sh_trip js, eqv_trip js, fun v' h' => by
      obtain ⟨p', rfl, hT'⟩ := h'
      exact hT'.dp⟩
theorem ev_same {t : List Nat} (hl : t.length ≤ 30000) (h1 : EvA tA σ H [sV t]) (h2 : EvA tA2 σ H [sV t]) : Ev (tOp (rEqD K) (tCall spDueT [] E tA) (tCall spDueT [] E2 tA2)) σ H (.bl true) := fun H1 e Q k =>
  h1 H1 e _ fun H2 e2 => ⟨t, rfl, hl, fun v H3 e3 ho => h2 H3 ((e.trans e2).trans e3) _ fun H4 e4 => ⟨t, rfl, hl, fun v' H5 e5 ho' => by
    obtain ⟨d, d1, d2, d3, d4⟩ := out_dp (K := K) (ho.mono (e4.trans e5))
    refine ⟨d, d, d1, d4 _ ho', d2, d2, ?_⟩
    rw [d3]
    exact k H5 (((e2.trans e3).trans e4).trans e5)⟩⟩
theorem et_readNe {t : List Nat} {js : List T3} {q : Addr} (hl : t.length ≤ 30000) (hr : readW t = .jobs js) (h1 : EvA tA σ H [sV t]) (hb : Ev tb σ H (.ref q)) (hT : TL H q js) : EvT (tTest (tOp (rNeD K) (tCall spDueT [] E tA) tb)) σ H false := fun H1 e Q k =>
  h1 H1 e _ fun H2 e2 => ⟨t, rfl, hl, fun v H3 e3 ho => by
    rw [hr] at ho
    obtain ⟨p, rfl, hp⟩ := ho
    refine hb H3 ((e.trans e2).trans e3) _ fun H4 e4 => ?_
    have e14 := ((e.trans e2).trans e3).trans e4
    refine rv_neT (K := K) (hp.mono e4) (hT.mono e14) H4 (Ex.refl _) _ fun H5 e5 => ⟨_, rfl, ?_⟩
    rw [decide_eq_true rfl]
    exact k H5 (((e2.trans e3).trans e4).trans e5)⟩
set_option maxHeartbeats 0 in
theorem ok_law {f : Addr} {fd : FuncData} (F : Fun K "law" "law" s_law f fd) (T : TX K mg) : FnOk P w K mg base CX0 5 f fd ["_law_script"] (spLaw K) := by
  refine F.ok sc_law (fun vs H Q E h => ?_) (fun cdv A outer s H vs Q E hr h => ?_)
  · obtain ⟨_, _, rfl, _⟩ := h
    rfl
  · obtain ⟨a, ns, rfl, hS, hn, q⟩ := h
    refine ⟨_, (pss_cons (ps_set (i := 1) sc_law.nd rfl (.inl rfl) (pe_call (ok_law_jobs_by T) (hr.mono (by decide)) (by rfl) T.h_law_jobs_by.g T.h_law_jobs_by.F.kp T.h_law_jobs_by.b .nil pass0 (pa_cons (pv 0) (pa_cons pe_int pa_nil))))
  (pss_cons (ps_set (i := 2) sc_law.nd rfl (.inl rfl) (pe_callTy (T := "list") (r := Evl.rListS K) call_list_of (by rfl) T.b_list (by decide +kernel) (pa_cons (pv 1) pa_nil)))
  (pss_cons (ps_set (i := 3) sc_law.nd rfl (.inl rfl) (pe_join pe_str (pe_lc (own := [("_law_job", 6)]) (g := (gName 6)) (tt := tYes) rfl sc_law.nd (pi_list (pv 1)) (blkOk_by (own := [("_law_job", 6)]) (N := N_law) (sc := defScope s_law) (by decide +kernel)) (fun _ _ _ _ _ => (pg_name (i := 6) sc_law.nd rfl (.inl rfl))) (fun _ _ _ _ _ => pts_nil) (fun _ _ _ _ _ => (pe_op op_add_str (pe_m1 (r := rJn K) PySem.F.slot_str_join PySem.F.type_str_join mt_join pe_str (pe_lc (wi := iTup K (tVar 6)) (own := [("_law_number_here", 7)]) (g := (gName 7)) (tt := tYes) rfl sc_law.nd (pi_tup (pv 6)) (blkOk_by (own := [("_law_number_here", 7)]) (N := N_law) (sc := _) (by kernel_rfl)) (fun _ _ _ _ _ => (pg_name (i := 7) sc_law.nd rfl (.inl rfl))) (fun _ _ _ _ _ => pts_nil) (fun _ _ _ _ _ => (pe_call (ok_law_figures T) (hr.mono (by decide)) (by rfl) T.h_law_figures.g T.h_law_figures.F.kp T.h_law_figures.b .nil pass0 (pa_cons (pv 7) pa_nil))))) pe_str)))))
  (pss_cons (ps_set (i := 4) sc_law.nd rfl (.inl rfl) (pe_call (ok_written T) (hr.mono (by decide)) (by rfl) T.h_written.g T.h_written.F.kp T.h_written.b .nil pass0 (pa_cons (pv 2) pa_nil)))
  (pss_cons (ps_if (PW.pt (pw_or (pt_not (pt_val (pe_callB (id := "isinstance") (r := rIsi K) call_isi (by rfl) T.b_isinstance (by decide +kernel) (pa_cons (pv 4) (pa_cons (pe_bltn (v := .ty "str") (by rfl) T.b_str (by decide +kernel) rfl) pa_nil))))) (pw_or (pt_cmpR op_ne (pv 4) (pv 3) (nomark _)) (pw_or (pt_cmpR (r := rNeD K) (op_neD hr.units) (pv 2) (pv 1) (nomark _)) (pw_or1 (pt_cmpR (r := rNeD K) (op_neD hr.units) (pe_call (ok_law_read T) (hr.mono (by decide)) (by rfl) T.h_law_read.g T.h_law_read.F.kp T.h_law_read.b .nil pass0 (pa_cons (pv 3) pa_nil)) (pv 1) (nomark _)))))))
    (pss_one (ps_ret pe_bl))
    pss_nil)
  (pss_cons (ps_set (i := 5) sc_law.nd rfl (.inl rfl) (pe_call (ok_law_sign_by T) (hr.mono (by decide)) (by rfl) T.h_law_sign_by.g T.h_law_sign_by.F.kp T.h_law_sign_by.b .nil pass0 (pa_cons (pe_call (ok_law_cell_at T) (hr.mono (by decide)) (by rfl) T.h_law_cell_at.g T.h_law_cell_at.F.kp T.h_law_cell_at.b .nil pass0 (pa_cons (pv 0) (pa_cons pe_int pa_nil))) pa_nil)))
  (pss_cons (ps_if (pt_cmpR op_eq (pe_op op_mod (pe_call (ok_law_cell_at T) (hr.mono (by decide)) (by rfl) T.h_law_cell_at.g T.h_law_cell_at.F.kp T.h_law_cell_at.b .nil pass0 (pa_cons (pv 0) (pa_cons pe_int pa_nil))) pe_int) pe_int (nomark _))
    (pss_one (ps_set (i := 3) sc_law.nd rfl (.inl rfl) (pe_call (ok_law_changed T) (hr.mono (by decide)) (by rfl) T.h_law_changed.g T.h_law_changed.F.kp T.h_law_changed.b .nil pass0 (pa_cons (pv 3) (pa_cons (pe_op op_fdiv (pe_call (ok_law_cell_at T) (hr.mono (by decide)) (by rfl) T.h_law_cell_at.g T.h_law_cell_at.F.kp T.h_law_cell_at.b .nil pass0 (pa_cons (pv 0) (pa_cons pe_int pa_nil))) pe_int) (pa_cons (pe_call (ok_law_cell_at T) (hr.mono (by decide)) (by rfl) T.h_law_cell_at.g T.h_law_cell_at.F.kp T.h_law_cell_at.b .nil pass0 (pa_cons (pv 0) (pa_cons pe_int pa_nil))) (pa_cons (pv 5) pa_nil)))))))
    pss_nil)
  (pss_one (ps_ret (pe_cmpR (r := rEqD K) (op_eqD hr.units) (pe_call (ok_law_read T) (hr.mono (by decide)) (by rfl) T.h_law_read.g T.h_law_read.F.kp T.h_law_read.b .nil pass0 (pa_cons (pv 3) pa_nil)) (pe_call (ok_law_due T) (hr.mono (by decide)) (by rfl) T.h_law_due.g T.h_law_due.F.kp T.h_law_due.b .nil pass0 (pa_cons (pv 3) pa_nil)) (nomark _))))))))))), ?_⟩
    refine q_asgC (ea_cons (ev_var rfl) (ea_cons ev_c ea_nil)) fun H1 e1 => ⟨a, ns, 3, rfl, ex_l e1 hS, hn, by decide, fun p H2 js _ e2 hT hl hJ => ?_⟩
    refine q_asgTL (etl_list (ev_var rfl) hT) fun p2 H3 _ e3 hT2 => ?_
    have hsm : ∀ j ∈ js, Small3 j := fun j hj => small_of (hJ j hj)
    have hz := textL_len hsm
    have hT3 := hT.mono e3
    refine q_asg (v := sV (textL js)) ?_ fun H4 e4 => ?_
    · have hlc := el_lcTL (K := K) (σ := [some (.ref a), some (.ref p), some (.ref p2), none, none, none, none, none]) (H := H3) (g := gName 6) (t' := tYes)
        (te := tOp (fun x y H Q => ∃ i j, x = .str i ∧ y = .str j ∧ i.length + j.length ≤ sizeLine ∧ Q (.str (i ++ j)) H) (tM1 (rJn K) (tC (sV [32])) (tLc (iTup K (tVar 6)) (gName 7) tYes (tCall spFig [] E0 (tCons (tVar 7) tNil)) [7])) (tC (sV [10]))) (tl := tVar 1) (vs := [6])
        (fun _ => true) (fun j => sV (rowL j)) (fun j u => [some (.ref a), some (.ref p), some (.ref p2), none, none, none, some (.ref u), none]) (ev_var rfl) hT3 (by omega) (fun j u H1 Q' hu hq => hq) (fun j u => rfl) (fun j u H1 _ _ _ => evt_yes)
        (fun j u H1 hj e5 hu _ => by
          have hs := hsm j hj
          have n1 := numI_len hs.c1
          have n2 := numI_len hs.l1
          have n3 := numI_len hs.d1
          have inner : EvL (tLc (iTup K (tVar 6)) (gName 7) tYes (tCall spFig [] E0 (tCons (tVar 7) tNil)) [7]) [some (.ref a), some (.ref p), some (.ref p2), none, none, none, some (.ref u), none] H1 (([numI j.1, numI j.2.1, numI j.2.2].map S).map V.str) := by
            refine el_lcU (xs := tv j) figV (ev_var rfl) (SqT.of hu) (show 3 ≤ 40000 by decide) (fun _ => rfl) fun x H6 hx e6 => ?_
            unfold tv at hx
            simp only [List.mem_cons, List.not_mem_nil, or_false] at hx
            rcases hx with rfl | rfl | rfl
            · exact ev_fig (ea_cons (ev_var rfl) ea_nil) hs.c0 hs.c1
            · exact ev_fig (ea_cons (ev_var rfl) ea_nil) hs.l0 hs.l1
            · exact ev_fig (ea_cons (ev_var rfl) ea_nil) hs.d0 hs.d1
          refine ev_is (v := .str (S (bodyL j) ++ S [10])) (ev_addS (ev_is (v := .str (Txt.join (S [32]) ([numI j.1, numI j.2.1, numI j.2.2].map S))) (ev_joinN (K := K) ev_c inner ?_) (by rw [SX.join_S]; rfl)) ev_c fun H7 Q k => ⟨_, _, rfl, rfl, sz_of ?_, k⟩) (by rw [SX.S_cat, ← row_body])
          · rw [SX.lens]
            show (numI j.1).length + ((numI j.2.1).length + ((numI j.2.2).length + 0)) + 3 * 1 ≤ _
            omega
          · rw [SX.S_len]
            show _ + 1 ≤ _
            unfold bodyL
            rw [List.length_append, List.length_cons, List.length_append, List.length_cons]
            omega)
      rw [filter_yes] at hlc
      refine ev_is (v := .str (Txt.join Str.empty ((js.map rowL).map S))) (ev_joinN (K := K) ev_c (ys := (js.map rowL).map S) ?_ ?_) (congrArg V.str (join_text js))
      · rw [List.map_map, List.map_map]
        exact hlc
      · rw [sum_lens]
        show _ + _ * 0 ≤ _
        omega
    · have hT24 := hT2.mono e4
      have hT14 := hT3.mono e4
      refine q_asg (ev_written (ea_cons (ev_var rfl) ea_nil) hT24 hl hJ) fun H5 e5 => ?_
      have hz2 : (textL js).length ≤ 11000 := by omega
      have hrd : readW (textL js) = .jobs js := read_text hl fun j hj => ⟨hsm j hj, okj_of (hJ j hj)⟩
      refine q_when (b := !true || (!decide (sV (textL js) = sV (textL js)) || (!decide (js = js) || false))) (et_or (et_not (et_B (ev_isi (ev_var rfl) (fun H1 _ => .str _) (kit_ty (by decide +kernel)) ev_c))) fun _ => et_or (et_test (ev_op (ev_var rfl) (ev_var rfl) (rv_ne rfl))) fun _ =>
        et_or (et_test (ev_op (ev_var rfl) (ev_var rfl) (rv_neT (hT24.mono e5) (hT14.mono e5)))) fun _ => et_readNe (by omega) hrd (ea_cons (ev_var rfl) ea_nil) (ev_var rfl) (hT14.mono e5)) (fun hb H6 e6 => ?_) (fun _ H6 e6 => ?_)
      · rw [decide_eq_true rfl, decide_eq_true rfl] at hb
        cases hb
      · have cell : ∀ (H9 : Hp) (σ : St) (k : Nat) (E : XK) (z : Int), Ex H H9 → σ[0]? = some (some (.ref a)) → z = (k : Int) → Ev (tCall (spCellAt K) [] E (tCons (tVar 0) (tCons (tC (.int z)) tNil))) σ H9 (.int (ns.getD k 0)) := fun H9 σ k E z e hs hz => by
          subst hz
          exact ev_cell (ea_cons (ev_var hs) (ea_cons ev_c ea_nil)) (ex_l e hS)
        have e06 := ((((e1.trans e2).trans e3).trans e4).trans e5).trans e6
        refine q_asgC (ea_cons (cell _ _ 2 _ _ e06 rfl rfl) ea_nil) fun H7 e7 => ⟨ns.getD 2 0, rfl, fun g H8 e8 => ?_⟩
        have e08 := (e06.trans e7).trans e8
        have last : ∀ (y : Str) (H9 : Hp) (tz : TE) (D : Ends) (E E2 : XK), D.rt = Q → y.length ≤ 30000 → tRet (tOp (rEqD K) (tCall spDueT [] E (tCons (tVar 3) tNil)) (tCall spDueT [] E2 (tCons (tVar 3) tNil))) D [some (.ref a), some (.ref p), some (.ref p2), some (.str y), some (sV (textL js)), some (sV [g]), none, none] H9 := fun y H9 tz D E E2 hD hy => by
          have ey : V.str y = sV y.cps.toList := congrArg V.str (SX.S_tl y).symm
          rw [ey]
          refine s_ret (v := .bl true) (ev_same (t := y.cps.toList) ?_ (ea_cons (ev_var rfl) ea_nil) (ea_cons (ev_var rfl) ea_nil)) fun H10 _ => ?_
          · rw [← SX.S_len, SX.S_tl]
            exact hy
          · rw [hD]
            exact q H10
        refine q_when (b := decide (V.int (ns.getD 0 0 % 2) = V.int 1)) (et_test (ev_op (ev_op (cell _ _ 0 _ _ e08 rfl rfl) ev_c (rv_I (show (0 : Int) < 2 by decide))) ev_c (rv_eq rfl))) (fun _ H9 e9 => ?_) (fun _ H9 e9 => ?_)
        · have e09 := e08.trans e9
          refine s_asgC (ea_cons (ev_var rfl) (ea_cons (ev_op (cell _ _ 0 _ _ e09 rfl rfl) ev_c (rv_I ⟨by decide, by decide⟩)) (ea_cons (cell _ _ 1 _ _ e09 rfl rfl) (ea_cons (ev_var rfl) ea_nil)))) fun H10 e10 => ⟨S (textL js), S [g], _, _, rfl, by rw [SX.S_len]; omega, by rw [SX.S_len]; show 1 ≤ 10; decide, fun y H11 hy e11 => ?_⟩
          exact last y H11 (tC .non) _ _ _ rfl hy
        · exact last (S (textL js)) H9 (tC .non) _ _ _ rfl (by rw [SX.S_len]; omega)
end
end DLL
namespace DLL
open PySem PySem.Spec PyProof.Rows L2 Evl DL
theorem all_mk {l : PySem.W.OpenLaw} {w : World} {K : PySem.W.Frag} {h : Heap} {mg : Str → Option Value} {fa f0 f1 f2 f3 f4 f5 f6 f7 f8 f9 f10 f11 f12 f13 f14 f15 f16 f17 f18 f19 f20 cc_TooMany cc_BadJob cc_OutOfPlace cc_NoRow cc_RunError : Addr} (X : K.In h) (G : h.Ns mainGlobals mg) (hfa : mg "law" = some (.ref fa))
    {od0 an0 od1 an1 od2 an2 od3 an3 od4 an4 od5 an5 od6 an6 od7 an7 od8 an8 od9 an9 od10 an10 od11 an11 od12 an12 od13 an13 od14 an14 od15 an15 od16 an16 od17 an17 od18 an18 od19 an19 od20 an20 : Option Addr} {sl0 sl1 sl2 sl3 sl4 sl5 sl6 sl7 sl8 sl9 sl10 sl11 sl12 sl13 sl14 sl15 sl16 sl17 sl18 sl19 sl20 : Array (Option Value)} {oc0 kV0 dc0 pm0 cd0 ct0 oc1 kV1 dc1 pm1 cd1 ct1 oc2 kV2 dc2 pm2 cd2 ct2 oc3 kV3 dc3 pm3 cd3 ct3 oc4 kV4 dc4 pm4 cd4 ct4 oc5 kV5 dc5 pm5 cd5 ct5 oc6 kV6 dc6 pm6 cd6 ct6 oc7 kV7 dc7 pm7 cd7 ct7 oc8 kV8 dc8 pm8 cd8 ct8 oc9 kV9 dc9 pm9 cd9 ct9 oc10 kV10 dc10 pm10 cd10 ct10 oc11 kV11 dc11 pm11 cd11 ct11 oc12 kV12 dc12 pm12 cd12 ct12 oc13 kV13 dc13 pm13 cd13 ct13 oc14 kV14 dc14 pm14 cd14 ct14 oc15 kV15 dc15 pm15 cd15 ct15 oc16 kV16 dc16 pm16 cd16 ct16 oc17 kV17 dc17 pm17 cd17 ct17 oc18 kV18 dc18 pm18 cd18 ct18 oc19 kV19 dc19 pm19 cd19 ct19 oc20 kV20 dc20 pm20 cd20 ct20 : Value} {tk_LIMIT tk_FIGURES tk_MOST_FIGURES : Tok}
    (a0 : PySem.W.nsIn K mainGlobals "sound" = some (some (.ref f0))) (l0 : K.lookup f0 = some ⟨oc0, od0, .func (PySem.W.fnOf "sound" "sound" (defArgs s_sound) (defBody s_sound) (defScope s_sound) .none kV0 dc0 pm0 an0 cd0 ct0), sl0⟩) (c0 : PySem.W.codeIn K cd0 "sound" = true) (k0 : PySem.W.keepIn K (.ref f0) = true)
    (a1 : PySem.W.nsIn K mainGlobals "check_jobs" = some (some (.ref f1))) (l1 : K.lookup f1 = some ⟨oc1, od1, .func (PySem.W.fnOf "check_jobs" "check_jobs" (defArgs s_check_jobs) (defBody s_check_jobs) (defScope s_check_jobs) .none kV1 dc1 pm1 an1 cd1 ct1), sl1⟩) (c1 : PySem.W.codeIn K cd1 "check_jobs" = true) (k1 : PySem.W.keepIn K (.ref f1) = true)
    (a2 : PySem.W.nsIn K mainGlobals "written" = some (some (.ref f2))) (l2 : K.lookup f2 = some ⟨oc2, od2, .func (PySem.W.fnOf "written" "written" (defArgs s_written) (defBody s_written) (defScope s_written) .none kV2 dc2 pm2 an2 cd2 ct2), sl2⟩) (c2 : PySem.W.codeIn K cd2 "written" = true) (k2 : PySem.W.keepIn K (.ref f2) = true)
    (a3 : PySem.W.nsIn K mainGlobals "read" = some (some (.ref f3))) (l3 : K.lookup f3 = some ⟨oc3, od3, .func (PySem.W.fnOf "read" "read" (defArgs s_read) (defBody s_read) (defScope s_read) .none kV3 dc3 pm3 an3 cd3 ct3), sl3⟩) (c3 : PySem.W.codeIn K cd3 "read" = true) (k3 : PySem.W.keepIn K (.ref f3) = true)
    (a4 : PySem.W.nsIn K mainGlobals "_job_of_row" = some (some (.ref f4))) (l4 : K.lookup f4 = some ⟨oc4, od4, .func (PySem.W.fnOf "_job_of_row" "_job_of_row" (defArgs s_job_of_row) (defBody s_job_of_row) (defScope s_job_of_row) .none kV4 dc4 pm4 an4 cd4 ct4), sl4⟩) (c4 : PySem.W.codeIn K cd4 "_job_of_row" = true) (k4 : PySem.W.keepIn K (.ref f4) = true)
    (a5 : PySem.W.nsIn K mainGlobals "_is_number" = some (some (.ref f5))) (l5 : K.lookup f5 = some ⟨oc5, od5, .func (PySem.W.fnOf "_is_number" "_is_number" (defArgs s_is_number) (defBody s_is_number) (defScope s_is_number) .none kV5 dc5 pm5 an5 cd5 ct5), sl5⟩) (c5 : PySem.W.codeIn K cd5 "_is_number" = true) (k5 : PySem.W.keepIn K (.ref f5) = true)
    (a6 : PySem.W.nsIn K mainGlobals "_law_cell_at" = some (some (.ref f6))) (l6 : K.lookup f6 = some ⟨oc6, od6, .func (PySem.W.fnOf "_law_cell_at" "_law_cell_at" (defArgs s_law_cell_at) (defBody s_law_cell_at) (defScope s_law_cell_at) .none kV6 dc6 pm6 an6 cd6 ct6), sl6⟩) (c6 : PySem.W.codeIn K cd6 "_law_cell_at" = true) (k6 : PySem.W.keepIn K (.ref f6) = true)
    (a7 : PySem.W.nsIn K mainGlobals "_law_mixed" = some (some (.ref f7))) (l7 : K.lookup f7 = some ⟨oc7, od7, .func (PySem.W.fnOf "_law_mixed" "_law_mixed" (defArgs s_law_mixed) (defBody s_law_mixed) (defScope s_law_mixed) .none kV7 dc7 pm7 an7 cd7 ct7), sl7⟩) (c7 : PySem.W.codeIn K cd7 "_law_mixed" = true) (k7 : PySem.W.keepIn K (.ref f7) = true)
    (a8 : PySem.W.nsIn K mainGlobals "_law_job_by" = some (some (.ref f8))) (l8 : K.lookup f8 = some ⟨oc8, od8, .func (PySem.W.fnOf "_law_job_by" "_law_job_by" (defArgs s_law_job_by) (defBody s_law_job_by) (defScope s_law_job_by) .none kV8 dc8 pm8 an8 cd8 ct8), sl8⟩) (c8 : PySem.W.codeIn K cd8 "_law_job_by" = true) (k8 : PySem.W.keepIn K (.ref f8) = true)
    (a9 : PySem.W.nsIn K mainGlobals "_law_count_by" = some (some (.ref f9))) (l9 : K.lookup f9 = some ⟨oc9, od9, .func (PySem.W.fnOf "_law_count_by" "_law_count_by" (defArgs s_law_count_by) (defBody s_law_count_by) (defScope s_law_count_by) .none kV9 dc9 pm9 an9 cd9 ct9), sl9⟩) (c9 : PySem.W.codeIn K cd9 "_law_count_by" = true) (k9 : PySem.W.keepIn K (.ref f9) = true)
    (a10 : PySem.W.nsIn K mainGlobals "_law_wide_by" = some (some (.ref f10))) (l10 : K.lookup f10 = some ⟨oc10, od10, .func (PySem.W.fnOf "_law_wide_by" "_law_wide_by" (defArgs s_law_wide_by) (defBody s_law_wide_by) (defScope s_law_wide_by) .none kV10 dc10 pm10 an10 cd10 ct10), sl10⟩) (c10 : PySem.W.codeIn K cd10 "_law_wide_by" = true) (k10 : PySem.W.keepIn K (.ref f10) = true)
    (a11 : PySem.W.nsIn K mainGlobals "_law_tight_by" = some (some (.ref f11))) (l11 : K.lookup f11 = some ⟨oc11, od11, .func (PySem.W.fnOf "_law_tight_by" "_law_tight_by" (defArgs s_law_tight_by) (defBody s_law_tight_by) (defScope s_law_tight_by) .none kV11 dc11 pm11 an11 cd11 ct11), sl11⟩) (c11 : PySem.W.codeIn K cd11 "_law_tight_by" = true) (k11 : PySem.W.keepIn K (.ref f11) = true)
    (a12 : PySem.W.nsIn K mainGlobals "_law_jobs_by" = some (some (.ref f12))) (l12 : K.lookup f12 = some ⟨oc12, od12, .func (PySem.W.fnOf "_law_jobs_by" "_law_jobs_by" (defArgs s_law_jobs_by) (defBody s_law_jobs_by) (defScope s_law_jobs_by) .none kV12 dc12 pm12 an12 cd12 ct12), sl12⟩) (c12 : PySem.W.codeIn K cd12 "_law_jobs_by" = true) (k12 : PySem.W.keepIn K (.ref f12) = true)
    (a13 : PySem.W.nsIn K mainGlobals "_law_figures" = some (some (.ref f13))) (l13 : K.lookup f13 = some ⟨oc13, od13, .func (PySem.W.fnOf "_law_figures" "_law_figures" (defArgs s_law_figures) (defBody s_law_figures) (defScope s_law_figures) .none kV13 dc13 pm13 an13 cd13 ct13), sl13⟩) (c13 : PySem.W.codeIn K cd13 "_law_figures" = true) (k13 : PySem.W.keepIn K (.ref f13) = true)
    (a14 : PySem.W.nsIn K mainGlobals "_law_number" = some (some (.ref f14))) (l14 : K.lookup f14 = some ⟨oc14, od14, .func (PySem.W.fnOf "_law_number" "_law_number" (defArgs s_law_number) (defBody s_law_number) (defScope s_law_number) .none kV14 dc14 pm14 an14 cd14 ct14), sl14⟩) (c14 : PySem.W.codeIn K cd14 "_law_number" = true) (k14 : PySem.W.keepIn K (.ref f14) = true)
    (a15 : PySem.W.nsIn K mainGlobals "_law_job_of" = some (some (.ref f15))) (l15 : K.lookup f15 = some ⟨oc15, od15, .func (PySem.W.fnOf "_law_job_of" "_law_job_of" (defArgs s_law_job_of) (defBody s_law_job_of) (defScope s_law_job_of) .none kV15 dc15 pm15 an15 cd15 ct15), sl15⟩) (c15 : PySem.W.codeIn K cd15 "_law_job_of" = true) (k15 : PySem.W.keepIn K (.ref f15) = true)
    (a16 : PySem.W.nsIn K mainGlobals "_law_due" = some (some (.ref f16))) (l16 : K.lookup f16 = some ⟨oc16, od16, .func (PySem.W.fnOf "_law_due" "_law_due" (defArgs s_law_due) (defBody s_law_due) (defScope s_law_due) .none kV16 dc16 pm16 an16 cd16 ct16), sl16⟩) (c16 : PySem.W.codeIn K cd16 "_law_due" = true) (k16 : PySem.W.keepIn K (.ref f16) = true)
    (a17 : PySem.W.nsIn K mainGlobals "_law_read" = some (some (.ref f17))) (l17 : K.lookup f17 = some ⟨oc17, od17, .func (PySem.W.fnOf "_law_read" "_law_read" (defArgs s_law_read) (defBody s_law_read) (defScope s_law_read) .none kV17 dc17 pm17 an17 cd17 ct17), sl17⟩) (c17 : PySem.W.codeIn K cd17 "_law_read" = true) (k17 : PySem.W.keepIn K (.ref f17) = true)
    (a18 : PySem.W.nsIn K mainGlobals "_law_sign_by" = some (some (.ref f18))) (l18 : K.lookup f18 = some ⟨oc18, od18, .func (PySem.W.fnOf "_law_sign_by" "_law_sign_by" (defArgs s_law_sign_by) (defBody s_law_sign_by) (defScope s_law_sign_by) .none kV18 dc18 pm18 an18 cd18 ct18), sl18⟩) (c18 : PySem.W.codeIn K cd18 "_law_sign_by" = true) (k18 : PySem.W.keepIn K (.ref f18) = true)
    (a19 : PySem.W.nsIn K mainGlobals "_law_changed" = some (some (.ref f19))) (l19 : K.lookup f19 = some ⟨oc19, od19, .func (PySem.W.fnOf "_law_changed" "_law_changed" (defArgs s_law_changed) (defBody s_law_changed) (defScope s_law_changed) .none kV19 dc19 pm19 an19 cd19 ct19), sl19⟩) (c19 : PySem.W.codeIn K cd19 "_law_changed" = true) (k19 : PySem.W.keepIn K (.ref f19) = true)
    (a20 : PySem.W.nsIn K mainGlobals "law" = some (some (.ref f20))) (l20 : K.lookup f20 = some ⟨oc20, od20, .func (PySem.W.fnOf "law" "law" (defArgs s_law) (defBody s_law) (defScope s_law) .none kV20 dc20 pm20 an20 cd20 ct20), sl20⟩) (c20 : PySem.W.codeIn K cd20 "law" = true) (k20 : PySem.W.keepIn K (.ref f20) = true)
    (ac_TooMany : PySem.W.nsIn K mainGlobals "TooMany" = some (some (.ref cc_TooMany))) (xc_TooMany : PySem.W.excIn K cc_TooMany [.type "ValueError", .type "Exception", .type "BaseException", .type "object"] "ValueError.__new__" = true) (kc_TooMany : PySem.W.keepIn K (.ref cc_TooMany) = true) (sc_TooMany : PySem.W.subIn K (.ref cc_TooMany) (.type "BaseException") = some true) (tc_TooMany : PySem.W.typeIn K (.ref cc_TooMany) = some (.type "type"))
    (hd_TooMany : PySem.W.hasDictIn K cc_TooMany = true)
    (ac_BadJob : PySem.W.nsIn K mainGlobals "BadJob" = some (some (.ref cc_BadJob))) (xc_BadJob : PySem.W.excIn K cc_BadJob [.type "ValueError", .type "Exception", .type "BaseException", .type "object"] "ValueError.__new__" = true) (kc_BadJob : PySem.W.keepIn K (.ref cc_BadJob) = true) (sc_BadJob : PySem.W.subIn K (.ref cc_BadJob) (.type "BaseException") = some true) (tc_BadJob : PySem.W.typeIn K (.ref cc_BadJob) = some (.type "type"))
    (hd_BadJob : PySem.W.hasDictIn K cc_BadJob = true)
    (ac_OutOfPlace : PySem.W.nsIn K mainGlobals "OutOfPlace" = some (some (.ref cc_OutOfPlace))) (xc_OutOfPlace : PySem.W.excIn K cc_OutOfPlace [.type "ValueError", .type "Exception", .type "BaseException", .type "object"] "ValueError.__new__" = true) (kc_OutOfPlace : PySem.W.keepIn K (.ref cc_OutOfPlace) = true) (sc_OutOfPlace : PySem.W.subIn K (.ref cc_OutOfPlace) (.type "BaseException") = some true) (tc_OutOfPlace : PySem.W.typeIn K (.ref cc_OutOfPlace) = some (.type "type"))
    (hd_OutOfPlace : PySem.W.hasDictIn K cc_OutOfPlace = true)
    (ac_NoRow : PySem.W.nsIn K mainGlobals "NoRow" = some (some (.ref cc_NoRow))) (xc_NoRow : PySem.W.excIn K cc_NoRow [.type "ValueError", .type "Exception", .type "BaseException", .type "object"] "ValueError.__new__" = true) (kc_NoRow : PySem.W.keepIn K (.ref cc_NoRow) = true) (sc_NoRow : PySem.W.subIn K (.ref cc_NoRow) (.type "BaseException") = some true) (tc_NoRow : PySem.W.typeIn K (.ref cc_NoRow) = some (.type "type"))
    (hd_NoRow : PySem.W.hasDictIn K cc_NoRow = true)
    (ac_RunError : PySem.W.nsIn K mainGlobals "RunError" = some (some (.ref cc_RunError))) (xc_RunError : PySem.W.excIn K cc_RunError [.type "ValueError", .type "Exception", .type "BaseException", .type "object"] "ValueError.__new__" = true) (kc_RunError : PySem.W.keepIn K (.ref cc_RunError) = true) (sc_RunError : PySem.W.subIn K (.ref cc_RunError) (.type "BaseException") = some true) (tc_RunError : PySem.W.typeIn K (.ref cc_RunError) = some (.type "type"))
    (hd_RunError : PySem.W.hasDictIn K cc_RunError = true)
    (ec_TooMany_TooMany : PySem.W.subIn K (.ref cc_TooMany) (.ref cc_TooMany) = some true)
    (ec_TooMany_BadJob : PySem.W.subIn K (.ref cc_TooMany) (.ref cc_BadJob) = some false)
    (ec_TooMany_OutOfPlace : PySem.W.subIn K (.ref cc_TooMany) (.ref cc_OutOfPlace) = some false)
    (ec_TooMany_NoRow : PySem.W.subIn K (.ref cc_TooMany) (.ref cc_NoRow) = some false)
    (ec_TooMany_RunError : PySem.W.subIn K (.ref cc_TooMany) (.ref cc_RunError) = some true)
    (ec_NoRow_TooMany : PySem.W.subIn K (.ref cc_NoRow) (.ref cc_TooMany) = some false)
    (ec_NoRow_BadJob : PySem.W.subIn K (.ref cc_NoRow) (.ref cc_BadJob) = some false)
    (ec_NoRow_OutOfPlace : PySem.W.subIn K (.ref cc_NoRow) (.ref cc_OutOfPlace) = some false)
    (ec_NoRow_NoRow : PySem.W.subIn K (.ref cc_NoRow) (.ref cc_NoRow) = some true)
    (ec_NoRow_RunError : PySem.W.subIn K (.ref cc_NoRow) (.ref cc_RunError) = some true)
    (qhg_TooMany : PySem.W.findIn K (.ref cc_TooMany) "__getattribute__" = some (some (.builtin "BaseException.__getattribute__")))
    (qhk_TooMany : PySem.W.findIn K (.ref cc_TooMany) "__getattr__" = some none)
    (qha_TooMany : PySem.W.findIn K (.ref cc_TooMany) "__class__" = some (some (.builtin "object.__class__")))
    (qhm_TooMany : PySem.W.mroIn K cc_TooMany (.type "object") = some true)
    (qhg_NoRow : PySem.W.findIn K (.ref cc_NoRow) "__getattribute__" = some (some (.builtin "BaseException.__getattribute__")))
    (qhk_NoRow : PySem.W.findIn K (.ref cc_NoRow) "__getattr__" = some none)
    (qha_NoRow : PySem.W.findIn K (.ref cc_NoRow) "__class__" = some (some (.builtin "object.__class__")))
    (qhm_NoRow : PySem.W.mroIn K cc_NoRow (.type "object") = some true)
    (iv_NoRow : PySem.W.subIn K (.ref cc_NoRow) (.type "ValueError") = some true)
    (ss_BadJob : PySem.W.subIn K (.ref cc_BadJob) (.ref cc_BadJob) = some true)
    (ss_OutOfPlace : PySem.W.subIn K (.ref cc_OutOfPlace) (.ref cc_OutOfPlace) = some true)
    (ss_RunError : PySem.W.subIn K (.ref cc_RunError) (.ref cc_RunError) = some true)
    (qhn : PySem.W.specialIn K (.builtin "object.__class__") "__get__" = some (some (.builtin "getset_descriptor.__get__"))) (qht : PySem.W.takesIn K (.builtin "object.__class__") = some true)
    (z_tuple : PySem.W.nsIn K mainGlobals "tuple" = some none)
    (z_all : PySem.W.nsIn K mainGlobals "all" = some none)
    (z_type : PySem.W.nsIn K mainGlobals "type" = some none)
    (z_len : PySem.W.nsIn K mainGlobals "len" = some none)
    (z_int : PySem.W.nsIn K mainGlobals "int" = some none)
    (z_enumerate : PySem.W.nsIn K mainGlobals "enumerate" = some none)
    (z_range : PySem.W.nsIn K mainGlobals "range" = some none)
    (z_max : PySem.W.nsIn K mainGlobals "max" = some none)
    (z_isinstance : PySem.W.nsIn K mainGlobals "isinstance" = some none)
    (z_ValueError : PySem.W.nsIn K mainGlobals "ValueError" = some none)
    (z_list : PySem.W.nsIn K mainGlobals "list" = some none)
    (z_str : PySem.W.nsIn K mainGlobals "str" = some none)
    (w_LIMIT : PySem.W.nsIn K mainGlobals "LIMIT" = some (some (.int 60 tk_LIMIT)))
    (w_FIGURES : PySem.W.nsIn K mainGlobals "FIGURES" = some (some (.str "0123456789" tk_FIGURES)))
    (w_MOST_FIGURES : PySem.W.nsIn K mainGlobals "MOST_FIGURES" = some (some (.int 60 tk_MOST_FIGURES)))
    : ∃ fd : FuncData, (∀ (s : Shared) (v : Value), BindsTo s fd ⟨[v], []⟩ [("_law_script", v)]) ∧ ∀ base : Heap, K.In base → base.Ns mainGlobals mg → FnOk l.prog w K mg base CX0 5 fa fd ["_law_script"] (spLaw K) := by
  have e := hfa.symm.trans (PySem.W.mg_of X G a20)
  cases e
  have F0 := fun_mk (st := s_sound) l0 c0 k0
  have F1 := fun_mk (st := s_check_jobs) l1 c1 k1
  have F2 := fun_mk (st := s_written) l2 c2 k2
  have F3 := fun_mk (st := s_read) l3 c3 k3
  have F4 := fun_mk (st := s_job_of_row) l4 c4 k4
  have F5 := fun_mk (st := s_is_number) l5 c5 k5
  have F6 := fun_mk (st := s_law_cell_at) l6 c6 k6
  have F7 := fun_mk (st := s_law_mixed) l7 c7 k7
  have F8 := fun_mk (st := s_law_job_by) l8 c8 k8
  have F9 := fun_mk (st := s_law_count_by) l9 c9 k9
  have F10 := fun_mk (st := s_law_wide_by) l10 c10 k10
  have F11 := fun_mk (st := s_law_tight_by) l11 c11 k11
  have F12 := fun_mk (st := s_law_jobs_by) l12 c12 k12
  have F13 := fun_mk (st := s_law_figures) l13 c13 k13
  have F14 := fun_mk (st := s_law_number) l14 c14 k14
  have F15 := fun_mk (st := s_law_job_of) l15 c15 k15
  have F16 := fun_mk (st := s_law_due) l16 c16 k16
  have F17 := fun_mk (st := s_law_read) l17 c17 k17
  have F18 := fun_mk (st := s_law_sign_by) l18 c18 k18
  have F19 := fun_mk (st := s_law_changed) l19 c19 k19
  have F20 := fun_mk (st := s_law) l20 c20 k20
  have b0 := F0.binds (ps := ["job"]) fun _ _ _ _ _ _ us hl => match us, hl with | [_], _ => rfl
  have b1 := F1.binds (ps := ["jobs"]) fun _ _ _ _ _ _ us hl => match us, hl with | [_], _ => rfl
  have b2 := F2.binds (ps := ["jobs"]) fun _ _ _ _ _ _ us hl => match us, hl with | [_], _ => rfl
  have b3 := F3.binds (ps := ["text"]) fun _ _ _ _ _ _ us hl => match us, hl with | [_], _ => rfl
  have b4 := F4.binds (ps := ["row"]) fun _ _ _ _ _ _ us hl => match us, hl with | [_], _ => rfl
  have b5 := F5.binds (ps := ["word"]) fun _ _ _ _ _ _ us hl => match us, hl with | [_], _ => rfl
  have b6 := F6.binds (ps := ["_law_script", "_law_k"]) fun _ _ _ _ _ _ us hl => match us, hl with | [_, _], _ => rfl
  have b7 := F7.binds (ps := ["_law_cell", "_law_k", "_law_prime"]) fun _ _ _ _ _ _ us hl => match us, hl with | [_, _, _], _ => rfl
  have b8 := F8.binds (ps := ["_law_come", "_law_length", "_law_due_here", "_law_wide", "_law_more"]) fun _ _ _ _ _ _ us hl => match us, hl with | [_, _, _, _, _], _ => rfl
  have b9 := F9.binds (ps := ["_law_cell"]) fun _ _ _ _ _ _ us hl => match us, hl with | [_], _ => rfl
  have b10 := F10.binds (ps := ["_law_cell"]) fun _ _ _ _ _ _ us hl => match us, hl with | [_], _ => rfl
  have b11 := F11.binds (ps := ["_law_cell", "_law_count", "_law_wide"]) fun _ _ _ _ _ _ us hl => match us, hl with | [_, _, _], _ => rfl
  have b12 := F12.binds (ps := ["_law_script", "_law_first"]) fun _ _ _ _ _ _ us hl => match us, hl with | [_, _], _ => rfl
  have b13 := F13.binds (ps := ["_law_number_here"]) fun _ _ _ _ _ _ us hl => match us, hl with | [_], _ => rfl
  have b14 := F14.binds (ps := ["_law_word"]) fun _ _ _ _ _ _ us hl => match us, hl with | [_], _ => rfl
  have b15 := F15.binds (ps := ["_law_row"]) fun _ _ _ _ _ _ us hl => match us, hl with | [_], _ => rfl
  have b16 := F16.binds (ps := ["_law_text"]) fun _ _ _ _ _ _ us hl => match us, hl with | [_], _ => rfl
  have b17 := F17.binds (ps := ["_law_text"]) fun _ _ _ _ _ _ us hl => match us, hl with | [_], _ => rfl
  have b18 := F18.binds (ps := ["_law_cell"]) fun _ _ _ _ _ _ us hl => match us, hl with | [_], _ => rfl
  have b19 := F19.binds (ps := ["_law_text", "_law_how", "_law_place", "_law_sign"]) fun _ _ _ _ _ _ us hl => match us, hl with | [_, _, _, _], _ => rfl
  have T : TX K mg := { f_sound := _, d_sound := _, h_sound := ⟨F0, b0, PySem.W.mg_of X G a0⟩, f_check_jobs := _, d_check_jobs := _, h_check_jobs := ⟨F1, b1, PySem.W.mg_of X G a1⟩, f_written := _, d_written := _, h_written := ⟨F2, b2, PySem.W.mg_of X G a2⟩, f_read := _, d_read := _, h_read := ⟨F3, b3, PySem.W.mg_of X G a3⟩, f_job_of_row := _, d_job_of_row := _, h_job_of_row := ⟨F4, b4, PySem.W.mg_of X G a4⟩, f_is_number := _, d_is_number := _, h_is_number := ⟨F5, b5, PySem.W.mg_of X G a5⟩, f_law_cell_at := _, d_law_cell_at := _, h_law_cell_at := ⟨F6, b6, PySem.W.mg_of X G a6⟩, f_law_mixed := _, d_law_mixed := _, h_law_mixed := ⟨F7, b7, PySem.W.mg_of X G a7⟩, f_law_job_by := _, d_law_job_by := _, h_law_job_by := ⟨F8, b8, PySem.W.mg_of X G a8⟩, f_law_count_by := _, d_law_count_by := _, h_law_count_by := ⟨F9, b9, PySem.W.mg_of X G a9⟩, f_law_wide_by := _, d_law_wide_by := _, h_law_wide_by := ⟨F10, b10, PySem.W.mg_of X G a10⟩, f_law_tight_by := _, d_law_tight_by := _, h_law_tight_by := ⟨F11, b11, PySem.W.mg_of X G a11⟩, f_law_jobs_by := _, d_law_jobs_by := _, h_law_jobs_by := ⟨F12, b12, PySem.W.mg_of X G a12⟩, f_law_figures := _, d_law_figures := _, h_law_figures := ⟨F13, b13, PySem.W.mg_of X G a13⟩, f_law_number := _, d_law_number := _, h_law_number := ⟨F14, b14, PySem.W.mg_of X G a14⟩, f_law_job_of := _, d_law_job_of := _, h_law_job_of := ⟨F15, b15, PySem.W.mg_of X G a15⟩, f_law_due := _, d_law_due := _, h_law_due := ⟨F16, b16, PySem.W.mg_of X G a16⟩, f_law_read := _, d_law_read := _, h_law_read := ⟨F17, b17, PySem.W.mg_of X G a17⟩, f_law_sign_by := _, d_law_sign_by := _, h_law_sign_by := ⟨F18, b18, PySem.W.mg_of X G a18⟩, f_law_changed := _, d_law_changed := _, h_law_changed := ⟨F19, b19, PySem.W.mg_of X G a19⟩, c_TooMany := _, g_TooMany := PySem.W.mg_of X G ac_TooMany, x_TooMany := xc_TooMany, k_TooMany := kc_TooMany, s_TooMany := sc_TooMany, t_TooMany := tc_TooMany, c_BadJob := _, g_BadJob := PySem.W.mg_of X G ac_BadJob, x_BadJob := xc_BadJob, k_BadJob := kc_BadJob, s_BadJob := sc_BadJob, t_BadJob := tc_BadJob, c_OutOfPlace := _, g_OutOfPlace := PySem.W.mg_of X G ac_OutOfPlace, x_OutOfPlace := xc_OutOfPlace, k_OutOfPlace := kc_OutOfPlace, s_OutOfPlace := sc_OutOfPlace, t_OutOfPlace := tc_OutOfPlace, c_NoRow := _, g_NoRow := PySem.W.mg_of X G ac_NoRow, x_NoRow := xc_NoRow, k_NoRow := kc_NoRow, s_NoRow := sc_NoRow, t_NoRow := tc_NoRow, c_RunError := _, g_RunError := PySem.W.mg_of X G ac_RunError, x_RunError := xc_RunError, k_RunError := kc_RunError, s_RunError := sc_RunError, t_RunError := tc_RunError, e_TooMany_TooMany := PySem.W.exm_ref sc_TooMany hd_TooMany tc_TooMany ec_TooMany_TooMany, e_TooMany_BadJob := PySem.W.exm_ref sc_BadJob hd_BadJob tc_BadJob ec_TooMany_BadJob, e_TooMany_OutOfPlace := PySem.W.exm_ref sc_OutOfPlace hd_OutOfPlace tc_OutOfPlace ec_TooMany_OutOfPlace, e_TooMany_NoRow := PySem.W.exm_ref sc_NoRow hd_NoRow tc_NoRow ec_TooMany_NoRow, e_TooMany_RunError := PySem.W.exm_ref sc_RunError hd_RunError tc_RunError ec_TooMany_RunError, e_NoRow_TooMany := PySem.W.exm_ref sc_TooMany hd_TooMany tc_TooMany ec_NoRow_TooMany, e_NoRow_BadJob := PySem.W.exm_ref sc_BadJob hd_BadJob tc_BadJob ec_NoRow_BadJob, e_NoRow_OutOfPlace := PySem.W.exm_ref sc_OutOfPlace hd_OutOfPlace tc_OutOfPlace ec_NoRow_OutOfPlace, e_NoRow_NoRow := PySem.W.exm_ref sc_NoRow hd_NoRow tc_NoRow ec_NoRow_NoRow, e_NoRow_RunError := PySem.W.exm_ref sc_RunError hd_RunError tc_RunError ec_NoRow_RunError, q_TooMany := ⟨qhg_TooMany, qhk_TooMany, sc_TooMany, hd_TooMany, qha_TooMany, qhn, qht, qhm_TooMany⟩, i_TooMany_RunError := kit_ref hd_RunError tc_RunError ss_RunError ec_TooMany_RunError, q_NoRow := ⟨qhg_NoRow, qhk_NoRow, sc_NoRow, hd_NoRow, qha_NoRow, qhn, qht, qhm_NoRow⟩, i_NoRow_ValueError := kit_bt iv_NoRow (by decide +kernel), i_NoRow_BadJob := kit_ref hd_BadJob tc_BadJob ss_BadJob ec_NoRow_BadJob, i_NoRow_OutOfPlace := kit_ref hd_OutOfPlace tc_OutOfPlace ss_OutOfPlace ec_NoRow_OutOfPlace, b_tuple := PySem.W.mg_none_of X G z_tuple, b_all := PySem.W.mg_none_of X G z_all, b_type := PySem.W.mg_none_of X G z_type, b_len := PySem.W.mg_none_of X G z_len, b_int := PySem.W.mg_none_of X G z_int, b_enumerate := PySem.W.mg_none_of X G z_enumerate, b_range := PySem.W.mg_none_of X G z_range, b_max := PySem.W.mg_none_of X G z_max, b_isinstance := PySem.W.mg_none_of X G z_isinstance, b_ValueError := PySem.W.mg_none_of X G z_ValueError, b_list := PySem.W.mg_none_of X G z_list, b_str := PySem.W.mg_none_of X G z_str, t_LIMIT := tk_LIMIT, c_LIMIT := PySem.W.mg_of X G w_LIMIT, t_FIGURES := tk_FIGURES, c_FIGURES := PySem.W.mg_of X G w_FIGURES, t_MOST_FIGURES := tk_MOST_FIGURES, c_MOST_FIGURES := PySem.W.mg_of X G w_MOST_FIGURES }
  exact ⟨PySem.W.fnOf "law" "law" (defArgs s_law) (defBody s_law) (defScope s_law) .none kV20 dc20 pm20 an20 cd20 ct20, fun s v => .of_eq rfl, fun base _ _ => ok_law F20 T⟩
end DLL
open PySem PySem.W PyProof.Rows
set_option maxRecDepth 100000 in
set_option maxHeartbeats 0 in
theorem PySem.Challenge.cw_deadlinerun_k14_notes_holds : PySem.Challenge.rw_deadlinerun_k14_notes.Holds := by
  w_on; o_law; k_head; (case hw => w_witness2)
  k_fill
  refine L2.walk_of (l := PySem.Challenge.rw_deadlinerun_k14_notes) (n := 63) (k := 5) (x := "_law_script") (CX := fun _ => L2.CX0) (sp := fun w => DLL.spLaw _) rfl (by decide) rfl ⟨rfl, by decide, by decide⟩ (fun w h Y => PySem.W.kIn_of Y) ?F (fun _ _ a ns hl _ hS => ⟨a, ns, rfl, hS, hl, fun _ => rfl⟩) (fun _ _ _ _ _ h => h)
  case F =>
    intro w mg fa h KX G hmg
    refine' DLL.all_mk KX G hmg ?a0 ?l0 ?c0 ?k0 ?a1 ?l1 ?c1 ?k1 ?a2 ?l2 ?c2 ?k2 ?a3 ?l3 ?c3 ?k3 ?a4 ?l4 ?c4 ?k4 ?a5 ?l5 ?c5 ?k5 ?a6 ?l6 ?c6 ?k6 ?a7 ?l7 ?c7 ?k7 ?a8 ?l8 ?c8 ?k8 ?a9 ?l9 ?c9 ?k9 ?a10 ?l10 ?c10 ?k10 ?a11 ?l11 ?c11 ?k11 ?a12 ?l12 ?c12 ?k12 ?a13 ?l13 ?c13 ?k13 ?a14 ?l14 ?c14 ?k14 ?a15 ?l15 ?c15 ?k15 ?a16 ?l16 ?c16 ?k16 ?a17 ?l17 ?c17 ?k17 ?a18 ?l18 ?c18 ?k18 ?a19 ?l19 ?c19 ?k19 ?a20 ?l20 ?c20 ?k20 ?ac_TooMany ?xc_TooMany ?kc_TooMany ?sc_TooMany ?tc_TooMany ?hd_TooMany ?ac_BadJob ?xc_BadJob ?kc_BadJob ?sc_BadJob ?tc_BadJob ?hd_BadJob ?ac_OutOfPlace ?xc_OutOfPlace ?kc_OutOfPlace ?sc_OutOfPlace ?tc_OutOfPlace ?hd_OutOfPlace ?ac_NoRow ?xc_NoRow ?kc_NoRow ?sc_NoRow ?tc_NoRow ?hd_NoRow ?ac_RunError ?xc_RunError ?kc_RunError ?sc_RunError ?tc_RunError ?hd_RunError ?ec_TooMany_TooMany ?ec_TooMany_BadJob ?ec_TooMany_OutOfPlace ?ec_TooMany_NoRow ?ec_TooMany_RunError ?ec_NoRow_TooMany ?ec_NoRow_BadJob ?ec_NoRow_OutOfPlace ?ec_NoRow_NoRow ?ec_NoRow_RunError ?qhg_TooMany ?qhk_TooMany ?qha_TooMany ?qhm_TooMany ?qhg_NoRow ?qhk_NoRow ?qha_NoRow ?qhm_NoRow ?iv_NoRow ?ss_BadJob ?ss_OutOfPlace ?ss_RunError ?qhn ?qht ?z_tuple ?z_all ?z_type ?z_len ?z_int ?z_enumerate ?z_range ?z_max ?z_isinstance ?z_ValueError ?z_list ?z_str ?w_LIMIT ?w_FIGURES ?w_MOST_FIGURES
    (case a0 => k_is)
    (case l0 => k_is)
    (case c0 => k_is)
    (case k0 => k_is)
    (case a1 => k_is)
    (case l1 => k_is)
    (case c1 => k_is)
    (case k1 => k_is)
    (case a2 => k_is)
    (case l2 => k_is)
    (case c2 => k_is)
    (case k2 => k_is)
    (case a3 => k_is)
    (case l3 => k_is)
    (case c3 => k_is)
    (case k3 => k_is)
    (case a4 => k_is)
    (case l4 => k_is)
    (case c4 => k_is)
    (case k4 => k_is)
    (case a5 => k_is)
    (case l5 => k_is)
    (case c5 => k_is)
    (case k5 => k_is)
    (case a6 => k_is)
    (case l6 => k_is)
    (case c6 => k_is)
    (case k6 => k_is)
    (case a7 => k_is)
    (case l7 => k_is)
    (case c7 => k_is)
    (case k7 => k_is)
    (case a8 => k_is)
    (case l8 => k_is)
    (case c8 => k_is)
    (case k8 => k_is)
    (case a9 => k_is)
    (case l9 => k_is)
    (case c9 => k_is)
    (case k9 => k_is)
    (case a10 => k_is)
    (case l10 => k_is)
    (case c10 => k_is)
    (case k10 => k_is)
    (case a11 => k_is)
    (case l11 => k_is)
    (case c11 => k_is)
    (case k11 => k_is)
    (case a12 => k_is)
    (case l12 => k_is)
    (case c12 => k_is)
    (case k12 => k_is)
    (case a13 => k_is)
    (case l13 => k_is)
    (case c13 => k_is)
    (case k13 => k_is)
    (case a14 => k_is)
    (case l14 => k_is)
    (case c14 => k_is)
    (case k14 => k_is)
    (case a15 => k_is)
    (case l15 => k_is)
    (case c15 => k_is)
    (case k15 => k_is)
    (case a16 => k_is)
    (case l16 => k_is)
    (case c16 => k_is)
    (case k16 => k_is)
    (case a17 => k_is)
    (case l17 => k_is)
    (case c17 => k_is)
    (case k17 => k_is)
    (case a18 => k_is)
    (case l18 => k_is)
    (case c18 => k_is)
    (case k18 => k_is)
    (case a19 => k_is)
    (case l19 => k_is)
    (case c19 => k_is)
    (case k19 => k_is)
    (case a20 => k_is)
    (case l20 => k_is)
    (case c20 => k_is)
    (case k20 => k_is)
    (case ac_TooMany => k_is)
    (case xc_TooMany => k_exc)
    (case kc_TooMany => k_is)
    (case sc_TooMany => k_is)
    (case tc_TooMany => k_is)
    (case hd_TooMany => k_is)
    (case ac_BadJob => k_is)
    (case xc_BadJob => k_exc)
    (case kc_BadJob => k_is)
    (case sc_BadJob => k_is)
    (case tc_BadJob => k_is)
    (case hd_BadJob => k_is)
    (case ac_OutOfPlace => k_is)
    (case xc_OutOfPlace => k_exc)
    (case kc_OutOfPlace => k_is)
    (case sc_OutOfPlace => k_is)
    (case tc_OutOfPlace => k_is)
    (case hd_OutOfPlace => k_is)
    (case ac_NoRow => k_is)
    (case xc_NoRow => k_exc)
    (case kc_NoRow => k_is)
    (case sc_NoRow => k_is)
    (case tc_NoRow => k_is)
    (case hd_NoRow => k_is)
    (case ac_RunError => k_is)
    (case xc_RunError => k_exc)
    (case kc_RunError => k_is)
    (case sc_RunError => k_is)
    (case tc_RunError => k_is)
    (case hd_RunError => k_is)
    (case ec_TooMany_TooMany => first | rfl | k_is)
    (case ec_TooMany_BadJob => first | rfl | k_is)
    (case ec_TooMany_OutOfPlace => first | rfl | k_is)
    (case ec_TooMany_NoRow => first | rfl | k_is)
    (case ec_TooMany_RunError => first | rfl | k_is)
    (case ec_NoRow_TooMany => first | rfl | k_is)
    (case ec_NoRow_BadJob => first | rfl | k_is)
    (case ec_NoRow_OutOfPlace => first | rfl | k_is)
    (case ec_NoRow_NoRow => first | rfl | k_is)
    (case ec_NoRow_RunError => first | rfl | k_is)
    (case qhg_TooMany => k_is)
    (case qhk_TooMany => k_is)
    (case qha_TooMany => k_is)
    (case qhm_TooMany => k_is)
    (case qhg_NoRow => k_is)
    (case qhk_NoRow => k_is)
    (case qha_NoRow => k_is)
    (case qhm_NoRow => k_is)
    (case iv_NoRow => k_is)
    (case ss_BadJob => k_is)
    (case ss_OutOfPlace => k_is)
    (case ss_RunError => k_is)
    (case qhn => k_is)
    (case qht => k_is)
    (case z_tuple => k_is)
    (case z_all => k_is)
    (case z_type => k_is)
    (case z_len => k_is)
    (case z_int => k_is)
    (case z_enumerate => k_is)
    (case z_range => k_is)
    (case z_max => k_is)
    (case z_isinstance => k_is)
    (case z_ValueError => k_is)
    (case z_list => k_is)
    (case z_str => k_is)
    (case w_LIMIT => k_is)
    (case w_FIGURES => k_is)
    (case w_MOST_FIGURES => k_is)

