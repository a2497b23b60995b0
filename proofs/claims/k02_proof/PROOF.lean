import PyProof.Rows.All
import Wide.All
import OpenK.AllK
import Wide.FinOn
import HandS.ForMost
import HandS.Strs
import HandS.IsInst
import HandS.OwnEq
import PyProof.InstEq
import PyProof.EqAt
import PyProof.EqKinds
import PyProof.TupleCall
import HandS.Wide
import HandS.WideBits
import HandS.Flow
import HandS.Text
import HandS.Style
import HandS.Walk
import HandS.DictComp
import HandS.Conv
import PyProof.ListStr
import HandS.NoneIn
import HandS.MakeKwOnly
import PySem.Challenge.RW_runturns_k02_shelves_kept_and_compared
-- SetT
section
set_option Elab.async false
set_option linter.all false
set_option maxRecDepth 100000
set_option maxHeartbeats 6000000
/-! ### set(xs) of a list of texts, any number, doubled ones too; len of it -/
namespace TS
open L2 PyProof.Rows PySem PySem.Spec PySem.Calls
/-- how many unlike ones the first i are -/
def met (xs : List Str) : Nat → Nat
  | 0 => 0
  | i + 1 => if xs.getD i Str.empty ∈ xs.take i then met xs i else met xs i + 1
theorem met_le (xs : List Str) : ∀ i, met xs i ≤ i
  | 0 => Nat.le.refl
  | i + 1 => by
    have := met_le xs i
    simp only [met]
    split <;> omega
theorem take_one {xs : List Str} {i : Nat} (h : i < xs.length) : xs.take (i + 1) = xs.take i ++ [xs.getD i Str.empty] := by
  rw [List.take_succ, List.getD_eq_getElem?_getD, List.getElem?_eq_getElem h]
  rfl
theorem met_all {xs : List Str} (u : xs.Nodup) : ∀ i, i ≤ xs.length → met xs i = i
  | 0, _ => rfl
  | i + 1, h => by
    have new : xs.getD i Str.empty ∉ xs.take i := by
      have u' : (xs.take (i + 1)).Nodup := u.sublist (List.take_sublist _ _)
      rw [take_one (by omega), List.nodup_append] at u'
      intro z
      exact u'.2.2 _ z _ (List.mem_singleton_self _) rfl
    simp only [met, if_neg new, met_all u i (by omega)]
theorem met_less {xs : List Str} : ∀ i, i ≤ xs.length → met xs i = i → (xs.take i).Nodup
  | 0, _, _ => by simp
  | i + 1, h, e => by
    have le := met_le xs i
    simp only [met] at e
    split at e
    · omega
    · next new =>
      rw [take_one (by omega), List.nodup_append]
      refine ⟨met_less i (by omega) (by omega), by simp, fun a ha b hb => ?_⟩
      rw [List.mem_singleton] at hb
      rintro rfl
      exact new (hb ▸ ha)
/-- as many as there are, just if none is doubled -/
theorem met_iff (xs : List Str) : decide (((met xs xs.length : Nat) : Int) = (xs.length : Int)) = decide xs.Nodup := by
  rw [decide_eq_decide]
  constructor
  · intro e
    have := met_less xs.length Nat.le.refl (by omega)
    rwa [List.take_length] at this
  · intro u
    rw [met_all u xs.length Nat.le.refl]
section
variable {prog : Program} {w : World} {A : Around} {R : Result → Shared → Prop} {it l S : Addr} {items : Array Value} {xs : List Str}
abbrev Held (prog : Program) (w : World) (h : Heap) (S : Addr) (xs : List Str) (i : Nat) : Prop := h.SetOf (PySem.strKind prog w) S (fun y => decide (y ∈ xs.take i)) (met xs i)
theorem Held.but {h h' : Heap} {i : Nat} (k : ∀ o, h.get? S = some o → h'.get? S = some o) : Held prog w h S xs i → Held prog w h' S xs i := fun ⟨o, es, ep, t, at_, rest⟩ => ⟨o, es, ep, t, k _ at_, rest⟩
/-- the loop that puts them in, from the i-th on -/
theorem puts (hh : A.in1.handled = none) (apart : l ≠ it) (out : S ≠ it ∧ S ≠ l) (are : ∀ (i : Nat) (v : Value), items[i]? = some v → ∃ t, v = Value.str (xs.getD i Str.empty) t) (many : items.size = xs.length) (few : xs.length + 1 < scanBound) :
    ∀ (m i : Nat) (s : Shared), i + m = xs.length → s.heap.IsListIter it l i → s.heap.IsList l items → Held prog w s.heap S xs i →
      (∀ h' tk, (∀ b o, b ≠ S → b ≠ it → s.heap.get? b = some o → h'.get? b = some o) → Held prog w h' S xs xs.length → R (.ok (.ret .none)) { s with heap := h', toks := tk }) →
      codeAny (model prog w) A (.builtin "set.update.loop" ⟨[.ref S, .ref it], []⟩) R s := by
  have W := Walks.list (prog := prog) (w := w) hh it l apart items
  intro m
  induction m with
  | zero =>
    intro i s e a b c k
    obtain rfl : i = xs.length := by omega
    refine (codeAny_builtin PyProof.Rows.F.entry_set_update_loop ?_)
    rw [Around.under_plainId PyProof.Rows.F.plain_set_update_loop]
    change wpAny _ A.in1 (pyNext (.ref it) >>= _) _ _ s
    refine wpAny_bind (W.done s _ _ (many ▸ ⟨a, b⟩) fun h' tk same => ?_)
    change wpAny _ A.in1 (ret Value.none) _ _ _
    have same' : ∀ b o, b ≠ it → s.heap.get? b = some o → h'.get? b = some o := fun b o n => same b o (by simpa using n)
    exact wpAny_pure (k h' tk (fun b o _ n => same' b o n) (c.but fun o => same' S o out.1))
  | succ m more =>
    intro i s e a b c k
    refine (codeAny_builtin PyProof.Rows.F.entry_set_update_loop ?_)
    rw [Around.under_plainId PyProof.Rows.F.plain_set_update_loop]
    change wpAny _ A.in1 (pyNext (.ref it) >>= _) _ _ s
    refine wpAny_bind (W.item i s _ _ (by omega) ⟨a, b⟩ fun v h1 tk1 at_ next same => ?_)
    obtain ⟨t, rfl⟩ := are i v at_
    have same' : ∀ b o, b ≠ it → s.heap.get? b = some o → h1.get? b = some o := fun b o n => same b o (by simpa using n)
    have c1 : Held prog w h1 S xs i := c.but fun o => same' S o out.1
    change wpAny _ A.in1 (holding [Value.str (xs.getD i Str.empty) t] (setAdd S (.str (xs.getD i Str.empty) t)) >>= _) _ _ _
    refine wpAny_bind (wpAny_holding ?add)
    unfold setAdd
    refine wpAny_holding (wpAny_bind ((PySem.strKind prog w).pyHash (k := xs.getD i Str.empty) (strKind_is _ _ _ _) ?_))
    have lim := met_le xs i
    refine wpAny_setAddHashed_of (knd := PySem.strKind prog w) (strKind_is _ _ _ _) rfl c1 (by omega) fun h2 but c2 => ?_
    have c3 : Held prog w h2 S xs (i + 1) := by
      refine SetOf_congr c2 (fun y => ?_) ?_
      · rw [take_one (by omega)]
        simp [List.mem_append]
      · simp only [met, decide_eq_true_eq]
    have keep2 : ∀ b o, b ≠ S → h1.get? b = some o → h2.get? b = some o := fun b o n z => by
      rw [but.2 b n]
      exact z
    refine wpAny_pure ⟨plainId_quiet PyProof.Rows.F.plain_set_update_loop _, more (i + 1) _ (by omega) (next.1.at fun o z => keep2 it o (Ne.symm out.1) z) (next.2.at fun o z => keep2 l o (Ne.symm out.2) z) c3 fun h3 tk3 same3 c4 => ?_⟩
    exact k h3 tk3 (fun b o n1 n2 z => same3 b o n1 n2 (keep2 b o n1 (same' b o n2 z))) c4
end
section
variable {prog : Program} {w : World} {A : Around} {E : Value → Shared → Prop} {l : Addr} {items : Array Value} {xs : List Str} {s : Shared} {led : Bool}
/-- a new set, with nothing in it -/
abbrev bare (led : Bool) : Obj := { cls := .type "set", dict := none, data := .set #[] 0 (.fresh 0 0 led) }
/-- set.__init__(S, xs) of a new one -/
theorem fills (hh : A.handled = none) (hl : s.heap.IsList l items) (are : ∀ (i : Nat) (v : Value), items[i]? = some v → ∃ t, v = Value.str (xs.getD i Str.empty) t) (many : items.size = xs.length) (few : xs.length + 1 < scanBound) :
    codeAny (model prog w) A (.call (.builtin "set.__init__") ⟨[.ref s.heap.objs.size, .ref l], []⟩)
      (wants (fun r s₂ => r = .none ∧ ∃ h' tk, s₂ = { s with heap := h', toks := tk } ∧ Held prog w h' s.heap.objs.size xs xs.length ∧ ∀ b o, s.heap.get? b = some o → h'.get? b = some o) E)
      { s with heap := s.heap.push (bare led) } := by
  have at_ : (s.heap.push (bare led)).get? s.heap.objs.size = some (bare led) := Heap.get?_push_size _ rfl
  have ty : Shared.TypeIs { s with heap := s.heap.push (bare led) } (.ref s.heap.objs.size) "set" := ⟨_, at_, rfl⟩
  obtain ⟨⟨cl, dc, dt, sl⟩, ol, rfl, nl, rfl⟩ := hl
  have in_ := Heap.lt_size ol
  have there : (s.heap.push (bare led)).get? l = some { cls := .type "list", dict := dc, data := .seq items nl, slots := sl } := Heap.get?_push_of_some _ ol
  have isL : (s.heap.push (bare led)).IsList l items := ⟨_, there, rfl, nl, rfl⟩
  have no1 := PySem.F.sub_list_set
  have no2 := PySem.F.sub_list_frozenset
  have no3 : (Value.type "list" == Value.type "dict") = false := by decide
  refine codeAny_call_builtin PySem.F.called_set.init.plain PySem.F.entry_set_init (check_set_init_1 ty ?_)
  unfold PySem.Builtin.«set.__init__» noKeywords Builtin.Frozenset.updateFrom
  generalize walk : pyIter = walking
  wp_walk
  subst walk
  refine wpAny_pyIter_list isL (wpAny_bind (wpAny_runValue ?_))
  have size1 : (s.heap.push (bare led)).objs.size = s.heap.objs.size + 1 := Heap.size_push _ _
  have quiet : A.in1.in1.handled = none := by simp [hh]
  refine puts (it := (s.heap.push (bare led)).objs.size) (S := s.heap.objs.size) (l := l) (items := items) (xs := xs) quiet (by rw [size1]; exact Nat.ne_of_lt (Nat.lt_succ_of_lt in_)) ⟨by rw [size1]; exact Nat.ne_of_lt (Nat.lt_succ_self _), Nat.ne_of_gt in_⟩ are many few xs.length 0 _ (Nat.zero_add _) ?_ ?_ ?_ ?_
  · exact ⟨_, Heap.get?_push_size _ rfl, rfl, rfl⟩
  · exact isL.push _
  · have new := (PyProof.Rows.setObjOf_fresh (knd := PySem.strKind prog w) led).setOf (Heap.get?_push_of_some { cls := .type "list_iterator", data := .fields #[.ref l, .int 0 0] } at_) (by unfold scanBound; omega)
    exact SetOf_congr new (fun y => by simp) rfl
  · intro h' tk same held
    change wpAny _ _ _ _ _ _
    refine wpAny_pure ?_
    change wpAny _ _ (ret Value.none) _ _ _
    refine wpAny_pure ⟨rfl, h', tk, rfl, held, fun b o z => ?_⟩
    have lt := Heap.lt_size z
    exact same b o (Nat.ne_of_lt lt) (by change b ≠ (s.heap.push (bare led)).objs.size; rw [size1]; exact Nat.ne_of_lt (Nat.lt_succ_of_lt lt)) (Heap.get?_push_of_some _ (Heap.get?_push_of_some _ z))
/-- set(xs) -/
theorem set_called (hh : A.handled = none) (hl : s.heap.IsList l items) (are : ∀ (i : Nat) (v : Value), items[i]? = some v → ∃ t, v = Value.str (xs.getD i Str.empty) t) (many : items.size = xs.length) (few : xs.length + 1 < scanBound) {Q : Value → Shared → Prop}
    (h : ∀ h' tk, Held prog w h' s.heap.objs.size xs xs.length → (∀ b o, s.heap.get? b = some o → h'.get? b = some o) → Q (.ref s.heap.objs.size) { s with heap := h', toks := tk }) :
    wpAny (model prog w) A (call (Value.type "set") [.ref l]) Q E s := by
  have C := PySem.F.called_set
  obtain ⟨c, tl, mro⟩ := C.mro
  have made := C.made
  have sub := C.sub
  have own := C.notType
  have can := C.canCreate
  have checks := PySem.F.typeCall_set_1 (.ref l)
  refine wpAny_call (codeAny_of_tree ?call)
  change wpAny _ _ (callAny (.type "set") _) _ _ _
  refine wpAny_pure ⟨Code.quiet_builtin _ (by decide +kernel), codeAny_builtin PySem.F.entry_type_call ?made⟩
  rw [Around.under_plain (weight_type_call_type "set" [Value.ref l] []) rfl]
  repeat (any_goals first | assumption | wp_step)
  refine codeAny_mono (code_set_new_1 (.ref l) (E := E) (Q₁ := fun o s₁ => ∃ led : Bool, o = .ref s.heap.objs.size ∧ s₁ = { s with heap := s.heap.push (bare led) }) fun led => ⟨led, rfl, rfl⟩) fun r s₁ new => ?_
  rcases r with e | (o | _ | _ | _) <;> first | exact new | exact new.elim | skip
  obtain ⟨led, rfl, rfl⟩ := new
  have ty : Shared.TypeIs { s with heap := s.heap.push (bare led) } (.ref s.heap.objs.size) "set" := ⟨_, Heap.get?_push_size _ rfl, rfl⟩
  have look := C.init.lookup
  have bound := C.init.bind (.ref s.heap.objs.size)
  repeat (any_goals first | assumption | wp_step)
  refine codeAny_mono (fills (prog := prog) (w := w) (A := A.in1) (E := E) (led := led) (by simpa using hh) hl are many few) fun r₂ s₂ got => ?_
  rcases r₂ with e | (o | _ | _ | _) <;> first | exact got | exact got.elim | skip
  obtain ⟨rfl, h', tk, rfl, held, same⟩ := got
  repeat (any_goals first | assumption | wp_step)
  exact h h' tk held same
end
end TS
namespace TS
open L2 PyProof.Rows PySem PySem.Spec PySem.Calls
theorem at_of {ys : List Str} {us : List Value} (r : Vals (ys.map V.str) us) (i : Nat) (v : Value) (h : us.toArray[i]? = some v) : ∃ t, v = Value.str (ys.getD i Str.empty) t := by
  have h' : us[i]? = some v := by simpa using h
  have lt : i < ys.length := by
    have := r.length
    rw [List.length_map] at this
    rw [this]
    exact (List.getElem?_eq_some_iff.1 h').1
  have y : (ys.map V.str)[i]? = some (V.str (ys.getD i Str.empty)) := by
    rw [List.getElem?_map, List.getD_eq_getElem?_getD, List.getElem?_eq_getElem lt]
    rfl
  obtain ⟨u, hu, t, rfl⟩ := r.get y
  rw [h'] at hu
  exact ⟨t, Option.some.inj hu⟩
/-- len(set(xs)), where xs is a list of texts -/
def tLenSetT (K : PySem.W.Frag) (ta : TE) : TE := fun σ H Q => ta σ H fun x H1 => ∃ (l : Addr) (xs : List Str), x = .ref l ∧ SqL K H1 l (xs.map V.str) ∧ xs.length ≤ 1000 ∧ Q (.int ((met xs xs.length : Nat) : Int)) H1
theorem pe_lenSetT {X : Cx} {K : PySem.W.Frag} {a : Expr} {ta : TE} {p p2 q pos : Pos} (calm : X.calm = true) (hg : Gl X "len") (hm : X.mg "len" = none) (hg2 : Gl X "set") (hm2 : X.mg "set" = none) (ha : PE X a ta) (hK : X.K = K := by rfl)
    (na : starEach [a] X.env = (false, eval a X.env) :: starEach [] X.env := by rfl) : PE X (.Call (.Name "len" p) [.Call (.Name "set" p2) [a] [] q] [] pos) (tLenSetT K ta) where
  run pins s σ H Q I h := by
    subst hK
    refine Call_ (ld_blt I hg hm boot_len (PyProof.Rows.callWith_builtin1 (PyProof.Rows.args_cons ?_ rfl) rfl rfl))
    refine Call_ (ld_blt I hg2 hm2 boot_set (PyProof.Rows.callWith_type1 (PyProof.Rows.args_cons (thn (ha.run pins s σ H _ I h) ?_) na) na rfl))
    rintro v s1 ⟨x, H1, J, rv, l, xs, rfl, sq, few, k⟩
    obtain rfl : v = .ref l := rv
    obtain ⟨us, rel, pl, _⟩ := J.list sq
    have many : us.toArray.size = xs.length := by rw [List.size_toArray, ← rel.length, List.length_map]
    refine PyProof.Rows.args_nil (set_called (J.ok.hd calm) pl.isList (at_of rel) many (by unfold scanBound; omega) fun h' tk held same => PyProof.Rows.args_nil ?_)
    obtain ⟨o, es, ep, t, at_, ex, dt, _, _, _, hf, n⟩ := held
    have J2 : Inv X pins σ H1 { s1 with heap := h', toks := tk } := J.kept same
    have le := met_le xs xs.length
    refine call_len_set at_ ex dt hf (by rw [n]; omega) ⟨_, H1, J2.tok _, ?_, k⟩
    exact ⟨_, by rw [n]⟩
end TS

end
-- EQ
section
set_option Elab.async false
set_option linter.all false
set_option maxRecDepth 100000
set_option maxHeartbeats 4100000
/-! ### == and != by an own __eq__ that gives True or False, beside anything -/
namespace OE
open L2 PyProof.Rows PySem PySem.Spec PySem.Calls
/-- what the class at C says: an own __eq__ at f, no own __ne__ -/
structure EqC (K : PySem.W.Frag) (C f : Addr) : Prop where
  eq : PySem.W.findIn K (.ref C) "__eq__" = some (some (.ref f))
  ne : PySem.W.findIn K (.ref C) "__ne__" = some (some (.builtin "object.__ne__"))
  fn : (PySem.W.isFn K (.ref f)) = true
  ob : PySem.W.mroIn K C (.type "object") = some true
/-- the promise of such an __eq__ : R tells its answer; it makes nothing that stays -/
def spB (R : Addr → V → Hp → Bool → Prop) : Sp := fun vs H Q _ => ∃ a y b, vs = [.ref a, y] ∧ R a y H b ∧ Q (.bl b) H
/-- an instance beside any value -/
def rB (K : PySem.W.Frag) (C : Addr) (R : Addr → V → Hp → Bool → Prop) (g : Bool → Bool) : R2 := fun x y H Q => ∃ a dx fs t b, x = .ref a ∧ H a = some (.ins C dx fs) ∧ TyX K H y t ∧ PySem.W.notFirst K C t = true ∧ R a y H b ∧ Q (.bl (g b)) H
section
variable {X : Cx} {CX : CXT} {C f : Addr} {fd : FuncData} {ps : List Str} {R : Addr → V → Hp → Bool → Prop} {k : Nat} {E : XK} {pins : List (Addr × Obj)} {σ : L2.St} {H : Hp} {s : Shared}
/-- the call of __eq__ itself, around any A with the same frames -/
theorem asked {A : Around} (F : FnOk X.prog X.w X.K X.mg X.base CX k f fd ps (spB R)) (hb : Binds X.K fd ps []) (hx : Passes CX X E) (hr : Room k A) (fr : A.frames = X.A.frames)
    (I : Inv X pins σ H s) {a : Addr} {y : V} {v : Value} {b : Bool} (ry : RelV y v) (hR : R a y H b) :
    wpAny (model X.prog X.w) A (call (.ref f) [.ref a, v]) (fun u s' => u = .bool b ∧ Inv X pins σ H s') X.xe s := by
  have sp : spB R [.ref a, y] H (fun u H' => u = .bl b ∧ H' = H) E := ⟨a, y, b, rfl, hR, rfl, rfl⟩
  have env : Env0 X.prog X.w X.K X.mg X.base A X.stack s H := ⟨fr.trans I.env0.frames, I.env0.mod, I.env0.bs, I.env0.bsz, I.env0.funs, I.env0.frf, I.env0.hok, I.env0.bare⟩
  have rel : Vals [V.ref a, y] [Value.ref a, v] := .cons rfl (.cons ry .nil)
  have many : [Value.ref a, v].length = ps.length := F.len _ _ _ _ sp
  have bound := hb s [.ref a, v] I.kIn (by simpa using many)
  rw [List.append_nil] at bound
  refine wpAny_call (codeAny_mono (F.run A X.stack s H ⟨[.ref a, v], []⟩ _ _ _ E hr env bound rel sp) fun r s' back => ?_)
  match r, back with
  | .error e, back => exact hx _ _ _ _ _ _ I back
  | .ok (.ret u), back =>
    obtain ⟨_, _, J, ru, rfl, rfl⟩ := I.after back
    exact ⟨ru, J⟩
  | .ok .next, no => exact no.elim
  | .ok .brk, no => exact no.elim
  | .ok .cont, no => exact no.elim
theorem op_eq {K : PySem.W.Frag} (F : FnOk X.prog X.w X.K X.mg X.base CX k f fd ps (spB R)) (T : EqC X.K C f) (hr : Room k X.A) (hb : Binds X.K fd ps []) (hx : Passes CX X E) (hK : X.K = K := by rfl) : OpR X (compareOp .Eq) (rB K C R id) := by
  subst hK
  rintro pins s σ H x y v u Q I rx ry ⟨a, dx, fs, t, b, rfl, hins, ty, nf, hR, q⟩
  obtain rfl : v = .ref a := rx
  obtain ⟨_, J, _⟩ := ins_get I.hok hins
  obtain ⟨_, J, _⟩ := J.look
  obtain ⟨Pk, kit, pk, _⟩ := kit_of I ry ty
  obtain ⟨m, hF⟩ := I.fr
  change wpAny (model X.prog X.w) X.A (richCompare .Eq (.ref a) u) (EP X pins σ Q) X.xe s
  refine PySem.W.cmp_K (op := .Eq) (tb := t) hr.units0 hF I.ok.mod.kin J (kit.ty _ _ I.kIn pk) nf T.eq T.fn ?_
  refine thn (asked F hb hx hr rfl I ry hR) ?_
  rintro w s' ⟨rfl, J'⟩
  exact ⟨.bl b, H, J', rfl, q⟩
theorem op_ne {K : PySem.W.Frag} (F : FnOk X.prog X.w X.K X.mg X.base CX k f fd ps (spB R)) (T : EqC X.K C f) (hr : Room (k + 1) X.A) (hb : Binds X.K fd ps []) (hx : Passes CX X E) (hK : X.K = K := by rfl) : OpR X (compareOp .NotEq) (rB K C R not) := by
  subst hK
  rintro pins s σ H x y v u Q I rx ry ⟨a, dx, fs, t, b, rfl, hins, ty, nf, hR, q⟩
  obtain rfl : v = .ref a := rx
  obtain ⟨_, J, _⟩ := ins_get I.hok hins
  obtain ⟨_, J, _⟩ := J.look
  obtain ⟨Pk, kit, pk, _⟩ := kit_of I ry ty
  have tyU := kit.ty (model X.prog X.w) _ I.kIn pk
  -- object.__ne__ asks __eq__
  have entry : ∀ {Q' : PySem.Fin → Shared → Prop}, (∀ s', Inv X pins σ H s' → Q' (.done (.ret (.bool (!b)))) s') → wpAny (model X.prog X.w) X.A.in1 (Builtin.«object.__ne__» ⟨[.ref a, u], []⟩) Q' X.xe s := by
    intro Q' q'
    unfold PySem.Builtin.«object.__ne__»
    refine wpAny_bind (wpAny_of_eq (a := ((Value.ref a : Value), [u])) (by first | rfl | (simp only [slotArgs]; rfl)) ?_)
    dsimp only
    refine wpAny_bind (wpAny_cRoomFor (by have := hr.un; change X.A.units + 1 < cLine; omega) ?_)
    refine wpAny_bind (PySem.W.ifBound_K I.kIn J T.eq T.fn (thn (asked F hb hx hr.in1 rfl I ry hR) ?_))
    rintro w s' ⟨rfl, J'⟩
    dsimp only
    exact wpAny_bind (wpAny_truthy_bool (wpAny_pure (q' _ J')))
  have told : ∀ {Q' : Option Value → Shared → Prop}, (∀ s', Inv X pins σ H s' → Q' (some (.bool (!b))) s') → wpAny (model X.prog X.w) X.A (call (.builtin "object.__ne__") ([.ref a] ++ [u]) >>= fun v => pure (some v)) Q' X.xe s := by
    intro Q' q'
    refine wpAny_bind (wpAny_call (codeAny_call_builtin PySem.F.cmp_object.ne.plain PySem.F.cmpEntry_ne ?_))
    exact PySem.W.check_slot PySem.F.cmpKind_ne PySem.F.cmpSplit_ne (J.type.andThen (PySem.W.looks_mroIn I.kIn T.ob)) (PySem.F.cmpArgs_ne _ _) (entry fun s' J' => wpAny_pure (q' s' J'))
  have once : wpAny (model X.prog X.w) X.A (tryCompare (.ref a) "__ne__" u) (fun r s' => r = some (.bool (!b)) ∧ Inv X pins σ H s') X.xe s := by
    unfold tryCompare
    simp only [bindSpecialIfBound?, callSpecialIfBound?]
    refine wpAny_bind (wpAny_holding (wpAny_bind (wpAny_bind (wpAny_bind (J.type.here ((PySem.W.looks_findIn I.kIn T.ne).here (wpAny_bind (wpAny_askSetting (wpAny_ite ?_)))))))))
    split
    · exact wpAny_bind (wpAny_of_eq (PySem.F.cmp_object.ne.bind _) (wpAny_pure (told fun s' J' => wpAny_pure ⟨rfl, J'⟩)))
    · exact wpAny_tryCatch (wpAny_bind (wpAny_of_eq (PySem.F.cmp_object.ne.bind _) (wpAny_pure (told fun s' J' => wpAny_pure ⟨rfl, J'⟩))))
  change wpAny (model X.prog X.w) X.A (richCompare .NotEq (.ref a) u) (EP X pins σ Q) X.xe s
  unfold richCompare
  simp only [oneThing_ref, cmpInfo_NotEq]
  refine wpAny_holding (wpAny_bind (wpAny_cRoomFor hr.units0 (wpAny_bind (J.type.here (wpAny_bind (tyU.here ?_))))))
  have done_ : ∀ {r : Option Value} {s' : Shared}, (r = some (.bool (!b)) ∧ Inv X pins σ H s') → ∃ v', r = some v' ∧ EP X pins σ Q v' s' := fun ⟨e, J'⟩ => ⟨_, e, .bl (!b), H, J', rfl, q⟩
  split
  · next differ =>
    have below : PySem.W.subIn X.K t (.ref C) = some false := by
      rcases Bool.or_eq_true_iff.mp nf with e | e
      · rw [beq_iff_eq.mp e] at differ
        simp at differ
      · exact beq_iff_eq.mp e
    refine wpAny_bind ((PySem.W.looks_subIn I.kIn below).here ?_)
    simp only [if_false, Bool.false_eq_true]
    refine wpAny_bind (thn once fun r s' z => ?_)
    obtain ⟨v', rfl, z'⟩ := done_ z
    exact wpAny_pure z'
  · refine (wpAny_bind (wpAny_pure ?_))
    simp only [if_false, Bool.false_eq_true]
    refine wpAny_bind (thn once fun r s' z => ?_)
    obtain ⟨v', rfl, z'⟩ := done_ z
    exact wpAny_pure z'
end
end OE

end
-- REA
section
set_option Elab.async false
set_option linter.all false
set_option maxRecDepth 100000
set_option maxHeartbeats 4100000
/-! ### a built-in's == declines an instance of an own class -/
namespace OE
open PyProof.Rows PySem PySem.SeqAt
open AutoSeq1 (wpAny_loadPart')
theorem int_declines (a : Int) (t : Tok) (l C dx : Addr) :
    Meets (Builtin.«int.__eq__» ⟨[.int a t, .ref l], []⟩) (fun _ R s => s.heap.get? l = some (PySem.W.instObj C dx) ∧ R (.ok (.ret .notImplemented)) s) :=
  .of_wp fun prog w A R s h => by
    obtain ⟨hp, g, d, tk, os⟩ := s
    obtain ⟨hl, h⟩ := h
    unfold PySem.W.instObj at hl
    wp_walk using wpAny_loadPart' hl
    exact ⟨_, rfl, h⟩
theorem bool_declines (a : Bool) (l C dx : Addr) :
    Meets (Builtin.«int.__eq__» ⟨[.bool a, .ref l], []⟩) (fun _ R s => s.heap.get? l = some (PySem.W.instObj C dx) ∧ R (.ok (.ret .notImplemented)) s) :=
  .of_wp fun prog w A R s h => by
    obtain ⟨hp, g, d, tk, os⟩ := s
    obtain ⟨hl, h⟩ := h
    unfold PySem.W.instObj at hl
    wp_walk using wpAny_loadPart' hl
    exact ⟨_, rfl, h⟩
theorem str_declines (a : Str) (t : Tok) (l C dx : Addr) :
    Meets (Builtin.«str.__eq__» ⟨[.str a t, .ref l], []⟩) (fun _ R s => s.heap.get? l = some (PySem.W.instObj C dx) ∧ R (.ok (.ret .notImplemented)) s) :=
  .of_wp fun prog w A R s h => by
    obtain ⟨hp, g, d, tk, os⟩ := s
    obtain ⟨hl, h⟩ := h
    unfold PySem.W.instObj at hl
    wp_walk using wpAny_loadPart' hl
    exact ⟨_, rfl, h⟩
theorem list_declines (a l : Addr) :
    Meets (Builtin.«list.__eq__» ⟨[.ref a, .ref l], []⟩) (fun _ R s => (∀ M : Model, PySem.W.Looks M s.heap (isInstance (.ref l) (.type "list")) false) ∧ R (.ok (.ret .notImplemented)) s) :=
  .of_wp fun prog w A R s h => by
    obtain ⟨hp, g, d, tk, os⟩ := s
    obtain ⟨hI, h⟩ := h
    wp_walk using (hI _).here
    exact ⟨_, rfl, h⟩
theorem tuple_declines (a l : Addr) :
    Meets (Builtin.«tuple.__eq__» ⟨[.ref a, .ref l], []⟩) (fun _ R s => (∀ M : Model, PySem.W.Looks M s.heap (isInstance (.ref l) (.type "tuple")) false) ∧ R (.ok (.ret .notImplemented)) s) :=
  .of_wp fun prog w A R s h => by
    obtain ⟨hp, g, d, tk, os⟩ := s
    obtain ⟨hI, h⟩ := h
    wp_walk using (hI _).here
    exact ⟨_, rfl, h⟩
theorem dict_declines (a l : Addr) :
    Meets (Builtin.«dict.__eq__» ⟨[.ref a, .ref l], []⟩) (fun _ R s => (∀ M : Model, PySem.W.Looks M s.heap (isInstance (.ref l) (.type "dict")) false) ∧ R (.ok (.ret .notImplemented)) s) :=
  .of_wp fun prog w A R s h => by
    obtain ⟨hp, g, d, tk, os⟩ := s
    obtain ⟨hI, h⟩ := h
    wp_walk using (hI _).here
    exact ⟨_, rfl, h⟩
end OE

end
-- REQ
section
set_option Elab.async false
set_option linter.all false
set_option maxRecDepth 100000
set_option maxHeartbeats 4100000
/-! ### a built-in value == an instance with an own __eq__ : the instance is asked -/
namespace OE
open L2 PyProof.Rows PySem PySem.Spec PySem.Calls
/-- a value of a built-in class, and which -/
inductive Plain (H : Hp) : V → String → Prop
  | non : Plain H .non "NoneType"
  | bl (b : Bool) : Plain H (.bl b) "bool"
  | int (i : Int) : Plain H (.int i) "int"
  | str (z : Str) : Plain H (.str z) "str"
  | lst {a : Addr} {xs : List V} (e : H a = some (.lst xs)) : Plain H (.ref a) "list"
  | tup {a : Addr} {xs : List V} (e : H a = some (.tup xs)) : Plain H (.ref a) "tuple"
  | dct {a : Addr} {kvs : List (Key × V)} (e : H a = some (.dK kvs)) : Plain H (.ref a) "dict"
theorem Plain.mono {H H' : Hp} {x : V} {T : String} (e : Same H H') : Plain H x T → Plain H' x T
  | .non => .non
  | .bl b => .bl b
  | .int i => .int i
  | .str z => .str z
  | .lst h => .lst (e _ _ h)
  | .tup h => .tup (e _ _ h)
  | .dct h => .dct (e _ _ h)
theorem Plain.tyX {K : PySem.W.Frag} {H : Hp} {x : V} {T : String} : Plain H x T → TyX K H x (.type T)
  | .non => .base .non
  | .bl b => .base (.bl b)
  | .int i => .base (.int i)
  | .str z => .base (.str z)
  | .lst h => .base (.lst h)
  | .tup h => .base (.tup h)
  | .dct h => .base (.dK h)
def plainTs : List String := ["NoneType", "bool", "int", "str", "list", "tuple", "dict"]
/-- the class at C is over none of them -/
def farB (K : PySem.W.Frag) (C : Addr) : Bool := plainTs.all fun T => decide (PySem.W.subIn K (.ref C) (.type T) = some false)
theorem Plain.mem {H : Hp} {x : V} {T : String} (p : Plain H x T) : T ∈ plainTs := by
  cases p <;> simp [plainTs]
theorem far_of {K : PySem.W.Frag} {C : Addr} (f : farB K C = true) {T : String} (h : T ∈ plainTs) : PySem.W.subIn K (.ref C) (.type T) = some false := of_decide_eq_true (List.all_eq_true.1 f T h)
section
variable {X : Cx} {CX : CXT} {C f : Addr} {fd : FuncData} {ps : List Str} {R : Addr → V → Hp → Bool → Prop} {k : Nat} {E : XK} {pins : List (Addr × Obj)} {σ : L2.St} {H : Hp} {s : Shared}
theorem typeIs_of {x : V} {v : Value} {T : String} (I : Inv X pins σ H s) (rx : RelV x v) (p : Plain H x T) : s.TypeIs v T := by
  cases p with
  | non => cases (show v = Value.none from rx); rfl
  | bl b => cases (show v = Value.bool b from rx); rfl
  | int i => obtain ⟨t, q⟩ := (show ∃ t, v = Value.int i t from rx); cases q; exact typeIs_int s i t
  | str z => obtain ⟨t, q⟩ := (show ∃ t, v = Value.str z t from rx); cases q; exact typeIs_str s z t
  | @lst a xs e =>
    cases (show v = Value.ref a from rx)
    obtain ⟨_, _, n, _, h1⟩ := (show ObjOk X.prog X.w H s.heap a (.lst xs) from I.hok a _ e)
    exact ⟨_, h1, rfl⟩
  | @tup a xs e =>
    cases (show v = Value.ref a from rx)
    obtain ⟨_, _, _, o, h1, h2, _⟩ := (show ObjOk X.prog X.w H s.heap a (.tup xs) from I.hok a _ e)
    exact ⟨o, h1, h2⟩
  | @dct a kvs e =>
    cases (show v = Value.ref a from rx)
    obtain ⟨_, _, vs, _, o, es, ep, h1, h2, _⟩ := (show ObjOk X.prog X.w H s.heap a (.dK kvs) from I.hok a _ e)
    exact ⟨o, h1, h2.1⟩
/-- it declines -/
theorem declined {x : V} {v : Value} {T : String} {l : Addr} {dx : Addr} (I : Inv X pins σ H s) (rx : RelV x v) (p : Plain H x T) (ho : s.heap.get? l = some (PySem.W.instObj C dx))
    (isno : ∀ T ∈ plainTs, ∀ M : Model, PySem.W.Looks M s.heap (isInstance (.ref l) (.type T)) false) :
    wpAny (model X.prog X.w) X.A (tryCompare v "__eq__" (.ref l)) (fun r s' => r = none ∧ s' = s) X.xe s := by
  have ty := typeIs_of I rx p
  cases p with
  | non =>
    cases (show v = Value.none from rx)
    exact wpAny_tryCompare_declines ty F.slot_NoneType_eq (call_gives F.slot_NoneType_eq ty F.entry_NoneType_eq (F.args_NoneType_eq_2 _ _) (SeqAt.NoneType___eq___none_ref_0 l) ⟨rfl, rfl, rfl⟩)
  | bl b =>
    cases (show v = Value.bool b from rx)
    exact wpAny_tryCompare_declines ty F.slot_bool_eq (call_meets F.slot_bool_eq ty F.entry_int_eq (F.args_int_eq_2 _ _) (bool_declines b l C dx) ⟨ho, rfl, rfl, rfl⟩)
  | int i =>
    obtain ⟨t, q⟩ := (show ∃ t, v = Value.int i t from rx); cases q
    exact wpAny_tryCompare_declines ty F.slot_int_eq (call_meets F.slot_int_eq ty F.entry_int_eq (F.args_int_eq_2 _ _) (int_declines i t l C dx) ⟨ho, rfl, rfl, rfl⟩)
  | str z =>
    obtain ⟨t, q⟩ := (show ∃ t, v = Value.str z t from rx); cases q
    exact wpAny_tryCompare_declines ty F.slot_str_eq (call_meets F.slot_str_eq ty F.entry_str_eq (F.args_str_eq_2 _ _) (str_declines z t l C dx) ⟨ho, rfl, rfl, rfl⟩)
  | @lst a xs e =>
    cases (show v = Value.ref a from rx)
    exact wpAny_tryCompare_declines ty F.slot_list_eq (call_meets F.slot_list_eq ty F.entry_list_eq (F.args_list_eq_2 _ _) (list_declines a l) ⟨isno _ (by simp [plainTs]), rfl, rfl, rfl⟩)
  | @tup a xs e =>
    cases (show v = Value.ref a from rx)
    exact wpAny_tryCompare_declines ty F.slot_tuple_eq (call_meets F.slot_tuple_eq ty F.entry_tuple_eq (F.args_tuple_eq_2 _ _) (tuple_declines a l) ⟨isno _ (by simp [plainTs]), rfl, rfl, rfl⟩)
  | @dct a kvs e =>
    cases (show v = Value.ref a from rx)
    exact wpAny_tryCompare_declines ty F.slot_dict_eq (call_meets F.slot_dict_eq ty F.entry_dict_eq (F.args_dict_eq_2 _ _) (dict_declines a l) ⟨isno _ (by simp [plainTs]), rfl, rfl, rfl⟩)
/-- a built-in value beside an instance -/
def rBR (C : Addr) (R : Addr → V → Hp → Bool → Prop) : R2 := fun x y H Q => ∃ a dx fs T b, y = .ref a ∧ H a = some (.ins C dx fs) ∧ Plain H x T ∧ R a x H b ∧ Q (.bl b) H
theorem op_eqR {K : PySem.W.Frag} (F : FnOk X.prog X.w X.K X.mg X.base CX k f fd ps (spB R)) (T : EqC X.K C f) (far : farB X.K C = true) (hr : Room k X.A) (hb : Binds X.K fd ps []) (hx : Passes CX X E) : OpR X (compareOp .Eq) (rBR C R) := by
  rintro pins s σ H x y v u Q I rx ry ⟨a, dx, fs, U, b, rfl, hins, pl, hR, q⟩
  obtain rfl : u = .ref a := ry
  obtain ⟨_, O, _⟩ := ins_get I.hok hins
  have ho := O.obj
  obtain ⟨_, J, _⟩ := O.look
  obtain ⟨m, hF⟩ := I.fr
  have isno : ∀ T ∈ plainTs, ∀ M : Model, PySem.W.Looks M s.heap (isInstance (.ref a) (.type T)) false := fun T h M => J.type.andThen (PySem.W.looks_subIn I.kIn (far_of far h))
  have ty := typeIs_of I rx pl
  change wpAny (model X.prog X.w) X.A (richCompare .Eq v (.ref a)) (EP X pins σ Q) X.xe s
  unfold richCompare
  simp only [ty.oneThing_none, cmpInfo_Eq]
  refine wpAny_holding (wpAny_bind (wpAny_cRoomFor hr.units0 (wpAny_bind (wpAny_typeOf ty (wpAny_bind (J.type.here ?_))))))
  have ne : (Value.ref a != v) = true ∨ True := .inr trivial
  split
  · refine wpAny_bind ((PySem.W.looks_subIn I.kIn (far_of far pl.mem)).here ?_)
    simp only [Bool.false_eq_true, if_false, Bool.not_false, if_true]
    refine wpAny_bind (thn (declined I rx pl ho isno) fun r s1 z => ?_)
    obtain ⟨rfl, rfl⟩ := z
    dsimp only
    have two : wpAny (model X.prog X.w) X.A (tryCompare (.ref a) "__eq__" v) (fun r s' => r = some (.bool b) ∧ Inv X pins σ H s') X.xe s1 := by
      unfold tryCompare
      refine wpAny_bind (PySem.W.ifBound_K I.kIn J T.eq T.fn (thn (asked F hb hx hr rfl I rx hR) ?_))
      rintro w s' ⟨rfl, J'⟩
      exact wpAny_pure ⟨rfl, J'⟩
    refine wpAny_bind (thn two fun r s2 z => ?_)
    obtain ⟨rfl, J'⟩ := z
    exact wpAny_pure ⟨.bl b, H, J', rfl, q⟩
  · rename_i no
    exact absurd (by simp) no
end
end OE

end
-- K2A
section
set_option Elab.async false
set_option linter.all false
set_option maxRecDepth 100000
set_option maxHeartbeats 4100000
namespace K2
open L2 PyProof.Rows PySem PySem.Spec
def top (i : Nat) : Stmt := PySem.Challenge.pw_runturns_k02_shelves_kept_and_compared.main.body.getD i (.Pass ⟨0, 0, 0, 0⟩)
abbrev sPurse : Stmt := top 22
abbrev sMixed : Stmt := top 23
abbrev sDraw : Stmt := top 24
abbrev sPurses : Stmt := top 25
abbrev sWord : Stmt := top 28
theorem op_powW {X : Cx} : OpR X (binaryOp .Pow) (rI (fun i j => 0 ≤ j ∧ (Builtin.Int.intBits i : Int) * j ≤ 2 ^ 27) fun i j => .int (i ^ j.toNat)) := opI fun _ _ _ _ _ _ _ hc q => pow_int hc.1 hc.2 q
theorem same_upd {H : Hp} {o : HO} {p : Addr} (h : H p = none) : Same H (upd H p o) := fun b x e => by
  rw [upd_ne (ne_of_none e h)]
  exact e
theorem cut_ints (ns : List Int) (lo hi : Option Int) : ∃ ms : List Int, cutV (ns.map V.int) lo hi = ms.map V.int := by
  unfold cutV
  exact ⟨_, by rw [← List.map_drop, ← List.map_take]⟩
/-- the names of the built-ins that the law's defs use -/
structure Bl (mg : Str → Option Value) : Prop where
  sum : mg "sum" = none
  int : mg "int" = none
  max : mg "max" = none
  min : mg "min" = none
  len : mg "len" = none
  range : mg "range" = none
  isi : mg "isinstance" = none
  repr : mg "repr" = none
  all : mg "all" = none
  ve : mg "ValueError" = none
section
variable {base : Heap} {mg : Str → Option Value} {K : PySem.W.Frag} {w : World} {P : Program}
theorem scPurse : FnScope ["_law_script", "_law_at", "_law_seed"] ["_law_script", "_law_at"] (defScope sPurse) := ⟨rfl, rfl, rfl, by decide +kernel, rfl, by decide +kernel, by decide +kernel⟩
/-- a purse at p -/
def PurseAt (H : Hp) (p : Addr) (b : Int) : Prop := ∃ p0 p1 p2 p3 : Int, H p = some (.lst [.int p0, .int p1, .int p2, .int p3]) ∧ 0 ≤ p1 ∧ p1 < 2147483648 ∧ 0 ≤ p2 ∧ p2 ≤ b ∧ 0 ≤ p3 ∧ p3 ≤ 1000
def spPurse (K : PySem.W.Frag) : Sp := fun vs H Q _ => ∃ (a : Addr) (ns : List Int) (i : Nat), vs = [.ref a, .int i] ∧ SqL K H a (ns.map V.int) ∧ ns.length ≤ 63 ∧ i ≤ 1000 ∧ ∀ H' p, Same H H' → H p = none → PurseAt H' p 0 → Q (.ref p) H'
theorem ok_purse {f : Addr} {fd : FuncData} (F : Fun K "_law_purse" "_law_purse" sPurse f fd) (B : Bl mg) : FnOk P w K mg base CX0 1 f fd ["_law_script", "_law_at"] (spPurse K) := by
  refine F.ok scPurse (fun vs H Q E h => ?_) (fun cdv A outer s H vs Q E hr h => ?_)
  · obtain ⟨a, ns, i, rfl, _⟩ := h
    rfl
  · obtain ⟨a, ns, i, rfl, hS, hlen, hi, q⟩ := h
    refine ⟨_, pss_cons (ps_set (i := 2) scPurse.nd rfl (.inl rfl) (pe_callB (cr_sum rfl) (by rfl) B.sum (by decide +kernel) (pa_cons (pe_slice sl_list (pv 0) (po_some (pv 1)) (po_some (pe_op op_add (pv 1) pe_int))) pa_nil)))
      (pss_one (ps_ret (pe_lst (pa_cons (pe_op op_mod (pe_callTy call_int1 (by rfl) B.int (by decide +kernel) (pa_cons (pe_callB (call_max2 rfl) (by rfl) B.max (by decide +kernel) (pa_cons (pe_op op_sub (pv 2) (pe_op op_powW pe_int pe_int)) (pa_cons pe_int pa_nil))) pa_nil)) (pe_op op_powW (pe_op op_powW pe_int pe_int) pe_int))
        (pa_cons (pe_op op_mod (pe_callTy call_int1 (by rfl) B.int (by decide +kernel) (pa_cons (pv 2) pa_nil)) pe_int) (pa_cons pe_int (pa_cons (pv 1) pa_nil))))))), ?_⟩
    refine ⟨_, rfl, _, rfl, _, rfl, _, rfl, _, _, rfl, rfl, _, rfl, a, _, rfl, hS, fun c nc => ?_⟩
    obtain ⟨ms, em⟩ := cut_ints ns (some (i : Int)) (some ((i : Int) + 1))
    refine ⟨c, ms, rfl, .inl (.inl (em ▸ upd_same)), ?_⟩
    generalize ms.sum = S
    have s1 : Same H (upd H c (.lst (cutV (ns.map V.int) (some (i : Int)) (some ((i : Int) + 1))))) := same_upd nc
    generalize upd H c (.lst (cutV (ns.map V.int) (some (i : Int)) (some ((i : Int) + 1)))) = H1 at s1 ⊢
    refine ⟨_, rfl, _, _, rfl, rfl, ⟨by decide, by decide +kernel⟩, _, _, rfl, rfl, _, _, rfl, .inl ⟨_, rfl, ?_⟩⟩
    refine ⟨_, _, rfl, rfl, ⟨by decide, by decide +kernel⟩, _, _, rfl, rfl, ⟨by decide, by decide +kernel⟩, _, _, rfl, rfl, ?_, ?_⟩
    · show (0 : Int) < (10 ^ Int.toNat 60) ^ Int.toNat 8
      decide +kernel
    refine ⟨_, rfl, .inl ⟨_, rfl, _, _, rfl, rfl, (show (0 : Int) < 2147483629 by decide), _, rfl, (show 4 ≤ sizeLine by decide +kernel), fun p np => ?_⟩⟩
    refine q _ p (s1.trans (same_upd np)) (s1.free np) ?_
    refine ⟨_, _, _, _, upd_same, Int.emod_nonneg _ (by decide), ?_, Int.le_refl _, Int.le_refl _, by omega, by omega⟩
    exact Int.lt_trans (Int.emod_lt_of_pos _ (by decide)) (by decide)
/-! ### mixed: some count -/
theorem scMixed : FnScope ["_law_seed", "_law_turn", "_law_at", "_law_mixed_here"] ["_law_seed", "_law_turn", "_law_at"] (defScope sMixed) := ⟨rfl, rfl, rfl, by decide +kernel, rfl, by decide +kernel, by decide +kernel⟩
def spMixed : Sp := fun vs H Q _ => ∃ s t a : Int, vs = [.int s, .int t, .int a] ∧ (-(2 ^ 64) < t ∧ t < 2 ^ 64) ∧ ∀ r : Int, Q (.int r) H
theorem ok_mixed {f : Addr} {fd : FuncData} (F : Fun K "_law_mixed" "_law_mixed" sMixed f fd) (B : Bl mg) : FnOk P w K mg base CX0 1 f fd ["_law_seed", "_law_turn", "_law_at"] spMixed := by
  refine F.ok scMixed (fun vs H Q E h => ?_) (fun cdv A outer s H vs Q E hr h => ?_)
  · obtain ⟨s, t, a, rfl, _⟩ := h
    rfl
  · obtain ⟨sd, tn, at_, rfl, ht, q⟩ := h
    refine ⟨_, pss_cons (ps_set (i := 3) scMixed.nd rfl (.inl rfl) (pe_op op_add (pe_op op_mul (pv 0) pe_int) (pe_op op_mul (pe_op op_mul pe_int (pv 1)) (pv 1))))
      (pss_cons (ps_set (i := 3) scMixed.nd rfl (.inl rfl) (pe_op op_mod (pe_callTy call_int1 (by rfl) B.int (by decide +kernel) (pa_cons (pe_op op_add (pe_op op_add (pv 3) (pe_op op_mul pe_int (pv 2))) (pv 1)) pa_nil)) pe_int))
      (pss_cons (ps_set (i := 3) scMixed.nd rfl (.inl rfl) (pe_op op_mod (pe_callTy call_int1 (by rfl) B.int (by decide +kernel) (pa_cons (pe_op op_add (pe_op op_mul (pv 3) (pv 3)) pe_int) pa_nil)) pe_int))
      (pss_one (ps_ret (pe_op op_mod (pe_callTy call_int1 (by rfl) B.int (by decide +kernel) (pa_cons (pe_op op_mul (pv 3) pe_int) pa_nil)) pe_int))))), ?_⟩
    refine ⟨_, rfl, _, _, rfl, rfl, .inr ⟨by decide, by decide⟩, _, rfl, _, _, rfl, rfl, .inl ⟨by decide, by decide⟩, _, rfl, _, _, rfl, rfl, .inr ht, _, _, rfl, rfl, ?_⟩
    generalize sd * 69069 + 104729 * tn * tn = m1
    refine ⟨_, rfl, _, rfl, _, _, rfl, rfl, .inl ⟨by decide, by decide⟩, _, _, rfl, rfl, _, rfl, _, _, rfl, rfl, .inl ⟨_, rfl, _, _, rfl, rfl, (show (0 : Int) < 2147483647 by decide), ?_⟩⟩
    generalize m1 + 7919 * at_ + tn = m2
    have b1 := Int.emod_nonneg m2 (show (2147483647 : Int) ≠ 0 by decide)
    have b2 := Int.emod_lt_of_pos m2 (show (0 : Int) < 2147483647 by decide)
    generalize m2 % 2147483647 = m3 at b1 b2
    refine ⟨_, rfl, _, rfl, _, _, rfl, rfl, .inl ⟨by omega, by omega⟩, _, _, rfl, rfl, .inl ⟨_, rfl, _, _, rfl, rfl, (show (0 : Int) < 2147483629 by decide), ?_⟩⟩
    generalize (m3 * m3 + 40503) % 2147483629 = m4
    exact ⟨_, rfl, _, _, rfl, rfl, .inr ⟨by decide, by decide⟩, .inl ⟨_, rfl, _, _, rfl, rfl, (show (0 : Int) < 2147483587 by decide), q _⟩⟩
/-! ### draw: a count below many; the purse goes on -/
theorem scDraw : FnScope ["_law_purse_here", "_law_many", "_law_drawn", "_law_found", "_law_piece"] ["_law_purse_here", "_law_many"] (defScope sDraw) := ⟨rfl, rfl, rfl, by decide +kernel, rfl, by decide +kernel, by decide +kernel⟩
def spDraw : Sp := fun vs H Q _ => ∃ (p : Addr) (n : Nat) (b : Int), vs = [.ref p, .int n] ∧ 1 ≤ n ∧ n < 2 ^ 27 ∧ PurseAt H p b ∧ b ≤ 2 ^ 60 ∧
  ∀ (H' : Hp) (r : Nat), r < n → PurseAt H' p (b + 1) → (∀ c, c ≠ p → H' c = H c) → Q (.int r) H'
theorem ok_draw {f g : Addr} {fd gd : FuncData} (F : Fun K "_law_draw" "_law_draw" sDraw f fd) (B : Bl mg) (G : FnOk P w K mg base CX0 1 g gd ["_law_seed", "_law_turn", "_law_at"] spMixed) (gG : mg "_law_mixed" = some (.ref g)) (kG : PySem.W.keepIn K (.ref g) = true) (bG : Binds K gd ["_law_seed", "_law_turn", "_law_at"] []) :
    FnOk P w K mg base CX0 2 f fd ["_law_purse_here", "_law_many"] spDraw := by
  refine F.ok scDraw (fun vs H Q E h => ?_) (fun cdv A outer s H vs Q E hr h => ?_)
  · obtain ⟨p, n, b, rfl, _⟩ := h
    rfl
  · obtain ⟨p, n, b, rfl, hn1, hn2, hP, hb, q⟩ := h
    refine ⟨_, pss_cons (ps_if (pt_cmpR op_gt (pe_ix ix_list (pv 0) pe_int (fun _ _ => rfl)) pe_int (nomark _))
        (pss_cons (ps_set (i := 2) scDraw.nd rfl (.inl rfl) (pe_op op_mod (pe_callTy call_int1 (by rfl) B.int (by decide +kernel) (pa_cons (pe_ix ix_list (pv 0) pe_int (fun _ _ => rfl)) pa_nil)) (pv 1)))
        (pss_cons (ps_asg (pe_op op_fdivW (pe_ix ix_list (pv 0) pe_int (fun _ _ => rfl)) (pv 1)) (pg_sub (pv 0) pe_int set_list))
        (pss_one (ps_ret (pv 2))))) pss_nil)
      (pss_cons (ps_set (i := 3) scDraw.nd rfl (.inl rfl) pe_int)
      (pss_cons (ps_for PassesOwn.never rfl (pi_range1 rfl B.range (pa_cons (pe_op op_add pe_int (pe_op op_fdiv (pe_bits (pv 1)) pe_int)) pa_nil)) (pg_name (i := 4) scDraw.nd rfl (Or.inl rfl))
        (pss_cons (ps_asg (pe_op op_add (pe_ix ix_list (pv 0) pe_int (fun _ _ => rfl)) pe_int) (pg_sub (pv 0) pe_int set_list))
        (pss_one (ps_set (i := 3) scDraw.nd rfl (.inl rfl) (pe_op op_add (pe_op op_mul (pv 3) pe_int) (pe_call G hr rfl gG kG bG .nil pass0 (pa_cons (pe_ix ix_list (pv 0) pe_int (fun _ _ => rfl)) (pa_cons (pe_ix ix_list (pv 0) pe_int (fun _ _ => rfl)) (pa_cons (pe_ix ix_list (pv 0) pe_int (fun _ _ => rfl)) pa_nil)))))))))
      (pss_one (ps_ret (pe_op op_mod (pe_callTy call_int1 (by rfl) B.int (by decide +kernel) (pa_cons (pv 3) pa_nil)) (pv 1)))))), ?_⟩
    obtain ⟨p0, p1, p2, p3, hp, h1, h2, h3, h4, h5, h6⟩ := hP
    refine ⟨_, rfl, p, _, _, _, rfl, rfl, SqL.of hp, rfl, _, _, rfl, rfl, _, rfl, ?_⟩
    refine (ite2 (fun _ => ?_) (fun _ => ?_))
    · refine ⟨_, rfl, p, _, _, _, rfl, rfl, SqL.of hp, rfl, .inl ⟨_, rfl, _, rfl, _, _, rfl, rfl, (by omega : (0 : Int) < (n : Int)), ?_⟩⟩
      have m1 := Int.emod_nonneg p0 (show (n : Int) ≠ 0 by omega)
      have m2 := Int.emod_lt_of_pos p0 (show (0 : Int) < (n : Int) by omega)
      refine ⟨_, rfl, p, _, _, _, rfl, rfl, SqL.of hp, rfl, _, rfl, _, _, rfl, rfl, wide_div (b := 27) (by omega) (by rw [Int.natAbs_natCast]; exact hn2) (by decide) (by decide), ?_⟩
      refine ⟨_, rfl, p, _, _, 0, rfl, rfl, hp, rfl, ?_⟩
      refine ⟨_, rfl, ?_⟩
      show Q (.int (p0 % (n : Int))) _
      rw [show p0 % (n : Int) = ((p0 % (n : Int)).toNat : Int) from by omega]
      exact q _ _ (by omega) ⟨_, p1, p2, p3, upd_same, h1, h2, h3, by omega, h5, h6⟩ fun c hc => upd_ne hc
    · have eb : (1 : Int) + ((Builtin.Int.intBits (n : Int) : Nat) : Int) / 28 = 1 := by
        have : Builtin.Int.intBits (n : Int) ≤ 27 := by
          unfold Builtin.Int.intBits
          split
          · omega
          · rw [Int.natAbs_natCast]
            have := (Nat.log2_lt (by omega)).mpr hn2
            omega
        omega
      refine ⟨_, rfl, _, rfl, _, _, rfl, rfl, ⟨by decide, by decide⟩, _, _, rfl, rfl, _, rfl, ?_, ?_, ?_⟩
      · show -(2 ^ 62) ≤ (1 : Int) + ((Builtin.Int.intBits (n : Int) : Nat) : Int) / 28
        rw [eb]; decide
      · show (1 : Int) + ((Builtin.Int.intBits (n : Int) : Nat) : Int) / 28 < 2 ^ 62
        rw [eb]; decide
      show ∃ W : Nat → Nat → L2.St → Hp → Prop, _
      rw [eb]
      refine for_range (n := 1) (fun i σ H' => ∃ (z : Int) (d v : Option V), i ≤ 1 ∧ σ = [some (.ref p), some (.int n), d, some (.int z), v] ∧ PurseAt H' p (b + (i : Int)) ∧ ∀ c, c ≠ p → H' c = H c) ?_ ?_ ?_
      · exact ⟨0, none, none, by omega, rfl, ⟨p0, p1, p2, p3, hp, h1, h2, h3, by omega, h5, h6⟩, fun c _ => rfl⟩
      · rintro i σ H' hi ⟨z, d, v, _, rfl, ⟨q0, q1, q2, q3, hq, g1, g2, g3, g4, g5, g6⟩, hc⟩
        refine ⟨_, rfl, p, _, _, _, rfl, rfl, SqL.of hq, rfl, _, _, rfl, rfl, _, rfl, p, _, _, 2, rfl, rfl, hq, rfl, ?_⟩
        have eq : (upd H' p (.lst ([V.int q0, V.int q1, V.int q2, V.int q3].set 2 (V.int (q2 + 1))))) p = some (.lst [V.int q0, V.int q1, V.int (q2 + 1), V.int q3]) := upd_same
        refine ⟨_, rfl, _, _, rfl, rfl, .inr ⟨by decide, by decide⟩, _, rfl, p, _, _, _, rfl, rfl, SqL.of eq, rfl, _, rfl, p, _, _, _, rfl, rfl, SqL.of eq, rfl, _, rfl, p, _, _, _, rfl, rfl, SqL.of eq, rfl, ?_⟩
        refine ⟨q1, q2 + 1, q3, rfl, ⟨by omega, by omega⟩, fun r => ⟨_, _, rfl, rfl, ?_⟩⟩
        exact ⟨_, d, _, by omega, rfl, ⟨q0, q1, q2 + 1, q3, eq, g1, g2, by omega, by omega, g5, g6⟩, fun c hcp => (upd_ne hcp).trans (hc c hcp)⟩
      · rintro σ H' ⟨z, d, v, _, rfl, hP', hc⟩
        refine ⟨_, rfl, .inl ⟨_, rfl, _, rfl, _, _, rfl, rfl, (by omega : (0 : Int) < (n : Int)), ?_⟩⟩
        have m1 := Int.emod_nonneg z (show (n : Int) ≠ 0 by omega)
        have m2 := Int.emod_lt_of_pos z (show (0 : Int) < (n : Int) by omega)
        show Q (.int (z % (n : Int))) _
        rw [show z % (n : Int) = ((z % (n : Int)).toNat : Int) from by omega]
        exact q _ _ (by omega) hP' hc
end
end K2


namespace K2
open L2 PyProof.Rows PySem PySem.Spec
section
variable {base : Heap} {mg : Str → Option Value} {K : PySem.W.Frag} {w : World} {P : Program}
theorem PurseAt.same {H H' : Hp} {p : Addr} {b : Int} (e : Same H H') (h : PurseAt H p b) : PurseAt H' p b := by
  obtain ⟨p0, p1, p2, p3, hp, r⟩ := h
  exact ⟨p0, p1, p2, p3, e _ _ hp, r⟩
theorem PurseAt.le {H : Hp} {p : Addr} {b c : Int} (h : PurseAt H p b) (hb : b ≤ c) : PurseAt H p c := by
  obtain ⟨p0, p1, p2, p3, hp, h1, h2, h3, h4, r⟩ := h
  exact ⟨p0, p1, p2, p3, hp, h1, h2, h3, by omega, r⟩
theorem scPurses : FnScope ["_law_script", "_law_few", "_law_at"] ["_law_script", "_law_few"] (defScope sPurses) := ⟨rfl, rfl, rfl, by decide +kernel, rfl, by decide +kernel, by decide +kernel⟩
def spPurses (K : PySem.W.Frag) : Sp := fun vs H Q _ => ∃ (a : Addr) (ns : List Int) (n : Nat), vs = [.ref a, .int n] ∧ SqL K H a (ns.map V.int) ∧ ns.length ≤ 63 ∧ n ≤ 100 ∧
  ∀ H' p (ps : List Addr), Same H H' → H p = none → H' p = some (.lst (ps.map V.ref)) → ps.length ≤ 100 → (∀ x ∈ ps, PurseAt H' x 0) → Q (.ref p) H'
theorem ok_purses {f g : Addr} {fd gd : FuncData} (F : Fun K "_law_purses" "_law_purses" sPurses f fd) (B : Bl mg) (G : FnOk P w K mg base CX0 1 g gd ["_law_script", "_law_at"] (spPurse K)) (gG : mg "_law_purse" = some (.ref g)) (kG : PySem.W.keepIn K (.ref g) = true) (bG : Binds K gd ["_law_script", "_law_at"] []) :
    FnOk P w K mg base CX0 2 f fd ["_law_script", "_law_few"] (spPurses K) := by
  refine F.ok scPurses (fun vs H Q E h => ?_) (fun cdv A outer s H vs Q E hr h => ?_)
  · obtain ⟨a, ns, n, rfl, _⟩ := h
    rfl
  · obtain ⟨a, ns, n, rfl, hS, hlen, hn, q⟩ := h
    refine ⟨_, pss_one (ps_ret (pe_lc (own := [("_law_at", 2)]) (g := gName 2) (tt := tYes) rfl scPurses.nd
      (pi_range1 rfl B.range (pa_cons (pe_callB (call_max2 rfl) (by rfl) B.max (by decide +kernel) (pa_cons pe_int (pa_cons (pe_callB (call_min2 rfl) (by rfl) B.min (by decide +kernel) (pa_cons (pv 1) (pa_cons (pe_callB call_len_seq (by rfl) B.len PySem.boot_len (pa_cons (pv 0) pa_nil)) pa_nil))) pa_nil))) pa_nil))
      (blkOk_by (N := ["_law_script", "_law_few", "_law_at"]) (sc := defScope sPurses) (by decide +kernel)) (fun _ _ _ _ _ => pg_name (i := 2) scPurses.nd rfl (Or.inl rfl)) (fun _ _ _ _ _ => pts_nil)
      (fun _ _ _ _ _ => pe_call G hr rfl gG kG bG .nil pass0 (pa_cons (pv 0) (pa_cons (pv 2) pa_nil))))), ?_⟩
    have el : (List.map V.int ns).length = ns.length := List.length_map _
    refine ⟨_, rfl, _, rfl, a, _, rfl, .inl hS, _, _, rfl, _, _, rfl, _, rfl, ?_⟩
    have key : ∀ J : Int, J = (if (if ((List.map V.int ns).length : Int) < (n : Int) then ((List.map V.int ns).length : Int) else (n : Int)) > 1 then (if ((List.map V.int ns).length : Int) < (n : Int) then ((List.map V.int ns).length : Int) else (n : Int)) else 1) → 1 ≤ J ∧ J ≤ 100 := by
      intro J e
      rw [el] at e
      split at e <;> split at e <;> omega
    obtain ⟨j1, j2⟩ := key _ rfl
    generalize (if (if ((List.map V.int ns).length : Int) < (n : Int) then ((List.map V.int ns).length : Int) else (n : Int)) > 1 then (if ((List.map V.int ns).length : Int) < (n : Int) then ((List.map V.int ns).length : Int) else (n : Int)) else 1) = J at j1 j2 ⊢
    refine ⟨by omega, by omega, fun D hD => ?_⟩
    refine lc_range (fun i H' => ∃ ps : List Addr, H' D = some (.lst (ps.map V.ref)) ∧ ps.length = i ∧ (∀ x ∈ ps, PurseAt H' x 0) ∧ Same H H') ⟨[], upd_same, rfl, (fun x hx => nomatch hx), same_upd hD⟩ ?_ ?_
    · rintro i H1 hi ⟨ps, h1, h2, h3, h4⟩
      refine ⟨rfl, ?_⟩
      refine ⟨_, rfl, _, rfl, a, ns, i, ?_, h4.seq hS, hlen, by omega, fun H2 x s2 hx hP => ?_⟩
      · show [V.ref a, V.int (0 + (i : Int))] = [V.ref a, V.int (i : Int)]
        rw [Int.zero_add]
      have nxD : ∀ y, PurseAt H2 y 0 → y ≠ D := fun y hy e => by
        obtain ⟨_, _, _, _, hp, _⟩ := hy
        rw [e, s2 _ _ h1] at hp
        have := congrArg (fun o => match o with | some (HO.lst l) => l | _ => []) hp
        match ps, this with
        | [], z => cases z
        | b :: r, z => cases z
      refine ⟨_, s2 _ _ h1, by rw [List.length_map, h2]; exact small1000 (by omega), ps ++ [x], ?_, by rw [List.length_append, h2]; rfl, fun y hy => ?_, fun b o e => ?_⟩
      · rw [upd_same, List.map_append]
        rfl
      · have hy2 : PurseAt H2 y 0 := by
          rcases List.mem_append.mp hy with z | z
          · exact (h3 y z).same s2
          · rw [List.mem_singleton.mp z]; exact hP
        obtain ⟨p0, p1, p2, p3, hp, r⟩ := hy2
        exact ⟨p0, p1, p2, p3, by rw [upd_ne (nxD y ⟨p0, p1, p2, p3, hp, r⟩)]; exact hp, r⟩
      · rw [upd_ne (ne_of_none e hD)]
        exact s2 _ _ (h4 _ _ e)
    · rintro H1 ⟨ps, h1, h2, h3, h4⟩
      exact q H1 D ps h4 hD h1 (by omega) h3
/-! ### word: one to eight letters -/
def isWord (z : Str) : Prop := 1 ≤ z.length ∧ z.length ≤ 8 ∧ ∀ c ∈ z.cps.toList, 97 ≤ c ∧ c ≤ 122
def isLet (y : Str) : Prop := ∃ c : Nat, y = ⟨#[c]⟩ ∧ 97 ≤ c ∧ c ≤ 122
theorem join_let : ∀ ys : List Str, (∀ y ∈ ys, isLet y) → (Str.join "" ys).cps.toList.length = ys.length ∧ ∀ c ∈ (Str.join "" ys).cps.toList, 97 ≤ c ∧ c ≤ 122
  | [], _ => ⟨rfl, fun c hc => by cases hc⟩
  | [x], h => by
    obtain ⟨c, rfl, hc⟩ := h x List.mem_cons_self
    exact ⟨rfl, fun d hd => by cases hd with | head => exact hc | tail _ z => cases z⟩
  | x :: y :: r, h => by
    obtain ⟨c, rfl, hc⟩ := h x List.mem_cons_self
    obtain ⟨i1, i2⟩ := join_let (y :: r) fun z hz => h z (List.mem_cons_of_mem _ hz)
    have e : (Str.join "" ((⟨#[c]⟩ : Str) :: y :: r)).cps.toList = c :: (Str.join "" (y :: r)).cps.toList := by
      show ((#[c] ++ (#[] : Array Nat)) ++ (Str.join "" (y :: r)).cps).toList = _
      simp
    rw [e]
    exact ⟨by rw [List.length_cons, i1]; rfl, fun d hd => by
      rcases List.mem_cons.1 hd with rfl | hd
      · exact hc
      · exact i2 d hd⟩
theorem abc_eq : (("abcdefghijklmnopqrstuvwxyz" : Str)).cps.toList = (List.range 26).map (97 + ·) := by decide +kernel
theorem sum_let : ∀ ys : List Str, (∀ y ∈ ys, isLet y) → (ys.map (·.length)).sum = ys.length
  | [], _ => rfl
  | y :: r, h => by
    obtain ⟨c, rfl, hc⟩ := h y List.mem_cons_self
    rw [List.map_cons, List.sum_cons, sum_let r fun z hz => h z (List.mem_cons_of_mem _ hz)]
    change 1 + r.length = r.length + 1
    omega
theorem scWord : FnScope ["_law_purse_here", "_law_size", "_law_turn"] ["_law_purse_here"] (defScope sWord) := ⟨rfl, rfl, rfl, by decide +kernel, rfl, by decide +kernel, by decide +kernel⟩
def spWord : Sp := fun vs H Q _ => ∃ (p : Addr) (b : Int), vs = [.ref p] ∧ PurseAt H p b ∧ b ≤ 2 ^ 40 ∧
  ∀ H' z, isWord z → PurseAt H' p (b + 20) → (∀ c o, c ≠ p → H c = some o → H' c = some o) → Q (.str z) H'
theorem ok_word {f g : Addr} {fd gd : FuncData} (F : Fun K "_law_word" "_law_word" sWord f fd) (B : Bl mg) (G : FnOk P w K mg base CX0 2 g gd ["_law_purse_here", "_law_many"] spDraw) (gG : mg "_law_draw" = some (.ref g)) (kG : PySem.W.keepIn K (.ref g) = true) (bG : Binds K gd ["_law_purse_here", "_law_many"] []) :
    FnOk P w K mg base CX0 3 f fd ["_law_purse_here"] spWord := by
  refine F.ok scWord (fun vs H Q E h => ?_) (fun cdv A outer s H vs Q E hr h => ?_)
  · obtain ⟨p, b, rfl, _⟩ := h
    rfl
  · obtain ⟨p, b, rfl, hP, hb, q⟩ := h
    refine ⟨_, pss_cons (ps_set (i := 1) scWord.nd rfl (.inl rfl) (pe_op op_add pe_int (pe_call G hr rfl gG kG bG .nil pass0 (pa_cons (pv 0) (pa_cons (pe_ifExp (pt_cmpR op_eq (pe_call G hr rfl gG kG bG .nil pass0 (pa_cons (pv 0) (pa_cons pe_int pa_nil))) pe_int (nomark _)) pe_int pe_int) pa_nil)))))
      (pss_one (ps_ret (pe_join pe_str (pe_lc (own := [("_law_turn", 2)]) (g := gName 2) (tt := tYes) rfl scWord.nd (pi_range1 rfl B.range (pa_cons (pv 1) pa_nil))
        (blkOk_by (N := ["_law_purse_here", "_law_size", "_law_turn"]) (sc := defScope sWord) (by decide +kernel)) (fun _ _ _ _ _ => pg_name (i := 2) scWord.nd rfl (Or.inl rfl)) (fun _ _ _ _ _ => pts_nil)
        (fun _ _ _ _ _ => pe_ix ix_str pe_str (pe_call G hr rfl gG kG bG .nil pass0 (pa_cons (pv 0) (pa_cons pe_int pa_nil))) (fun _ _ => rfl)))))), ?_⟩
    -- the size
    refine ⟨_, rfl, _, rfl, p, 3, b, rfl, by decide, by decide, hP, by omega, fun H1 r1 hr1 hP1 hc1 => ⟨rfl, _, rfl, ?_⟩⟩
    refine ite2 (fun _ => ⟨p, 8, b + 1, rfl, by decide, by decide, hP1, by omega, fun H2 r2 hr2' hP2 hc2 => ⟨_, _, rfl, rfl, ?_⟩⟩) (fun _ => ⟨p, 3, b + 1, rfl, by decide, by decide, hP1, by omega, fun H2 r2 hr2' hP2 hc2 => ⟨_, _, rfl, rfl, ?_⟩⟩)
    all_goals
      have hr2 : r2 < 8 := by omega
      have hc : ∀ c, c ≠ p → H2 c = H c := fun c n => (hc2 c n).trans (hc1 c n)
      refine ⟨⟨_, rfl⟩, _, rfl, _, rfl, by omega, by omega, fun D hD => ?_⟩
      have npD : p ≠ D := by
        obtain ⟨_, _, _, _, hp, _⟩ := hP2
        exact ne_of_none hp hD
      refine lc_range (fun i H' => ∃ ys : List Str, H' D = some (.lst (ys.map V.str)) ∧ ys.length = i ∧ (∀ y ∈ ys, isLet y) ∧ PurseAt H' p (b + 2 + (i : Int)) ∧ ∀ c o, c ≠ p → H c = some o → H' c = some o) ⟨[], upd_same, rfl, (fun x hx => nomatch hx), (hP2.le (by omega)).same (same_upd hD), fun c o n e => ?_⟩ ?_ ?_
      · have e2 : H2 c = some o := (hc c n).trans e
        exact same_upd hD _ _ e2
      · rintro i H3 hi ⟨ys, h1, h2, h3, h4, h5⟩
        refine ⟨rfl, ?_⟩
        refine ⟨_, rfl, p, 26, _, rfl, by decide, by decide, h4, by omega, fun H4 r3 hr3 hP3 hc3 => ?_⟩
        have hl : (("abcdefghijklmnopqrstuvwxyz" : Str)).cps.toList[r3]? = some (97 + r3) := by
          rw [abc_eq, List.getElem?_map, List.getElem?_range hr3]
          rfl
        have hD4 : H4 D = some (.lst (ys.map V.str)) := (hc3 D npD.symm).trans h1
        refine ⟨_, (r3 : Int), 97 + r3, rfl, rfl, by decide +kernel, atI_nat hl, _, hD4, by rw [List.length_map, h2]; exact small1000 (by omega), ys ++ [⟨#[97 + r3]⟩], ?_, by rw [List.length_append, h2]; rfl, fun y hy => ?_, ?_, fun c o n e => ?_⟩
        · rw [upd_same, List.map_append]
          rfl
        · rcases List.mem_append.mp hy with z | z
          · exact h3 y z
          · exact ⟨97 + r3, List.mem_singleton.mp z, by omega, by omega⟩
        · obtain ⟨p0, p1, p2, p3, hp, g1, g2, g3, g4, g5⟩ := hP3
          exact ⟨p0, p1, p2, p3, by rw [upd_ne npD]; exact hp, g1, g2, g3, by omega, g5⟩
        · have e3 := h5 c o n e
          have ncD : c ≠ D := fun z => by
            rw [z] at e n
            have q1 : H2 D = some o := (hc D n).trans e
            rw [hD] at q1
            cases q1
          rw [upd_ne ncD, hc3 c n]
          exact e3
      · rintro H3 ⟨ys, h1, h2, h3, h4, h5⟩
        refine ⟨_, D, ys, rfl, rfl, .inl (SqL.of h1), ?_, ?_⟩
        · rw [sum_let ys h3]
          show ys.length + ys.length * 0 ≤ 16777216
          omega
        · rw [TL.join_eq]
          obtain ⟨i1, i2⟩ := join_let ys h3
          have size : (Str.join "" ys).length = ys.length := by
            change (Str.join "" ys).cps.size = ys.length
            rw [← Array.length_toList, i1]
          refine q H3 _ ⟨?_, ?_, i2⟩ (h4.le (by omega)) h5
          · rw [size]; omega
          · rw [size]; omega
end
end K2


end
-- K2S
section
set_option Elab.async false
set_option linter.all false
set_option maxRecDepth 100000
set_option maxHeartbeats 4100000
/-! ### runturns.shelves: books, catalogues, shelves -/
namespace K2
open L2 PyProof.Rows PySem PySem.Spec TS
abbrev sIsBook : Stmt := top 9
abbrev sIsCat : Stmt := top 10
abbrev sUnlike : Stmt := top 11
section
variable {base : Heap} {mg : Str → Option Value} {K : PySem.W.Frag} {w : World} {P : Program}
theorem boot_isi : bootBuiltins "isinstance" = some (.builtin "isinstance") := by decide +kernel
theorem boot_all : PySem.bootBuiltins "all" = some (.builtin "all") := by decide +kernel
theorem boot_strT : PySem.bootBuiltins "str" = some (.type "str") := by decide +kernel
theorem boot_listT : PySem.bootBuiltins "list" = some (.type "list") := by decide +kernel
/-- what the module's names hold -/
structure Md (mg : Str → Option Value) : Prop where
  isi : mg "isinstance" = none
  all : mg "all" = none
  len : mg "len" = none
  set : mg "set" = none
  str : mg "str" = none
  list : mg "list" = none
  letters : ∃ t, mg "LETTERS" = some (.str "abcdefghijklmnopqrstuvwxyz" t)
  most : ∃ t, mg "MOST_LETTERS" = some (.int 8 t)
theorem word_ok {z : Str} (hz : isWord z) : PyData.canLay0 (.str z) = true := by
  change (z.cps.all (· < 0x110000)) = true
  rw [← Array.all_toList]
  rw [List.all_eq_true]
  intro c hc
  have := hz.2.2 c hc
  exact (decide_eq_true (by omega))
theorem letter_in {z : Str} {i c : Nat} (hz : isWord z) (h : z.cps[i]? = some c) : c ∈ (("abcdefghijklmnopqrstuvwxyz" : Str)).cps.toList := by
  have m : c ∈ z.cps.toList := by
    rw [← Array.getElem?_toList] at h
    exact List.mem_of_getElem? h
  obtain ⟨lo, hi⟩ := hz.2.2 c m
  rw [abc_eq, List.mem_map]
  exact ⟨c - 97, List.mem_range.2 (by omega), by omega⟩
theorem scIsBook : FnScope ["value", "letter"] ["value"] (defScope sIsBook) := ⟨rfl, rfl, rfl, by decide +kernel, rfl, by decide +kernel, by decide +kernel⟩
def spIsBook : Sp := fun vs H Q _ => ∃ z, vs = [.str z] ∧ isWord z ∧ ∀ H', Same H H' → Q (.bl true) H'
theorem ok_isBook {f : Addr} {fd : FuncData} (F : Fun K "is_book" "is_book" sIsBook f fd) (M : Md mg) : FnOk P w K mg base CX0 1 f fd ["value"] spIsBook := by
  obtain ⟨tL, gL⟩ := M.letters
  obtain ⟨tM, gM⟩ := M.most
  refine F.ok scIsBook (fun vs H Q E h => ?_) (fun cdv A outer s H vs Q E hr h => ?_)
  · obtain ⟨z, rfl, _⟩ := h
    rfl
  · obtain ⟨z, rfl, hz, q⟩ := h
    refine ⟨_, pss_cons (ps_if (PW.pt (pw_or (pt_not (pt_val (pe_callB call_isi (by rfl) M.isi boot_isi (pa_cons (pv 0) (pa_cons (pe_bltn (v := .ty "str") rfl M.str boot_strT rfl) pa_nil)))))
          (pw_or (pt_cmpR op_eq (pv 0) pe_str (nomark _)) (pw_or1 (pt_cmpR op_gt (pe_callB call_len_str (by rfl) M.len PySem.boot_len (pa_cons (pv 0) pa_nil)) (pe_glob (v := .int 8) rfl gM ⟨_, rfl⟩) (nomark _)))))) (pss_one (ps_ret pe_bl)) pss_nil)
      (pss_one (ps_ret (pe_callB (cr_all rfl) (by rfl) M.all boot_all (pa_cons (pe_lc (own := [("letter", 1)]) (g := gName 1) (tt := tYes) rfl scIsBook.nd (pi_str (pv 0)) (blkOk_by (N := ["value", "letter"]) (sc := defScope sIsBook) (by decide +kernel))
        (fun _ _ _ _ _ => pg_name (i := 1) scIsBook.nd rfl (Or.inl rfl)) (fun _ _ _ _ _ => pts_nil)
        (fun _ _ _ _ _ => pe_cmpR op_in_sign (pv 1) (pe_glob (v := .str "abcdefghijklmnopqrstuvwxyz") rfl gL ⟨_, rfl⟩) rfl)) pa_nil)))), ?_⟩
    refine ⟨_, rfl, _, _, _, _, _, rfl, .ty _, .base (.str _), kit_ty (by decide +kernel), true, rfl, iteF ?_⟩
    refine ⟨_, rfl, ?_⟩
    refine ⟨rfl, _, rfl, ?_⟩
    have ne : (V.str z = V.str "") = False := by
      simp only [V.str.injEq, eq_iff_iff, iff_false]
      rintro rfl
      exact absurd hz.1 (by decide)
    rw [decide_eq_false (of_eq_false ne)]
    refine iteF ⟨_, rfl, z, rfl, Nat.le_trans hz.2.1 (by decide +kernel), _, _, rfl, rfl, _, rfl, ?_⟩
    rw [decide_eq_false (by have := hz.2.1; omega)]
    refine iteF ?_
    refine ⟨_, rfl, _, rfl, fun D hD => ?_⟩
    refine lc_it (walk_str (z := z)) (fun i H' => H' D = some (.lst ((List.replicate i true).map V.bl)) ∧ Same H H') ⟨upd_same, same_upd hD⟩ (fun _ _ _ _ => trivial) ?_ ?_
    · rintro i x H1 H2 hi ⟨h1, h2⟩ ⟨rfl, c, hc, rfl⟩
      refine ⟨rfl, ?_⟩
      refine ⟨_, rfl, c, _, rfl, rfl, _, h1, by rw [List.length_map, List.length_replicate]; exact small1000 (by have : z.cps.size ≤ 8 := hz.2.1; omega), ?_, fun b o e => ?_⟩
      · rw [upd_same, decide_eq_true (letter_in hz hc)]
        simp [List.replicate_succ']
      · rw [upd_ne (ne_of_none e hD)]
        exact h2 _ _ e
    · rintro H1 ⟨h1, h2⟩
      refine ⟨D, List.replicate z.cps.size true, rfl, SqL.of h1, ?_⟩
      have e : (List.replicate z.cps.size true).all id = true := by simp
      rw [e]
      exact q _ h2
theorem op_in_seqK {X : Cx} {K : PySem.W.Frag} (hK : X.K = K) : OpR X (compareOp .In) (rIn K false) := by
  subst hK
  exact op_in_seq
/-! ### catalogues -/
theorem dp_strs {H : Hp} : ∀ xs : List Str, DpAll K H (xs.map V.str) (xs.map PyData.str)
  | [] => .nil
  | x :: r => .cons (.str x) (dp_strs r)
theorem lay_strs : ∀ xs : List Str, (∀ x ∈ xs, isWord x) → PyData.canLayAll0 (xs.map PyData.str) = true
  | [], _ => rfl
  | x :: r, h => by
    have one : PyData.canLay0 (.str x) = true := word_ok (h x List.mem_cons_self)
    simp only [List.map_cons, PyData.canLayAll0, one, lay_strs r fun y hy => h y (List.mem_cons_of_mem _ hy), Bool.and_true]
theorem deep_strs : ∀ xs : List Str, PyData.depthAll (xs.map PyData.str) ≤ 1
  | [] => Nat.zero_le _
  | x :: r => by
    have := deep_strs r
    simp only [PyData.depthAll, PyData.depth, List.map_cons]
    omega
theorem shaped_strs {xs : List Str} (h : ∀ x ∈ xs, isWord x) : SeqAt.shaped (.list (xs.map PyData.str)) = true := by
  have d := deep_strs xs
  simp only [SeqAt.shaped, PyData.canLay0, lay_strs xs h, PyData.depth, Bool.true_and, decide_eq_true_eq]
  exact decide_eq_true (show PyData.depthAll (xs.map PyData.str) + 1 ≤ 64 by omega)
theorem eqv_nil {xs : List Str} (h : xs ≠ []) : PyData.eqv (.list (xs.map PyData.str)) (.list []) = false := by
  cases xs with
  | nil => exact absurd rfl h
  | cons x r => rfl
theorem scIsCat : FnScope ["value", "book"] ["value"] (defScope sIsCat) := ⟨rfl, rfl, rfl, by decide +kernel, rfl, by decide +kernel, by decide +kernel⟩
/-- a list of unlike books -/
def Cat (xs : List Str) : Prop := xs ≠ [] ∧ xs.length ≤ 100 ∧ (∀ x ∈ xs, isWord x) ∧ xs.Nodup
def spIsCat : Sp := fun vs H Q _ => ∃ (l : Addr) (xs : List Str), vs = [.ref l] ∧ H l = some (.lst (xs.map V.str)) ∧ Cat xs ∧ ∀ H', Same H H' → Q (.bl true) H'
theorem ok_isCat {f g : Addr} {fd gd : FuncData} (F : Fun K "is_catalogue" "is_catalogue" sIsCat f fd) (M : Md mg) (G : FnOk P w K mg base CX0 1 g gd ["value"] spIsBook) (gG : mg "is_book" = some (.ref g)) (kG : PySem.W.keepIn K (.ref g) = true) (bG : Binds K gd ["value"] []) :
    FnOk P w K mg base CX0 2 f fd ["value"] spIsCat := by
  refine F.ok scIsCat (fun vs H Q E h => ?_) (fun cdv A outer s H vs Q E hr h => ?_)
  · obtain ⟨l, xs, rfl, _⟩ := h
    rfl
  · obtain ⟨l, xs, rfl, hl, ⟨ne, few, words, nd⟩, q⟩ := h
    refine ⟨_, pss_cons (ps_if (PW.pt (pw_or (pt_not (pt_val (pe_callB call_isi (by rfl) M.isi boot_isi (pa_cons (pv 0) (pa_cons (pe_bltn (v := .ty "list") rfl M.list boot_listT rfl) pa_nil)))))
          (pw_or1 (pt_cmpR (op_eqD hr.units) (pv 0) (pe_lst pa_nil) (nomark _))))) (pss_one (ps_ret pe_bl)) pss_nil)
      (pss_one (ps_ret (pe_and (pe_callB (cr_all rfl) (by rfl) M.all boot_all (pa_cons (pe_lc (own := [("book", 1)]) (g := gName 1) (tt := tYes) rfl scIsCat.nd (pi_list (pv 0)) (blkOk_by (N := ["value", "book"]) (sc := defScope sIsCat) (by decide +kernel))
        (fun _ _ _ _ _ => pg_name (i := 1) scIsCat.nd rfl (Or.inl rfl)) (fun _ _ _ _ _ => pts_nil)
        (fun _ _ _ _ _ => pe_call G hr rfl gG kG bG .nil pass0 (pa_cons (pv 1) pa_nil))) pa_nil))
        (pe_one (pe_cmpR op_eq (pe_lenSetT rfl (by rfl) M.len (by rfl) M.set (pv 0) (K := K)) (pe_callB call_len_seq (by rfl) M.len PySem.boot_len (pa_cons (pv 0) pa_nil)) (nomark _)))))), ?_⟩
    refine ⟨_, rfl, _, _, _, _, _, rfl, .ty _, .base (.lst hl), kit_ty (by decide +kernel), true, rfl, iteF ?_⟩
    refine ⟨_, rfl, Nat.zero_le _, fun e he => ?_⟩
    have s1 : Same H (upd H e (.lst [])) := same_upd he
    refine ⟨.list (xs.map PyData.str), .list [], .lst (SqL.of (s1 _ _ hl)) (dp_strs xs), .lst (SqL.of upd_same) .nil, shaped_strs words, by decide +kernel, _, rfl, ?_⟩
    rw [eqv_nil ne]
    refine iteF ?_
    generalize upd H e (.lst []) = H0 at s1
    refine ⟨_, rfl, l, rfl, ⟨_, SqL.of (s1 _ _ hl)⟩, fun D hD => ?_⟩
    refine lc_list (K := K) (a := l) (xs := xs.map V.str) (fun i H' => H' D = some (.lst ((List.replicate i true).map V.bl)) ∧ Same H0 H') ⟨upd_same, same_upd hD⟩ (fun i H' _ ⟨_, h2⟩ => SqL.of (h2 _ _ (s1 _ _ hl))) ?_ ?_
    · rintro i x H1 hx ⟨h1, h2⟩
      rw [List.getElem?_map] at hx
      obtain ⟨z, hz, rfl⟩ := Option.map_eq_some_iff.1 hx
      have lt := (List.getElem?_eq_some_iff.1 hz).1
      refine ⟨rfl, ?_⟩
      refine ⟨_, rfl, z, rfl, words z (List.mem_of_getElem? hz), fun H2 h3 => ?_⟩
      refine ⟨_, h3 _ _ h1, by rw [List.length_map, List.length_replicate]; exact small1000 (by omega), ?_, fun b o eb => ?_⟩
      · rw [upd_same]
        simp [List.replicate_succ']
      · rw [upd_ne (ne_of_none eb hD)]
        exact h3 _ _ (h2 _ _ eb)
    · rintro H1 ⟨h1, h2⟩
      refine ⟨D, List.replicate xs.length true, rfl, SqL.of (by rw [← List.length_map (f := V.str)]; exact h1), ?_⟩
      have ea : (List.replicate xs.length true).all id = true := by simp
      rw [ea]
      refine ⟨_, rfl, iteT ?_⟩
      have stands : SqL K H1 l (xs.map V.str) := SqL.of (h2 _ _ (s1 _ _ hl))
      refine ⟨_, rfl, l, xs, rfl, stands, by omega, _, rfl, l, _, rfl, .inl stands, rfl, ?_⟩
      have e2 : (V.int ((met xs xs.length : Nat) : Int) = V.int (((xs.map V.str).length : Nat) : Int)) := by rw [met_all nd xs.length Nat.le.refl, List.length_map]
      rw [decide_eq_true e2]
      exact q _ (s1.trans h2)
/-! ### lists of some of a catalogue's books -/
theorem flat_strs (xs : List Str) : (xs.map V.str).all flatV = true := by
  rw [List.all_eq_true]
  intro v hv
  obtain ⟨z, _, rfl⟩ := List.mem_map.1 hv
  rfl
theorem inV_strs (z : Str) : ∀ xs : List Str, inV (.str z) (xs.map V.str) = decide (z ∈ xs)
  | [] => by simp [inV]
  | x :: r => by
    have ih := inV_strs z r
    unfold inV at ih ⊢
    rw [List.map_cons, List.any_cons, ih]
    change (x == z || decide (z ∈ r)) = decide (z ∈ x :: r)
    by_cases e : x = z
    · simp [e]
    · have e' : ¬ z = x := fun q => e q.symm
      simp [e, e']
theorem scUnlike : FnScope ["books", "value", "book"] ["books", "value"] (defScope sUnlike) := ⟨rfl, rfl, rfl, by decide +kernel, rfl, by decide +kernel, by decide +kernel⟩
def spUnlike : Sp := fun vs H Q _ => ∃ (l m : Addr) (xs ys : List Str), vs = [.ref l, .ref m] ∧ H l = some (.lst (xs.map V.str)) ∧ H m = some (.lst (ys.map V.str)) ∧ xs.length ≤ 100 ∧ ys.length ≤ 100 ∧ (∀ y ∈ ys, y ∈ xs) ∧ ys.Nodup ∧ ∀ H', Same H H' → Q (.bl true) H'
theorem ok_unlike {f : Addr} {fd : FuncData} (F : Fun K "are_unlike_of" "are_unlike_of" sUnlike f fd) (M : Md mg) : FnOk P w K mg base CX0 1 f fd ["books", "value"] spUnlike := by
  refine F.ok scUnlike (fun vs H Q E h => ?_) (fun cdv A outer s H vs Q E hr h => ?_)
  · obtain ⟨l, m, xs, ys, rfl, _⟩ := h
    rfl
  · obtain ⟨l, m, xs, ys, rfl, hl, hm, few, few2, sub, nd, q⟩ := h
    refine ⟨_, pss_cons (ps_if (pt_not (pt_val (pe_callB call_isi (by rfl) M.isi boot_isi (pa_cons (pv 1) (pa_cons (pe_bltn (v := .ty "list") rfl M.list boot_listT rfl) pa_nil))))) (pss_one (ps_ret pe_bl)) pss_nil)
      (pss_one (ps_ret (pe_and (pe_callB (cr_all rfl) (by rfl) M.all boot_all (pa_cons (pe_lc (own := [("book", 2)]) (g := gName 2) (tt := tYes) rfl scUnlike.nd (pi_list (pv 1)) (blkOk_by (N := ["books", "value", "book"]) (sc := defScope sUnlike) (by decide +kernel))
        (fun _ _ _ _ _ => pg_name (i := 2) scUnlike.nd rfl (Or.inl rfl)) (fun _ _ _ _ _ => pts_nil)
        (fun _ _ _ _ _ => pe_cmpR (op_in_seqK (K := K) rfl) (pv 2) (pv 0) rfl)) pa_nil))
        (pe_one (pe_cmpR op_eq (pe_lenSetT rfl (by rfl) M.len (by rfl) M.set (pv 1) (K := K)) (pe_callB call_len_seq (by rfl) M.len PySem.boot_len (pa_cons (pv 1) pa_nil)) (nomark _)))))), ?_⟩
    refine ⟨_, rfl, _, _, _, _, _, rfl, .ty _, .base (.lst hm), kit_ty (by decide +kernel), true, rfl, iteF ?_⟩
    refine ⟨_, rfl, m, rfl, ⟨_, SqL.of hm⟩, fun D hD => ?_⟩
    refine lc_list (K := K) (a := m) (xs := ys.map V.str) (fun i H' => H' D = some (.lst ((List.replicate i true).map V.bl)) ∧ Same H H') ⟨upd_same, same_upd hD⟩ (fun i H' _ ⟨_, h2⟩ => SqL.of (h2 _ _ hm)) ?_ ?_
    · rintro i x H1 hx ⟨h1, h2⟩
      rw [List.getElem?_map] at hx
      obtain ⟨z, hz, rfl⟩ := Option.map_eq_some_iff.1 hx
      have lt := (List.getElem?_eq_some_iff.1 hz).1
      refine ⟨rfl, ?_⟩
      refine ⟨_, rfl, _, rfl, l, xs.map V.str, rfl, .inl (SqL.of (h2 _ _ hl)), rfl, flat_strs xs, ?_⟩
      rw [inV_strs, decide_eq_true (sub z (List.mem_of_getElem? hz))]
      refine ⟨_, h1, by rw [List.length_map, List.length_replicate]; exact small1000 (by omega), ?_, fun b o eb => ?_⟩
      · rw [upd_same]
        simp [List.replicate_succ']
      · rw [upd_ne (ne_of_none eb hD)]
        exact h2 _ _ eb
    · rintro H1 ⟨h1, h2⟩
      refine ⟨D, List.replicate ys.length true, rfl, SqL.of (by rw [← List.length_map (f := V.str)]; exact h1), ?_⟩
      have ea : (List.replicate ys.length true).all id = true := by simp
      rw [ea]
      refine ⟨_, rfl, iteT ?_⟩
      have stands : SqL K H1 m (ys.map V.str) := SqL.of (h2 _ _ hm)
      refine ⟨_, rfl, m, ys, rfl, stands, by omega, _, rfl, m, _, rfl, .inl stands, rfl, ?_⟩
      have e2 : (V.int ((met ys ys.length : Nat) : Int) = V.int (((ys.map V.str).length : Nat) : Int)) := by rw [met_all nd ys.length Nat.le.refl, List.length_map]
      rw [decide_eq_true e2]
      exact q _ h2
end
end K2

end
-- K2T
section
set_option Elab.async false
set_option linter.all false
set_option maxRecDepth 100000
set_option maxHeartbeats 4100000
/-! ### runturns.shelves: the class Shelf -/
namespace K2
open L2 PyProof.Rows PySem PySem.Spec TS
def clsB : Stmt → List Stmt
  | .ClassDef _ _ _ b _ _ _ _ _ _ _ => b
  | _ => []
def inShelf (i : Nat) : Stmt := (clsB (top 13)).getD i (.Pass ⟨0, 0, 0, 0⟩)
abbrev sInit : Stmt := inShelf 0
abbrev sEq : Stmt := inShelf 1
abbrev sCats : Stmt := inShelf 2
abbrev sRow : Stmt := inShelf 3
/-- what the class at C says -/
structure ShC (K : PySem.W.Frag) (C fi fq fc fr : Addr) : Prop where
  makes : Mk K C fi
  cl : Cls K C
  noC : NoAttr K C "_catalogue"
  noR : NoAttr K C "_row"
  mc : Meth K C "catalogue" fc
  mr : Meth K C "row" fr
  eq : OE.EqC K C fq
  ha : PySem.W.findIn K (.ref C) "__class__" = some (some (Value.builtin "object.__class__"))
  hn : PySem.W.specialIn K (Value.builtin "object.__class__") "__get__" = some (some (.builtin "getset_descriptor.__get__"))
  ht : PySem.W.takesIn K (Value.builtin "object.__class__") = some true
  isS : PySem.W.kitOne K (.ref C) (.ref C) = some true
/-- a shelf at a, its lists at c and r -/
def ShAt (H : Hp) (C a : Addr) (xs ys : List Str) : Prop := ∃ dx c r, H a = some (.ins C dx [("_catalogue", .ref c), ("_row", .ref r)]) ∧ H c = some (.lst (xs.map V.str)) ∧ H r = some (.lst (ys.map V.str))
theorem ShAt.mono {H H' : Hp} {C a : Addr} {xs ys : List Str} (e : Same H H') : ShAt H C a xs ys → ShAt H' C a xs ys := fun ⟨dx, c, r, h1, h2, h3⟩ => ⟨dx, c, r, e _ _ h1, e _ _ h2, e _ _ h3⟩
theorem none_under {H H' : Hp} {a : Addr} (e : Same H H') (h : H' a = none) : H a = none := by
  cases q : H a with
  | none => rfl
  | some o => rw [e _ _ q] at h; cases h
/-- a shelf at a whose lists were not there at H -/
def ShNew (H H' : Hp) (C a : Addr) (xs ys : List Str) : Prop := ∃ dx c r, H' a = some (.ins C dx [("_catalogue", .ref c), ("_row", .ref r)]) ∧ H' c = some (.lst (xs.map V.str)) ∧ H' r = some (.lst (ys.map V.str)) ∧ H c = none ∧ H r = none
theorem ShNew.at {H H' : Hp} {C a : Addr} {xs ys : List Str} : ShNew H H' C a xs ys → ShAt H' C a xs ys := fun ⟨dx, c, r, h1, h2, h3, _⟩ => ⟨dx, c, r, h1, h2, h3⟩
/-- what was there may have been changed since -/
theorem ShNew.kept {H H' H2 : Hp} {C a : Addr} {xs ys : List Str} (ha : H a = none) (k : ∀ b o, H b = none → H' b = some o → H2 b = some o) : ShNew H H' C a xs ys → ShAt H2 C a xs ys := fun ⟨dx, c, r, h1, h2, h3, h4, h5⟩ => ⟨dx, c, r, k _ _ ha h1, k _ _ h4 h2, k _ _ h5 h3⟩
theorem ShNew.mono {H H' H2 : Hp} {C a : Addr} {xs ys : List Str} (e : Same H' H2) : ShNew H H' C a xs ys → ShNew H H2 C a xs ys := fun ⟨dx, c, r, h1, h2, h3, h4, h5⟩ => ⟨dx, c, r, e _ _ h1, e _ _ h2, e _ _ h3, h4, h5⟩
theorem ShNew.under {H0 H H' : Hp} {C a : Addr} {xs ys : List Str} (e : Same H0 H) : ShNew H H' C a xs ys → ShNew H0 H' C a xs ys := fun ⟨dx, c, r, h1, h2, h3, h4, h5⟩ => ⟨dx, c, r, h1, h2, h3, none_under e h4, none_under e h5⟩
/-- a row of a catalogue -/
def Row (xs ys : List Str) : Prop := (∀ y ∈ ys, y ∈ xs) ∧ ys.Nodup ∧ ys.length = xs.length
section
variable {base : Heap} {mg : Str → Option Value} {K : PySem.W.Frag} {w : World} {P : Program} {C fi fq fc fr : Addr}
theorem scInit : FnScope ["self", "catalogue", "row"] ["self", "catalogue", "row"] (defScope sInit) := ⟨rfl, rfl, rfl, by decide +kernel, rfl, by decide +kernel, by decide +kernel⟩
def spInit (C : Addr) : Sp := fun vs H Q _ => ∃ (a dx l m : Addr) (xs ys : List Str), vs = [.ref a, .ref l, .ref m] ∧ H a = some (.ins C dx []) ∧ H dx = some (.own a) ∧ H l = some (.lst (xs.map V.str)) ∧ H m = some (.lst (ys.map V.str)) ∧ Cat xs ∧ Row xs ys ∧
  ∀ H', (∀ b o, b ≠ a → H b = some o → H' b = some o) → ShNew H H' C a xs ys → Q .non H'
abbrev sRowOf : Stmt := top 12
theorem scRowOf : FnScope ["catalogue", "value"] ["catalogue", "value"] (defScope sRowOf) := ⟨rfl, rfl, rfl, by decide +kernel, rfl, by decide +kernel, by decide +kernel⟩
def spRowOf : Sp := fun vs H Q _ => ∃ (l m : Addr) (xs ys : List Str), vs = [.ref l, .ref m] ∧ H l = some (.lst (xs.map V.str)) ∧ H m = some (.lst (ys.map V.str)) ∧ Cat xs ∧ Row xs ys ∧ ∀ H', Same H H' → Q (.bl true) H'
theorem ok_rowOf {f g : Addr} {fd gd : FuncData} (F : Fun K "is_row_of" "is_row_of" sRowOf f fd) (M : Md mg)
    (G : FnOk P w K mg base CX0 1 g gd ["books", "value"] spUnlike) (mG : mg "are_unlike_of" = some (.ref g)) (kG : PySem.W.keepIn K (.ref g) = true) (bG : Binds K gd ["books", "value"] []) : FnOk P w K mg base CX0 2 f fd ["catalogue", "value"] spRowOf := by
  refine F.ok scRowOf (fun vs H Q E h => ?_) (fun cdv A outer s H vs Q E hr h => ?_)
  · obtain ⟨l, m, xs, ys, rfl, _⟩ := h
    rfl
  · obtain ⟨l, m, xs, ys, rfl, hl, hm, cat, row, q⟩ := h
    refine ⟨_, pss_one (ps_ret (pe_and (pe_call G (hr.mono (by decide)) rfl mG kG bG .nil pass0 (pa_cons (pv 0) (pa_cons (pv 1) pa_nil)))
      (pe_one (pe_cmpR op_eq (pe_callB call_len_seq (by rfl) M.len PySem.boot_len (pa_cons (pv 1) pa_nil)) (pe_callB call_len_seq (by rfl) M.len PySem.boot_len (pa_cons (pv 0) pa_nil)) (nomark _))))), ?_⟩
    refine ⟨_, rfl, _, rfl, l, m, xs, ys, rfl, hl, hm, cat.2.1, by rw [row.2.2]; exact cat.2.1, row.1, row.2.1, fun H2 s2 => ⟨_, rfl, iteT ?_⟩⟩
    refine ⟨_, rfl, m, _, rfl, .inl (SqL.of (s2 _ _ hm)), _, rfl, l, _, rfl, .inl (SqL.of (s2 _ _ hl)), rfl, ?_⟩
    rw [decide_eq_true (show V.int (((ys.map V.str).length : Nat) : Int) = V.int (((xs.map V.str).length : Nat) : Int) by rw [List.length_map, List.length_map, row.2.2])]
    exact q _ s2
theorem ok_init {g1 g2 : Addr} {gd1 gd2 : FuncData} {fd : FuncData} (F : Fun K "__init__" "Shelf.__init__" sInit fi fd) (M : Md mg) (T : ShC K C fi fq fc fr)
    (G1 : FnOk P w K mg base CX0 2 g1 gd1 ["value"] spIsCat) (m1 : mg "is_catalogue" = some (.ref g1)) (k1 : PySem.W.keepIn K (.ref g1) = true) (b1 : Binds K gd1 ["value"] [])
    (G2 : FnOk P w K mg base CX0 2 g2 gd2 ["catalogue", "value"] spRowOf) (m2 : mg "is_row_of" = some (.ref g2)) (k2 : PySem.W.keepIn K (.ref g2) = true) (b2 : Binds K gd2 ["catalogue", "value"] []) :
    FnOk P w K mg base CX0 3 fi fd ["self", "catalogue", "row"] (spInit C) := by
  refine F.ok scInit (fun vs H Q E h => ?_) (fun cdv A outer s H vs Q E hr h => ?_)
  · obtain ⟨a, dx, l, m, xs, ys, rfl, _⟩ := h
    rfl
  · obtain ⟨a, dx, l, m, xs, ys, rfl, ha, hdx, hl, hm, cat, row, q⟩ := h
    refine ⟨_, pss_cons (ps_if (pt_not (pt_val (pe_call G1 hr rfl m1 k1 b1 .nil pass0 (pa_cons (pv 1) pa_nil)))) pss_never pss_nil)
      (pss_cons (ps_if (pt_not (pt_val (pe_call G2 hr rfl m2 k2 b2 .nil pass0 (pa_cons (pv 1) (pa_cons (pv 2) pa_nil))))) pss_never pss_nil)
      (pss_cons (ps_fld (pv 0) (pe_callTy call_list_of (by rfl) M.list boot_listT (pa_cons (pv 1) pa_nil)) rfl)
      (pss_one (ps_fld (pv 0) (pe_callTy call_list_of (by rfl) M.list boot_listT (pa_cons (pv 2) pa_nil)) rfl)))), ?_⟩
    refine ⟨_, rfl, l, xs, rfl, hl, cat, fun H1 s1 => ⟨true, rfl, iteF ?_⟩⟩
    refine ⟨_, rfl, _, rfl, l, m, xs, ys, rfl, s1 _ _ hl, s1 _ _ hm, cat, row, fun H2 s2 => ⟨true, rfl, iteF ?_⟩⟩
    have s02 := s1.trans s2
    have ha2 := s02 _ _ ha
    have hl2 := s02 _ _ hl
    have hm2 := s02 _ _ hm
    refine ⟨_, rfl, l, _, rfl, .inl (SqL.of hl2), fun c nc => ?_⟩
    have nca : a ≠ c := ne_of_none ha2 nc
    refine ⟨_, rfl, a, C, dx, [], rfl, by rw [upd_ne nca]; exact ha2, T.cl, T.noC, (by decide), ?_⟩
    have nma : m ≠ a := ne_of hm2 ha2 (by intro z; cases z)
    have nmc : m ≠ c := ne_of_none hm2 nc
    refine ⟨_, rfl, m, _, rfl, .inl (SqL.of (by rw [upd_ne nma, upd_ne nmc]; exact hm2)), fun r nr => ?_⟩
    have nra : a ≠ r := ne_of_none upd_same nr
    have ncr : c ≠ r := ne_of_none (o := .lst (xs.map V.str)) (by rw [upd_ne nca.symm]; exact upd_same) nr
    refine ⟨_, rfl, a, C, dx, [("_catalogue", .ref c)], rfl, by rw [upd_ne nra]; exact upd_same, T.cl, T.noR, (show 1 < 1000 by decide), ?_⟩
    have nr2 : H2 r = none := by
      rw [upd_ne nra.symm, upd_ne ncr.symm] at nr
      exact nr
    refine q _ (fun b o nb e => ?_) ⟨dx, c, r, upd_same, ?_, ?_, none_under s02 nc, none_under s02 nr2⟩
    · have e2 := s02 _ _ e
      have nbc : b ≠ c := ne_of_none e2 nc
      have nbr : b ≠ r := ne_of_none (o := o) (by rw [upd_ne nb, upd_ne nbc]; exact e2) nr
      rw [upd_ne nb, upd_ne nbr, upd_ne nb, upd_ne nbc]
      exact e2
    · rw [upd_ne nca.symm, upd_ne ncr, upd_ne nca.symm]
      exact upd_same
    · rw [upd_ne nra.symm]
      exact upd_same
/-! ### its methods -/
theorem scCats : FnScope ["self"] ["self"] (defScope sCats) := ⟨rfl, rfl, rfl, by decide +kernel, rfl, by decide +kernel, by decide +kernel⟩
theorem scRow : FnScope ["self"] ["self"] (defScope sRow) := ⟨rfl, rfl, rfl, by decide +kernel, rfl, by decide +kernel, by decide +kernel⟩
/-- a new list of it: l tells which -/
def spNew (C : Addr) (l : List Str → List Str → List Str) : Sp := fun vs H Q _ => ∃ (a : Addr) (xs ys : List Str), vs = [.ref a] ∧ ShAt H C a xs ys ∧ ∀ p, H p = none → Q (.ref p) (upd H p (.lst ((l xs ys).map V.str)))
theorem ok_cats {fd : FuncData} (F : Fun K "catalogue" "Shelf.catalogue" sCats fc fd) (M : Md mg) (T : ShC K C fi fq fc fr) : FnOk P w K mg base CX0 1 fc fd ["self"] (spNew C fun xs _ => xs) := by
  refine F.ok scCats (fun vs H Q E h => ?_) (fun cdv A outer s H vs Q E hr h => ?_)
  · obtain ⟨a, xs, ys, rfl, _⟩ := h
    rfl
  · obtain ⟨a, xs, ys, rfl, ⟨dx, c, r, ha, hc, hr'⟩, q⟩ := h
    refine ⟨_, pss_one (ps_ret (pe_callTy call_list_of (by rfl) M.list boot_listT (pa_cons (pe_fld (pv 0) rfl) pa_nil))), ?_⟩
    exact ⟨_, rfl, a, C, dx, _, _, rfl, ha, T.cl, T.noC, rfl, c, _, rfl, .inl (SqL.of hc), fun p np => q p np⟩
theorem ok_row {fd : FuncData} (F : Fun K "row" "Shelf.row" sRow fr fd) (M : Md mg) (T : ShC K C fi fq fc fr) : FnOk P w K mg base CX0 1 fr fd ["self"] (spNew C fun _ ys => ys) := by
  refine F.ok scRow (fun vs H Q E h => ?_) (fun cdv A outer s H vs Q E hr h => ?_)
  · obtain ⟨a, xs, ys, rfl, _⟩ := h
    rfl
  · obtain ⟨a, xs, ys, rfl, ⟨dx, c, r, ha, hc, hr'⟩, q⟩ := h
    refine ⟨_, pss_one (ps_ret (pe_callTy call_list_of (by rfl) M.list boot_listT (pa_cons (pe_fld (pv 0) rfl) pa_nil))), ?_⟩
    exact ⟨_, rfl, a, C, dx, _, _, rfl, ha, T.cl, T.noR, rfl, r, _, rfl, .inl (SqL.of hr'), fun p np => q p np⟩
/-! ### == of it -/
theorem eqv_strs : ∀ xs ys : List Str, PyData.eqvAll (xs.map PyData.str) (ys.map PyData.str) = decide (xs = ys)
  | [], [] => rfl
  | [], y :: r => rfl
  | x :: r, [] => rfl
  | x :: r, y :: q => by
    simp only [List.map_cons, PyData.eqvAll, PyData.eqv, eqv_strs r q]
    by_cases e : x = y
    · simp [e]
    · simp [e]
theorem scEq : FnScope ["self", "other"] ["self", "other"] (defScope sEq) := ⟨rfl, rfl, rfl, by decide +kernel, rfl, by decide +kernel, by decide +kernel⟩
/-- the answer of shelf == y -/
def EqR (K : PySem.W.Frag) (C : Addr) : Addr → V → Hp → Bool → Prop := fun a y H b => ∃ xs ys, ShAt H C a xs ys ∧ (∀ x ∈ xs, isWord x) ∧ (∀ x ∈ ys, isWord x) ∧
  ((∃ a' xs' ys', y = .ref a' ∧ ShAt H C a' xs' ys' ∧ (∀ x ∈ xs', isWord x) ∧ (∀ x ∈ ys', isWord x) ∧ b = (decide (xs = xs') && decide (ys = ys'))) ∨ (∃ t, TyX K H y t ∧ PySem.W.kitOne K t (.ref C) = some false ∧ b = false))
theorem ok_eq {fd : FuncData} (F : Fun K "__eq__" "Shelf.__eq__" sEq fq fd) (M : Md mg) (gS : mg "Shelf" = some (.ref C)) (T : ShC K C fi fq fc fr) : FnOk P w K mg base CX0 1 fq fd ["self", "other"] (OE.spB (EqR K C)) := by
  refine F.ok scEq (fun vs H Q E h => ?_) (fun cdv A outer s H vs Q E hr h => ?_)
  · obtain ⟨a, y, b, rfl, _⟩ := h
    rfl
  · obtain ⟨a, y, b, rfl, ⟨xs, ys, ⟨dx, c, r, ha, hc, hr'⟩, w1, w2, alt⟩, q⟩ := h
    have hu : A.units + 3 + 64 < cLine := hr.units
    refine ⟨_, pss_one (ps_ret (pe_and (pe_callB call_isi (by rfl) M.isi boot_isi (pa_cons (pv 1) (pa_cons (pe_glob (v := .ref C) rfl gS rfl) pa_nil)))
      (pe_and (pe_cmpR (op_eqD hu) (pe_fld (pv 0) rfl) (pe_fld (pv 1) rfl) (nomark _)) (pe_one (pe_cmpR (op_eqD hu) (pe_fld (pv 0) rfl) (pe_fld (pv 1) rfl) (nomark _)))))), ?_⟩
    rcases alt with ⟨a', xs', ys', rfl, ⟨dx', c', r', ha', hc', hr2⟩, w3, w4, rfl⟩ | ⟨t, ty, no, rfl⟩
    · refine ⟨_, rfl, _, _, _, _, _, rfl, .own _, .base (.ins ha' T.cl T.ha T.hn T.ht T.eq.ob), T.isS, true, rfl, iteT ?_⟩
      refine ⟨_, rfl, a, C, dx, _, _, rfl, ha, T.cl, T.noC, rfl, _, rfl, a', C, dx', _, _, rfl, ha', T.cl, T.noC, rfl, ?_⟩
      refine ⟨_, _, .lst (SqL.of hc) (dp_strs xs), .lst (SqL.of hc') (dp_strs xs'), shaped_strs w1, shaped_strs w3, _, rfl, ?_⟩
      change (if PyData.eqvAll (xs.map PyData.str) (xs'.map PyData.str) = true then _ else _)
      rw [eqv_strs]
      by_cases e : xs = xs'
      · rw [decide_eq_true e] at q ⊢
        refine iteT ⟨_, rfl, a, C, dx, _, _, rfl, ha, T.cl, T.noR, rfl, _, rfl, a', C, dx', _, _, rfl, ha', T.cl, T.noR, rfl, ?_⟩
        refine ⟨_, _, .lst (SqL.of hr') (dp_strs ys), .lst (SqL.of hr2) (dp_strs ys'), shaped_strs w2, shaped_strs w4, ?_⟩
        change Q (V.bl (PyData.eqvAll (ys.map PyData.str) (ys'.map PyData.str))) H
        rw [eqv_strs]
        simpa using q
      · rw [decide_eq_false e] at q ⊢
        exact iteF (by simpa using q)
    · refine ⟨_, rfl, _, _, _, _, _, rfl, .own _, ty, no, false, rfl, iteF q⟩
end
end K2

end
-- K2U
section
set_option Elab.async false
set_option linter.all false
set_option maxRecDepth 100000
set_option maxHeartbeats 4100000
/-! ### runturns.shelves: ranks, places, entries -/
namespace K2
open L2 PyProof.Rows PySem PySem.Spec TS
abbrev sCheck : Stmt := top 14
abbrev sCheckB : Stmt := top 15
abbrev sRanks : Stmt := top 16
/-- book by book its entry, from k on -/
def ent : List Str → Nat → List (Key × V)
  | [], _ => []
  | x :: r, k => (.inr x, .int (k : Int)) :: ent r (k + 1)
theorem ent_len : ∀ (xs : List Str) (k : Nat), (ent xs k).length = xs.length
  | [], _ => rfl
  | x :: r, k => congrArg Nat.succ (ent_len r (k + 1))
theorem ent_app : ∀ (xs : List Str) (y : Str) (k : Nat), ent (xs ++ [y]) k = ent xs k ++ [(.inr y, .int ((k + xs.length : Nat) : Int))]
  | [], y, k => rfl
  | x :: r, y, k => by
    simp only [List.cons_append, ent, ent_app r y (k + 1), List.length_cons]
    rw [show k + 1 + r.length = k + (r.length + 1) from by omega]
theorem ent_keys : ∀ (xs : List Str) (k : Nat) (p : Key × V), p ∈ ent xs k → ∃ x ∈ xs, p.1 = .inr x
  | x :: r, k, p, h => by
    rcases List.mem_cons.1 h with e | e
    · exact ⟨x, List.mem_cons_self, by rw [e]⟩
    · obtain ⟨z, hz, e2⟩ := ent_keys r (k + 1) p e
      exact ⟨z, List.mem_cons_of_mem _ hz, e2⟩
theorem ent_put {xs : List Str} {y : Str} (h : y ∉ xs) (v : V) : putK (ent xs 0) (.inr y) v = ent xs 0 ++ [(.inr y, v)] := by
  unfold putK
  rw [if_neg]
  intro e
  obtain ⟨p, hp, e⟩ := List.any_eq_true.1 e
  obtain ⟨x, hx, ex⟩ := ent_keys xs 0 p hp
  rw [ex] at e
  exact h (by have := of_decide_eq_true e; injection this with z; exact z ▸ hx)
theorem ent_val : ∀ (xs : List Str) (k : Nat) (y : Str), y ∈ xs → valV (ent xs k) (.inr y) = some (.int ((k + xs.idxOf y : Nat) : Int))
  | x :: r, k, y, h => by
    by_cases e : x = y
    · subst e
      simp [valV, ent]
    · have hr : y ∈ r := (List.mem_cons.1 h).resolve_left fun z => e z.symm
      have ih := ent_val r (k + 1) y hr
      have ix : (x :: r).idxOf y = r.idxOf y + 1 := by simp [List.idxOf_cons, show (x == y) = false from by simpa using e]
      rw [ix, show k + (r.idxOf y + 1) = k + 1 + r.idxOf y from by omega, ← ih]
      simp [valV, ent, List.find?_cons, e]
/-- a dict comprehension over any walk -/
theorem dc_it {J : It} {n : Nat} {G : Hp → Prop} {Y : Nat → Hp → V → Hp → Prop} (w : Walk J n G Y) {g : TG} {tt : TT} {tk tv : TE} {vs : List Nat} {σ : L2.St} {H1 : Hp} {D : Addr} {Qd : Hp → Prop} (Pv : Nat → Hp → Prop) (start_ : Pv 0 (upd H1 D (.dK [])))
    (while_ : ∀ i H, i ≤ n → Pv i H → G H)
    (turn : ∀ i x H H', i < n → Pv i H → Y i H x H' → g x (wipe σ vs) H' fun σ2 H2 => wipe σ2 vs = wipe σ vs ∧ tt σ2 H2 fun b H3 =>
      if b = true then tk σ2 H3 fun y H4 => tv σ2 H4 fun z H5 => ∃ kvs k, y = kV k ∧ H5 D = some (.dK kvs) ∧ kvs.length < sizeLine ∧ Pv (i + 1) (upd H5 D (.dK (putK kvs k z))) else Pv (i + 1) H3) (after : ∀ H, Pv n H → Qd H) :
    ∃ W : Nat → Nat → Hp → Prop, (∃ k, W 0 k (upd H1 D (.dK []))) ∧ ∀ i m H, W i m H →
      (J.stop i H ∧ Qd H) ∨ (J.go i H ∧ ∃ More : Hp → Prop, (∀ H', More H' → ∃ m', m' < m ∧ W (i + 1) m' H') ∧ ∀ x H', J.yld i H x H' → g x (wipe σ vs) H' fun σ2 H2 => wipe σ2 vs = wipe σ vs ∧ tt σ2 H2 fun b H3 =>
        if b = true then tk σ2 H3 fun y H4 => tv σ2 H4 fun z H5 => ∃ kvs k, y = kV k ∧ H5 D = some (.dK kvs) ∧ kvs.length < sizeLine ∧ More (upd H5 D (.dK (putK kvs k z))) else More H3) := by
  refine ⟨fun i m H => i + m = n ∧ Pv i H, ⟨n, Nat.zero_add n, start_⟩, fun i m H ⟨e, p⟩ => ?_⟩
  rcases Nat.eq_zero_or_pos m with z | z
  · have last : i = n := by omega
    subst last
    exact .inl ⟨w.stops H (while_ i H Nat.le.refl p), after H p⟩
  · have lt : i < n := by omega
    have g' := while_ i H (by omega) p
    exact .inr ⟨w.goes i H lt g', Pv (i + 1), fun H' p' => ⟨m - 1, by omega, by omega, p'⟩, fun x H' y => turn i x H H' lt p (w.yields i H x H' lt g' y)⟩
section
variable {base : Heap} {mg : Str → Option Value} {K : PySem.W.Frag} {w : World} {P : Program} {C fi fq fc fr : Addr}
theorem scCheck : FnScope ["shelf"] ["shelf"] (defScope sCheck) := ⟨rfl, rfl, rfl, by decide +kernel, rfl, by decide +kernel, by decide +kernel⟩
def spCheck (C : Addr) : Sp := fun vs H Q _ => ∃ (a : Addr) (xs ys : List Str), vs = [.ref a] ∧ ShAt H C a xs ys ∧ Q .non H
theorem ok_check {f : Addr} {fd : FuncData} (F : Fun K "check_shelf" "check_shelf" sCheck f fd) (M : Md mg) (gS : mg "Shelf" = some (.ref C)) (T : ShC K C fi fq fc fr) : FnOk P w K mg base CX0 1 f fd ["shelf"] (spCheck C) := by
  refine F.ok scCheck (fun vs H Q E h => ?_) (fun cdv A outer s H vs Q E hr h => ?_)
  · obtain ⟨a, xs, ys, rfl, _⟩ := h
    rfl
  · obtain ⟨a, xs, ys, rfl, ⟨dx, c, r, ha, hc, hr'⟩, q⟩ := h
    refine ⟨_, pss_one (ps_if (pt_not (pt_val (pe_callB call_isi (by rfl) M.isi boot_isi (pa_cons (pv 0) (pa_cons (pe_glob (v := .ref C) rfl gS rfl) pa_nil))))) pss_never pss_nil), ?_⟩
    exact ⟨_, rfl, _, _, _, _, _, rfl, .own _, .base (.ins ha T.cl T.ha T.hn T.ht T.eq.ob), T.isS, true, rfl, iteF q⟩
/-- the entries of the row's books -/
def rnk (xs ys : List Str) : List Int := ys.map fun y => ((xs.idxOf y : Nat) : Int)
theorem scRanks : FnScope ["shelf", "entries", "entry", "book"] ["shelf"] (defScope sRanks) := ⟨rfl, rfl, rfl, by decide +kernel, rfl, by decide +kernel, by decide +kernel⟩
def spRanks (C : Addr) : Sp := fun vs H Q _ => ∃ (a : Addr) (xs ys : List Str), vs = [.ref a] ∧ ShAt H C a xs ys ∧ Cat xs ∧ Row xs ys ∧ ∀ H' p, Same H H' → H p = none → H' p = some (.lst ((rnk xs ys).map V.int)) → Q (.ref p) H'
theorem ok_ranks {f g : Addr} {fd gd fdc fdr : FuncData} (F : Fun K "ranks" "ranks" sRanks f fd) (M : Md mg) (T : ShC K C fi fq fc fr) (en : mg "enumerate" = none)
    (G : FnOk P w K mg base CX0 1 g gd ["shelf"] (spCheck C)) (mG : mg "check_shelf" = some (.ref g)) (kG : PySem.W.keepIn K (.ref g) = true) (bG : Binds K gd ["shelf"] [])
    (Gc : FnOk P w K mg base CX0 1 fc fdc ["self"] (spNew C fun xs _ => xs)) (bc : Binds K fdc ["self"] []) (Gr : FnOk P w K mg base CX0 1 fr fdr ["self"] (spNew C fun _ ys => ys)) (br : Binds K fdr ["self"] []) :
    FnOk P w K mg base CX0 2 f fd ["shelf"] (spRanks C) := by
  refine F.ok scRanks (fun vs H Q E h => ?_) (fun cdv A outer s H vs Q E hr h => ?_)
  · obtain ⟨a, xs, ys, rfl, _⟩ := h
    rfl
  · obtain ⟨a, xs, ys, rfl, sh, cat, row, q⟩ := h
    have hu : A.units + 3 + 1 < cLine := by have := hr.units; have e : (A.deeper (envOfC "ranks" (defScope sRanks) s.heap.objs.size f cdv)).units = A.units + 3 := rfl; omega
    refine ⟨_, pss_cons (ps_expr (pe_call G hr rfl mG kG bG .nil pass0 (pa_cons (pv 0) pa_nil)))
      (pss_cons (ps_set (i := 1) scRanks.nd rfl (Or.inr rfl) (pe_dc (own := [("entry", 2), ("book", 3)]) (g := gTup K 2 (gCons (gName 2) (gCons (gName 3) gNil))) (tt := tYes) rfl scRanks.nd
          (pi_enum rfl en (pa_cons (pe_meth0 (pv 0) T.cl T.mc Gc hr bc .nil pass0) pa_nil)) (blkOk_by (N := ["shelf", "entries", "entry", "book"]) (sc := defScope sRanks) (by decide +kernel))
          (fun _ _ _ _ _ => pg_tup rfl (pgs_cons (pg_name (i := 2) scRanks.nd rfl (Or.inl rfl)) (pgs_cons (pg_name (i := 3) scRanks.nd rfl (Or.inl rfl)) pgs_nil))) (fun _ _ _ _ _ => pts_nil)
          (fun _ _ _ _ _ => pv 3) (fun _ _ _ _ _ => pv 2)))
      (pss_one (ps_ret (pe_lc (own := [("book", 3)]) (g := gName 3) (tt := tYes) rfl scRanks.nd (pi_list (pe_meth0 (pv 0) T.cl T.mr Gr hr br .nil pass0)) (blkOk_by (N := ["shelf", "entries", "entry", "book"]) (sc := defScope sRanks) (by decide +kernel))
          (fun _ _ _ _ _ => pg_name (i := 3) scRanks.nd rfl (Or.inl rfl)) (fun _ _ _ _ _ => pts_nil)
          (fun _ _ _ _ _ => pe_dget hu (pv 1) (pv 3) (fun _ _ => rfl)))))), ?_⟩
    obtain ⟨dx, c, r, ha, hc, hr'⟩ := id sh
    refine ⟨_, rfl, a, xs, ys, rfl, sh, ?_⟩
    refine ⟨_, rfl, a, dx, _, rfl, ha, rfl, a, xs, ys, rfl, sh, fun l nl => ?_⟩
    have s1 : Same H (upd H l (.lst (xs.map V.str))) := same_upd nl
    have hl : (upd H l (.lst (xs.map V.str))) l = some (.lst (xs.map V.str)) := upd_same
    generalize upd H l (.lst (xs.map V.str)) = H1 at s1 hl
    refine ⟨l, _, rfl, SqL.of hl, fun D hD => ?_⟩
    refine dc_it (walk_enum (K := K) (a := l) (xs := xs.map V.str)) (fun i H' => H' D = some (.dK (ent (xs.take i) 0)) ∧ Same H1 H') ⟨upd_same, same_upd hD⟩ (fun i H' _ ⟨_, h2⟩ => SqL.of (h2 _ _ hl)) ?_ ?_
    · rintro i x H2 H3 hi ⟨h1, h2⟩ ⟨t, u, v, rfl, nt, rfl, eu, ev⟩
      rw [List.length_map] at hi
      have hi' : xs[i]? = some xs[i] := List.getElem?_eq_getElem hi
      change some (V.int ((i : Nat) : Int)) = some u at eu
      change (xs.map V.str)[i]? = some v at ev
      rw [List.getElem?_map, hi'] at ev
      obtain rfl := Option.some.inj ev
      obtain rfl := Option.some.inj eu
      have nDt : D ≠ t := ne_of_none h1 nt
      have new : xs[i] ∉ xs.take i := fun z => by
        have u' : (xs.take (i + 1)).Nodup := cat.2.2.2.sublist (List.take_sublist _ _)
        rw [List.take_succ, hi', List.nodup_append] at u'
        exact u'.2.2 _ z _ (List.mem_singleton_self _) rfl
      refine ⟨t, _, rfl, .inl (.inl upd_same), rfl, _, _, rfl, _, _, rfl, rfl, rfl, ?_⟩
      refine ⟨_, rfl, _, rfl, _, .inr xs[i], rfl, by rw [upd_ne nDt]; exact h1, by rw [ent_len]; exact small1000 (by have := cat.2.1; rw [List.length_take]; omega), ?_, fun b o eb => ?_⟩
      · rw [upd_same, ent_put new, List.take_succ, hi']
        simp only [Option.toList, ent_app, List.length_take, Nat.zero_add]
        rw [Nat.min_eq_left (by omega)]
      · have nb : b ≠ D := ne_of_none eb hD
        have e2 := h2 _ _ eb
        rw [upd_ne nb, upd_ne (ne_of_none e2 nt)]
        exact e2
    · rintro H2 ⟨h1, h2⟩
      rw [List.length_map, List.take_length] at h1
      have s2 : Same H H2 := s1.trans h2
      obtain ⟨e1, e2, e3⟩ := (⟨s2 _ _ ha, s2 _ _ hc, s2 _ _ hr'⟩ : _ ∧ _ ∧ _)
      refine ⟨_, rfl, a, dx, _, rfl, e1, rfl, a, xs, ys, rfl, sh.mono s2, fun m nm => ?_⟩
      have s3 : Same H2 (upd H2 m (.lst (ys.map V.str))) := same_upd nm
      have hm : (upd H2 m (.lst (ys.map V.str))) m = some (.lst (ys.map V.str)) := upd_same
      refine ⟨m, rfl, ⟨_, SqL.of hm⟩, fun p np => ?_⟩
      change ∃ W : Nat → Nat → Hp → Prop, _
      dsimp only at np ⊢
      generalize upd H2 m (.lst (ys.map V.str)) = H3 at s3 hm np ⊢
      have s03 := s2.trans s3
      refine lc_list (K := K) (a := m) (xs := ys.map V.str) (fun i H' => H' p = some (.lst ((rnk xs (ys.take i)).map V.int)) ∧ Same H3 H') ⟨upd_same, same_upd np⟩ (fun i H' _ ⟨_, h2⟩ => SqL.of (h2 _ _ hm)) ?_ ?_
      · rintro i x H4 hx ⟨g1, g2⟩
        rw [List.getElem?_map] at hx
        obtain ⟨z, hz, rfl⟩ := Option.map_eq_some_iff.1 hx
        have lt := (List.getElem?_eq_some_iff.1 hz).1
        refine ⟨rfl, ?_⟩
        have hd4 : H4 D = some (.dK (ent xs 0)) := g2 _ _ (s3 _ _ h1)
        have val := ent_val xs 0 z (row.1 z (List.mem_of_getElem? hz))
        have get := DGet.k (k := Sum.inr z) hd4
        rw [val] at get
        refine ⟨_, rfl, _, rfl, D, _, rfl, get, ?_⟩
        refine ⟨_, g1, by rw [List.length_map, rnk, List.length_map, List.length_take]; exact small1000 (by have := cat.2.1; have := row.2.2; omega), ?_, fun b o eb => ?_⟩
        · rw [upd_same, List.take_succ, hz]
          simp [rnk]
        · rw [upd_ne (ne_of_none eb np)]
          exact g2 _ _ eb
      · rintro H4 ⟨g1, g2⟩
        rw [List.length_map, List.take_length] at g1
        exact q H4 p (s03.trans g2) (by
          cases e : H p with
          | none => rfl
          | some o => rw [s03 _ _ e] at np; cases np) g1
end
end K2

end
-- K2V
section
set_option Elab.async false
set_option linter.all false
set_option maxRecDepth 100000
set_option maxHeartbeats 4100000
/-! ### runturns.shelves: places, entries, made shelves -/
namespace K2
open L2 PyProof.Rows PySem PySem.Spec TS
abbrev sPlace : Stmt := top 17
abbrev sEntry : Stmt := top 18
abbrev sSorted : Stmt := top 19
abbrev sExch : Stmt := top 20
theorem op_notIn_seqK {X : Cx} {K : PySem.W.Frag} (hK : X.K = K) : OpR X (compareOp .NotIn) (rIn K true) := by
  subst hK
  exact op_notIn_seq
theorem mt_indexK {X : Cx} {K : PySem.W.Frag} (hK : X.K = K) : MtR X "list.index" (rIndex K) := by
  subst hK
  exact mt_index
theorem idx_at : ∀ {xs : List Str} {z : Str}, z ∈ xs → xs[xs.idxOf z]? = some z ∧ ∀ (m : Nat) (y : Str), m < xs.idxOf z → xs[m]? = some y → y ≠ z
  | x :: r, z, h => by
    by_cases e : x = z
    · subst e
      simp
    · have ih := idx_at ((List.mem_cons.1 h).resolve_left fun q => e q.symm)
      have ix : (x :: r).idxOf z = r.idxOf z + 1 := by simp [List.idxOf_cons, show (x == z) = false from by simpa using e]
      rw [ix]
      refine ⟨by simpa using ih.1, fun m y lt hy => ?_⟩
      cases m with
      | zero => rintro rfl; exact e (Option.some.inj (by simpa using hy))
      | succ m => exact ih.2 m y (by omega) (by simpa using hy)
section
variable {base : Heap} {mg : Str → Option Value} {K : PySem.W.Frag} {w : World} {P : Program} {C fi fq fc fr : Addr}
theorem scCheckB : FnScope ["shelf", "book"] ["shelf", "book"] (defScope sCheckB) := ⟨rfl, rfl, rfl, by decide +kernel, rfl, by decide +kernel, by decide +kernel⟩
def spCheckB (C : Addr) : Sp := fun vs H Q _ => ∃ (a : Addr) (xs ys : List Str) (z : Str), vs = [.ref a, .str z] ∧ ShAt H C a xs ys ∧ z ∈ xs ∧ ∀ H', Same H H' → Q .non H'
theorem ok_checkB {f g : Addr} {fd gd fdc : FuncData} (F : Fun K "check_book_of" "check_book_of" sCheckB f fd) (T : ShC K C fi fq fc fr)
    (G : FnOk P w K mg base CX0 1 g gd ["shelf"] (spCheck C)) (mG : mg "check_shelf" = some (.ref g)) (kG : PySem.W.keepIn K (.ref g) = true) (bG : Binds K gd ["shelf"] [])
    (Gc : FnOk P w K mg base CX0 1 fc fdc ["self"] (spNew C fun xs _ => xs)) (bc : Binds K fdc ["self"] []) : FnOk P w K mg base CX0 2 f fd ["shelf", "book"] (spCheckB C) := by
  refine F.ok scCheckB (fun vs H Q E h => ?_) (fun cdv A outer s H vs Q E hr h => ?_)
  · obtain ⟨a, xs, ys, z, rfl, _⟩ := h
    rfl
  · obtain ⟨a, xs, ys, z, rfl, sh, hz, q⟩ := h
    refine ⟨_, pss_cons (ps_expr (pe_call G hr rfl mG kG bG .nil pass0 (pa_cons (pv 0) pa_nil)))
      (pss_one (ps_if (pt_cmpR (op_notIn_seqK (K := K) rfl) (pv 1) (pe_meth0 (pv 0) T.cl T.mc Gc hr bc .nil pass0) rfl) pss_never pss_nil)), ?_⟩
    obtain ⟨dx, c, r, ha, hc, hr'⟩ := id sh
    refine ⟨_, rfl, a, xs, ys, rfl, sh, ?_⟩
    refine ⟨_, rfl, _, rfl, a, dx, _, rfl, ha, rfl, a, xs, ys, rfl, sh, fun l nl => ?_⟩
    refine ⟨l, xs.map V.str, rfl, .inl (SqL.of upd_same), rfl, flat_strs xs, _, rfl, ?_⟩
    rw [inV_strs, decide_eq_true hz]
    exact iteF (q _ (same_upd nl))
/-- where a book stands: l tells in which list -/
def spWhere (C : Addr) (l : List Str → List Str → List Str) : Sp := fun vs H Q _ => ∃ (a : Addr) (xs ys : List Str) (z : Str), vs = [.ref a, .str z] ∧ ShAt H C a xs ys ∧ z ∈ xs ∧ z ∈ l xs ys ∧ ∀ H', Same H H' → Q (.int (((l xs ys).idxOf z : Nat) : Int)) H'
theorem scPlace : FnScope ["shelf", "book"] ["shelf", "book"] (defScope sPlace) := ⟨rfl, rfl, rfl, by decide +kernel, rfl, by decide +kernel, by decide +kernel⟩
theorem ok_place {f g : Addr} {fd gd fdr : FuncData} (F : Fun K "place_of" "place_of" sPlace f fd) (T : ShC K C fi fq fc fr)
    (G : FnOk P w K mg base CX0 2 g gd ["shelf", "book"] (spCheckB C)) (mG : mg "check_book_of" = some (.ref g)) (kG : PySem.W.keepIn K (.ref g) = true) (bG : Binds K gd ["shelf", "book"] [])
    (Gr : FnOk P w K mg base CX0 1 fr fdr ["self"] (spNew C fun _ ys => ys)) (br : Binds K fdr ["self"] []) : FnOk P w K mg base CX0 3 f fd ["shelf", "book"] (spWhere C fun _ ys => ys) := by
  refine F.ok scPlace (fun vs H Q E h => ?_) (fun cdv A outer s H vs Q E hr h => ?_)
  · obtain ⟨a, xs, ys, z, rfl, _⟩ := h
    rfl
  · obtain ⟨a, xs, ys, z, rfl, sh, hz, hz2, q⟩ := h
    refine ⟨_, pss_cons (ps_expr (pe_call G hr rfl mG kG bG .nil pass0 (pa_cons (pv 0) (pa_cons (pv 1) pa_nil))))
      (pss_one (ps_ret (pe_bm PySem.F.plainAttrs_list PySem.F.slot_list_index PySem.F.type_list_index (mt_indexK (K := K) rfl) (pe_meth0 (pv 0) T.cl T.mr Gr (hr.mono (by decide)) br .nil pass0) (pa_cons (pv 1) pa_nil)))), ?_⟩
    refine ⟨_, rfl, _, rfl, a, xs, ys, z, rfl, sh, hz, fun H1 s1 => ?_⟩
    obtain ⟨dx, c, r, ha, hc, hr'⟩ := id (sh.mono s1)
    refine ⟨_, rfl, a, dx, _, rfl, ha, rfl, a, xs, ys, rfl, sh.mono s1, fun l nl => ?_⟩
    obtain ⟨e1, e2⟩ := idx_at hz2
    refine ⟨.inl ⟨rfl, _, SqL.of upd_same⟩, _, rfl, l, ys.map V.str, .str z, ys.idxOf z, .str z, rfl, rfl, SqL.of upd_same, rfl, flat_strs ys, by rw [List.getElem?_map, e1]; rfl, by simp [eqV], fun m z' lt hz' => ?_, q _ (s1.trans (same_upd nl))⟩
    rw [List.getElem?_map] at hz'
    obtain ⟨y, hy, rfl⟩ := Option.map_eq_some_iff.1 hz'
    simpa [eqV] using e2 m y lt hy
theorem scEntry : FnScope ["shelf", "book"] ["shelf", "book"] (defScope sEntry) := ⟨rfl, rfl, rfl, by decide +kernel, rfl, by decide +kernel, by decide +kernel⟩
theorem ok_entry {f g : Addr} {fd gd fdc : FuncData} (F : Fun K "entry_of" "entry_of" sEntry f fd) (T : ShC K C fi fq fc fr)
    (G : FnOk P w K mg base CX0 2 g gd ["shelf", "book"] (spCheckB C)) (mG : mg "check_book_of" = some (.ref g)) (kG : PySem.W.keepIn K (.ref g) = true) (bG : Binds K gd ["shelf", "book"] [])
    (Gc : FnOk P w K mg base CX0 1 fc fdc ["self"] (spNew C fun xs _ => xs)) (bc : Binds K fdc ["self"] []) : FnOk P w K mg base CX0 3 f fd ["shelf", "book"] (spWhere C fun xs _ => xs) := by
  refine F.ok scEntry (fun vs H Q E h => ?_) (fun cdv A outer s H vs Q E hr h => ?_)
  · obtain ⟨a, xs, ys, z, rfl, _⟩ := h
    rfl
  · obtain ⟨a, xs, ys, z, rfl, sh, hz, hz2, q⟩ := h
    refine ⟨_, pss_cons (ps_expr (pe_call G hr rfl mG kG bG .nil pass0 (pa_cons (pv 0) (pa_cons (pv 1) pa_nil))))
      (pss_one (ps_ret (pe_bm PySem.F.plainAttrs_list PySem.F.slot_list_index PySem.F.type_list_index (mt_indexK (K := K) rfl) (pe_meth0 (pv 0) T.cl T.mc Gc (hr.mono (by decide)) bc .nil pass0) (pa_cons (pv 1) pa_nil)))), ?_⟩
    refine ⟨_, rfl, _, rfl, a, xs, ys, z, rfl, sh, hz, fun H1 s1 => ?_⟩
    obtain ⟨dx, c, r, ha, hc, hr'⟩ := id (sh.mono s1)
    refine ⟨_, rfl, a, dx, _, rfl, ha, rfl, a, xs, ys, rfl, sh.mono s1, fun l nl => ?_⟩
    obtain ⟨e1, e2⟩ := idx_at hz2
    refine ⟨.inl ⟨rfl, _, SqL.of upd_same⟩, _, rfl, l, xs.map V.str, .str z, xs.idxOf z, .str z, rfl, rfl, SqL.of upd_same, rfl, flat_strs xs, by rw [List.getElem?_map, e1]; rfl, by simp [eqV], fun m z' lt hz' => ?_, q _ (s1.trans (same_upd nl))⟩
    rw [List.getElem?_map] at hz'
    obtain ⟨y, hy, rfl⟩ := Option.map_eq_some_iff.1 hz'
    simpa [eqV] using e2 m y lt hy
/-! ### making shelves -/
theorem all_of : ∀ (ys xs : List Str), ys.Nodup → (∀ y ∈ ys, y ∈ xs) → xs.length ≤ ys.length → ∀ x ∈ xs, x ∈ ys
  | [], xs, _, _, le, x, hx => by
    have : xs = [] := List.eq_nil_of_length_eq_zero (Nat.le_zero.1 le)
    rw [this] at hx
    exact hx
  | y :: r, xs, nd, sub, le, x, hx => by
    rw [List.nodup_cons] at nd
    have hy : y ∈ xs := sub y List.mem_cons_self
    by_cases e : x = y
    · rw [e]
      exact List.mem_cons_self
    · refine List.mem_cons_of_mem _ (all_of r (xs.erase y) nd.2 (fun z hz => ?_) ?_ x ((List.mem_erase_of_ne e).2 hx))
      · exact (List.mem_erase_of_ne fun (q : z = y) => nd.1 (q ▸ hz)).2 (sub z (List.mem_cons_of_mem _ hz))
      · rw [List.length_erase_of_mem hy]
        rw [List.length_cons] at le
        omega
theorem Row.flip {xs ys : List Str} (cat : Cat xs) (row : Row xs ys) : Cat ys ∧ Row ys xs := by
  obtain ⟨ne, few, words, nd⟩ := cat
  obtain ⟨sub, nd2, len⟩ := row
  refine ⟨⟨fun e => ?_, by omega, fun x hx => words x (sub x hx), nd2⟩, all_of ys xs nd2 sub (by omega), nd, len.symm⟩
  rw [e] at len
  exact ne (List.eq_nil_of_length_eq_zero len.symm)
theorem Cat.row {xs : List Str} (cat : Cat xs) : Row xs xs := ⟨fun _ h => h, cat.2.2.2, rfl⟩
/-- what Shelf(..) asks and gives -/
theorem made_of {H : Hp} {l m : Addr} {xs ys : List Str} {Q : VK} {E : XK} (hl : H l = some (.lst (xs.map V.str))) (hm : H m = some (.lst (ys.map V.str))) (cat : Cat xs) (row : Row xs ys) (k : ∀ H' x, Same H H' → H x = none → ShNew H H' C x xs ys → Q (.ref x) H') :
    ∀ x dx, H x = none → H dx = none → dx ≠ x → spInit C (.ref x :: ([.ref l, .ref m] ++ [])) (upd (upd H dx (.own x)) x (.ins C dx [])) (fun v H2 => v = .non ∧ Q (.ref x) H2) E := by
  intro x dx hx hdx ne
  have old : ∀ b o, H b = some o → (upd (upd H dx (.own x)) x (.ins C dx [])) b = some o := fun b o e => by
    rw [upd_ne (ne_of_none e hx), upd_ne (ne_of_none e hdx)]
    exact e
  refine ⟨x, dx, l, m, xs, ys, rfl, upd_same, by rw [upd_ne ne]; exact upd_same, old _ _ hl, old _ _ hm, cat, row, fun H' keep sh => ⟨rfl, k H' x (fun b o e => keep b o (ne_of_none e hx) (old b o e)) hx (sh.under old)⟩⟩
/-- the same, for a longer way behind it -/
theorem made_use {H : Hp} {l m x dx : Addr} {xs ys : List Str} {Q : VK} {E : XK} (hl : H l = some (.lst (xs.map V.str))) (hm : H m = some (.lst (ys.map V.str))) (cat : Cat xs) (row : Row xs ys) (hx : H x = none) (hdx : H dx = none) (ne : dx ≠ x)
    (k : ∀ H', Same H H' → ShNew H H' C x xs ys → Q .non H') : spInit C (.ref x :: ([.ref l, .ref m] ++ [])) (upd (upd H dx (.own x)) x (.ins C dx [])) Q E := by
  have old : ∀ b o, H b = some o → (upd (upd H dx (.own x)) x (.ins C dx [])) b = some o := fun b o e => by
    rw [upd_ne (ne_of_none e hx), upd_ne (ne_of_none e hdx)]
    exact e
  exact ⟨x, dx, l, m, xs, ys, rfl, upd_same, by rw [upd_ne ne]; exact upd_same, old _ _ hl, old _ _ hm, cat, row, fun H' keep sh => k H' (fun b o e => keep b o (ne_of_none e hx) (old b o e)) (sh.under old)⟩
theorem scSorted : FnScope ["catalogue"] ["catalogue"] (defScope sSorted) := ⟨rfl, rfl, rfl, by decide +kernel, rfl, by decide +kernel, by decide +kernel⟩
def spSorted (C : Addr) : Sp := fun vs H Q _ => ∃ (l : Addr) (xs : List Str), vs = [.ref l] ∧ H l = some (.lst (xs.map V.str)) ∧ Cat xs ∧ ∀ H' x, Same H H' → H x = none → ShNew H H' C x xs xs → Q (.ref x) H'
theorem ok_sorted {f : Addr} {fd fdi : FuncData} (F : Fun K "sorted_shelf" "sorted_shelf" sSorted f fd) (T : ShC K C fi fq fc fr) (gS : mg "Shelf" = some (.ref C))
    (Gi : FnOk P w K mg base CX0 3 fi fdi ["self", "catalogue", "row"] (spInit C)) (bi : Binds K fdi ["self", "catalogue", "row"] []) : FnOk P w K mg base CX0 5 f fd ["catalogue"] (spSorted C) := by
  refine F.ok scSorted (fun vs H Q E h => ?_) (fun cdv A outer s H vs Q E hr h => ?_)
  · obtain ⟨l, xs, rfl, _⟩ := h
    rfl
  · obtain ⟨l, xs, rfl, hl, cat, q⟩ := h
    refine ⟨_, pss_one (ps_ret (pe_make T.makes Gi hr rfl gS bi .nil pass0 (pa_cons (pv 0) (pa_cons (pv 0) pa_nil)))), ?_⟩
    exact ⟨_, rfl, _, rfl, made_of hl hl cat cat.row q⟩
theorem scExch : FnScope ["shelf"] ["shelf"] (defScope sExch) := ⟨rfl, rfl, rfl, by decide +kernel, rfl, by decide +kernel, by decide +kernel⟩
def spExch (C : Addr) : Sp := fun vs H Q _ => ∃ (a : Addr) (xs ys : List Str), vs = [.ref a] ∧ ShAt H C a xs ys ∧ Cat xs ∧ Row xs ys ∧ ∀ H' x, Same H H' → H x = none → ShAt H' C x ys xs → Q (.ref x) H'
theorem ok_exch {f g : Addr} {fd gd fdi fdc fdr : FuncData} (F : Fun K "exchanged" "exchanged" sExch f fd) (T : ShC K C fi fq fc fr) (gS : mg "Shelf" = some (.ref C))
    (G : FnOk P w K mg base CX0 1 g gd ["shelf"] (spCheck C)) (mG : mg "check_shelf" = some (.ref g)) (kG : PySem.W.keepIn K (.ref g) = true) (bG : Binds K gd ["shelf"] [])
    (Gi : FnOk P w K mg base CX0 3 fi fdi ["self", "catalogue", "row"] (spInit C)) (bi : Binds K fdi ["self", "catalogue", "row"] [])
    (Gc : FnOk P w K mg base CX0 1 fc fdc ["self"] (spNew C fun xs _ => xs)) (bc : Binds K fdc ["self"] []) (Gr : FnOk P w K mg base CX0 1 fr fdr ["self"] (spNew C fun _ ys => ys)) (br : Binds K fdr ["self"] []) :
    FnOk P w K mg base CX0 5 f fd ["shelf"] (spExch C) := by
  refine F.ok scExch (fun vs H Q E h => ?_) (fun cdv A outer s H vs Q E hr h => ?_)
  · obtain ⟨a, xs, ys, rfl, _⟩ := h
    rfl
  · obtain ⟨a, xs, ys, rfl, sh, cat, row, q⟩ := h
    refine ⟨_, pss_cons (ps_expr (pe_call G (hr.mono (by decide)) rfl mG kG bG .nil pass0 (pa_cons (pv 0) pa_nil)))
      (pss_one (ps_ret (pe_make T.makes Gi hr rfl gS bi .nil pass0 (pa_cons (pe_meth0 (pv 0) T.cl T.mr Gr (hr.mono (by decide)) br .nil pass0) (pa_cons (pe_meth0 (pv 0) T.cl T.mc Gc (hr.mono (by decide)) bc .nil pass0) pa_nil))))), ?_⟩
    obtain ⟨dx, c, r, ha, hc, hr'⟩ := id sh
    refine ⟨_, rfl, a, xs, ys, rfl, sh, ?_⟩
    refine ⟨_, rfl, a, dx, _, rfl, ha, rfl, a, xs, ys, rfl, sh, fun l nl => ?_⟩
    have s1 : Same H (upd H l (.lst (ys.map V.str))) := same_upd nl
    refine ⟨_, rfl, a, dx, _, rfl, s1 _ _ ha, rfl, a, xs, ys, rfl, sh.mono s1, fun m nm => ?_⟩
    have s2 := s1.trans (same_upd (o := .lst (xs.map V.str)) nm)
    have nlm : l ≠ m := ne_of_none upd_same nm
    refine made_of (xs := ys) (ys := xs) ?_ upd_same (row.flip cat).1 (row.flip cat).2 fun H' x s3 nx sh' => q H' x (s2.trans s3) ?_ sh'.at
    · rw [upd_ne nlm]
      exact upd_same
    · cases e : H x with
      | none => rfl
      | some o =>
        have z := s2 _ _ e
        dsimp only at z nx
        rw [nx] at z
        cases z
end
end K2

end
-- K2W
section
set_option Elab.async false
set_option linter.all false
set_option maxRecDepth 100000
set_option maxHeartbeats 4100000
/-! ### the law's own: shuffled, exact -/
namespace K2
open L2 PyProof.Rows PySem PySem.Spec TS
abbrev sShuf : Stmt := top 26
abbrev sExact : Stmt := top 27
section
variable {base : Heap} {mg : Str → Option Value} {K : PySem.W.Frag} {w : World} {P : Program}
theorem scShuf : FnScope ["_law_purse_here", "_law_some", "_law_found", "_law_item"] ["_law_purse_here", "_law_some"] (defScope sShuf) := ⟨rfl, rfl, rfl, by decide +kernel, rfl, by decide +kernel, by decide +kernel⟩
/-- all but the purse stays -/
def But (p : Addr) (H H' : Hp) : Prop := ∀ c o, c ≠ p → H c = some o → H' c = some o
theorem But.refl {p : Addr} {H : Hp} : But p H H := fun _ _ _ e => e
theorem But.trans {p : Addr} {H H1 H2 : Hp} (a : But p H H1) (b : But p H1 H2) : But p H H2 := fun c o n e => b c o n (a c o n e)
theorem But.of {p : Addr} {H H' : Hp} (h : ∀ c, c ≠ p → H' c = H c) : But p H H' := fun c o n e => (h c n).trans e
theorem But.same {p : Addr} {H H' : Hp} (h : Same H H') : But p H H' := fun c o _ e => h c o e
theorem PurseAt.ne {H : Hp} {p l : Addr} {b : Int} {xs : List Str} (h : PurseAt H p b) (hl : H l = some (.lst (xs.map V.str))) : p ≠ l := by
  rintro rfl
  obtain ⟨_, _, _, _, hp, _⟩ := h
  rw [hp] at hl
  match xs, hl with
  | [], z => cases z
  | x :: r, z => simp at z
theorem PurseAt.at {H : Hp} {p : Addr} {b : Int} (h : PurseAt H p b) : ∃ o, H p = some o := let ⟨_, _, _, _, hp, _⟩ := h; ⟨_, hp⟩
def spShuf : Sp := fun vs H Q _ => ∃ (p l : Addr) (b : Int) (xs : List Str), vs = [.ref p, .ref l] ∧ PurseAt H p b ∧ b ≤ 2 ^ 40 ∧ H l = some (.lst (xs.map V.str)) ∧ xs.length ≤ 100 ∧
  ∀ (H' : Hp) (q : Addr) (zs : List Str), But p H H' → PurseAt H' p (b + 100) → H q = none → H' q = some (.lst (zs.map V.str)) → zs.Perm xs → Q (.ref q) H'
theorem ok_shuf {f g : Addr} {fd gd : FuncData} (F : Fun K "_law_shuffled" "_law_shuffled" sShuf f fd) (M : Md mg) (G : FnOk P w K mg base CX0 2 g gd ["_law_purse_here", "_law_many"] spDraw) (gG : mg "_law_draw" = some (.ref g)) (kG : PySem.W.keepIn K (.ref g) = true) (bG : Binds K gd ["_law_purse_here", "_law_many"] []) :
    FnOk P w K mg base CX0 3 f fd ["_law_purse_here", "_law_some"] spShuf := by
  refine F.ok scShuf (fun vs H Q E h => ?_) (fun cdv A outer s H vs Q E hr h => ?_)
  · obtain ⟨p, l, b, xs, rfl, _⟩ := h
    rfl
  · obtain ⟨p, l, b, xs, rfl, hP, hb, hl, few, q⟩ := h
    refine ⟨_, pss_cons (ps_set (i := 2) scShuf.nd rfl (Or.inl rfl) (pe_lst pa_nil))
      (pss_cons (ps_for PassesOwn.never rfl (pi_list (pv 1)) (pg_name (i := 3) scShuf.nd rfl (Or.inl rfl))
        (pss_one (ps_expr (pe_bm PySem.F.plainAttrs_list PySem.F.slot_list_insert PySem.F.type_list_insert mt_insert (pv 2)
          (pa_cons (pe_call G hr rfl gG kG bG .nil pass0 (pa_cons (pv 0) (pa_cons (pe_op op_add (pe_callB call_len_seq (by rfl) M.len PySem.boot_len (pa_cons (pv 2) pa_nil)) pe_int) pa_nil))) (pa_cons (pv 3) pa_nil))))))
      (pss_one (ps_ret (pv 2)))), ?_⟩
    refine ⟨Nat.zero_le _, fun f hf => ?_⟩
    have npl := hP.ne hl
    refine ⟨_, rfl, l, rfl, ⟨_, SqL.of (same_upd hf _ _ hl)⟩, ?_⟩
    refine for_list (K := K) (xs := xs.map V.str) (fun i σ H' => ∃ (it : Option V) (zs : List Str), σ = [some (.ref p), some (.ref l), some (.ref f), it] ∧ H' f = some (.lst (zs.map V.str)) ∧ zs.Perm (xs.take i) ∧ PurseAt H' p (b + (i : Int)) ∧ But p H H') ?_ ?_ ?_ ?_
    · exact ⟨none, [], rfl, upd_same, .nil, (hP.le (by omega)).same (same_upd hf), But.same (same_upd hf)⟩
    · rintro i σ H' _ ⟨it, zs, rfl, h1, h2, h3, h4⟩
      exact SqL.of (h4 l _ npl.symm hl)
    · rintro i x σ H1 hx ⟨it, zs, rfl, h1, h2, h3, h4⟩
      rw [List.getElem?_map] at hx
      obtain ⟨z, hz, rfl⟩ := Option.map_eq_some_iff.1 hx
      have lt := (List.getElem?_eq_some_iff.1 hz).1
      have hlen : zs.length = i := by rw [h2.length_eq, List.length_take]; omega
      have npf : p ≠ f := h3.ne h1
      refine ⟨_, rfl, .inl ⟨rfl, _, SqL.of h1⟩, ?_⟩
      refine ⟨_, rfl, _, rfl, f, _, rfl, .inl (SqL.of h1), _, _, rfl, rfl, ?_⟩
      refine ⟨p, zs.length + 1, b + (i : Int), by rw [List.length_map]; rfl, by omega, by omega, h3, by omega, fun H2 r hr2 hP2 hc2 => ?_⟩
      have h1' : H2 f = some (.lst (zs.map V.str)) := (hc2 f npf.symm).trans h1
      refine ⟨_, rfl, f, _, _, _, rfl, rfl, h1', by rw [List.length_map]; exact small1000 (by omega), Int.natCast_nonneg _, by omega, ?_⟩
      refine ⟨_, zs.take r ++ [z] ++ zs.drop r, rfl, ?_, ?_, ?_, ?_⟩
      · rw [upd_same]
        simp [List.map_take, List.map_drop]
      · rw [List.take_succ, hz]
        refine List.Perm.trans ?_ (h2.append (List.Perm.refl [z]))
        rw [List.append_assoc]
        refine (List.perm_middle.trans (List.Perm.cons z ?_)).trans (List.perm_append_singleton z zs).symm
        change (zs.take r ++ zs.drop r).Perm zs
        rw [List.take_append_drop]
      · obtain ⟨p0, p1, p2, p3, hp, g1, g2, g3, g4, g5⟩ := hP2
        exact ⟨p0, p1, p2, p3, by rw [upd_ne npf]; exact hp, g1, g2, g3, by omega, g5⟩
      · intro c o n e
        rw [upd_ne (ne_of_none e hf), hc2 c n]
        exact h4 c o n e
    · rintro σ H1 ⟨it, zs, rfl, h1, h2, h3, h4⟩
      rw [List.length_map, List.take_length] at h2
      refine ⟨_, rfl, q H1 f zs h4 (h3.le (by rw [List.length_map]; omega)) hf h1 h2⟩
/-! ### exact: the same data -/
/-- x and y are the same data, at most n deep -/
def Eqd (H : Hp) : Nat → V → V → Prop
  | 0, x, y => x = y ∧ ((∃ z, x = .str z) ∨ (∃ i, x = .int i) ∨ ∃ b, x = .bl b)
  | n + 1, x, y => (x = y ∧ ((∃ z, x = .str z) ∨ (∃ i, x = .int i) ∨ ∃ b, x = .bl b)) ∨
    ∃ a b xs ys, x = .ref a ∧ y = .ref b ∧ H a = some (.lst xs) ∧ H b = some (.lst ys) ∧ xs.length = ys.length ∧ xs.length ≤ 100 ∧ ∀ (i : Nat) (u v : V), xs[i]? = some u → ys[i]? = some v → Eqd H n u v
theorem Eqd.mono {H H' : Hp} (e : Same H H') : ∀ {n : Nat} {x y : V}, Eqd H n x y → Eqd H' n x y
  | 0, _, _, h => h
  | n + 1, _, _, .inl h => .inl h
  | n + 1, _, _, .inr ⟨a, b, xs, ys, h1, h2, h3, h4, h5, h6, h7⟩ => .inr ⟨a, b, xs, ys, h1, h2, e _ _ h3, e _ _ h4, h5, h6, fun i u v hu hv => Eqd.mono e (h7 i u v hu hv)⟩
theorem scExact : FnScope ["_law_mine", "_law_theirs", "_law_alike", "_law_key", "_law_a", "_law_b"] ["_law_mine", "_law_theirs"] (defScope sExact) := ⟨rfl, rfl, rfl, by decide +kernel, rfl, by decide +kernel, by decide +kernel⟩
def spExact (n : Nat) : Sp := fun vs H Q _ => ∃ x y, vs = [x, y] ∧ Eqd H n x y ∧ ∀ H', Same H H' → Q (.bl true) H'
theorem boot_dictT : PySem.bootBuiltins "dict" = some (.type "dict") := by decide +kernel
theorem boot_tupleT : PySem.bootBuiltins "tuple" = some (.type "tuple") := by decide +kernel
theorem boot_boolT : PySem.bootBuiltins "bool" = some (.type "bool") := by decide +kernel
/-- further names -/
structure Mx (mg : Str → Option Value) : Prop extends Md mg where
  tuple : mg "tuple" = none
  dict : mg "dict" = none
  bool : mg "bool" = none
  zip : mg "zip" = none
theorem kit_no {T : String} (h1 : kitB T "list" = some false) (h2 : kitB T "tuple" = some false) : PySem.W.kitAny K (.type T) [.type "list", .type "tuple"] = some false :=
  kitAny_cons (kit_ty h1) (fun _ => kitAny_cons (kit_ty h2) (fun _ => kitAny_nil) fun e => nomatch e) fun e => nomatch e
theorem kit_yes : PySem.W.kitAny K (.type "list") [.type "list", .type "tuple"] = some true :=
  kitAny_cons (b := true) (kit_ty (by decide +kernel)) (fun e => nomatch e) fun _ => rfl
theorem ok_exact {f : Addr} {fd : FuncData} (F : Fun K "_law_exact" "_law_exact" sExact f fd) (M : Mx mg) (gf : mg "_law_exact" = some (.ref f)) (kf : PySem.W.keepIn K (.ref f) = true) (bf : Binds K fd ["_law_mine", "_law_theirs"] []) :
    ∀ n, FnOk P w K mg base CX0 (n + 1) f fd ["_law_mine", "_law_theirs"] (spExact n)
  | 0 => by
    refine F.ok scExact (fun vs H Q E h => ?_) (fun cdv A outer s H vs Q E hr h => ?_)
    · obtain ⟨x, y, rfl, _⟩ := h
      rfl
    · obtain ⟨x, y, rfl, ⟨rfl, kind⟩, q⟩ := h
      refine ⟨_, pss_cons (ps_if (pt_val (pe_callB call_isiT (by rfl) M.isi boot_isi (pa_cons (pv 0) (pa_cons (pe_tup (pa_cons (pe_bltn (v := .ty "list") rfl M.list boot_listT rfl) (pa_cons (pe_bltn (v := .ty "tuple") rfl M.tuple boot_tupleT rfl) pa_nil))) pa_nil)))) pss_never pss_nil)
        (pss_cons (ps_if (pt_val (pe_callB call_isi (by rfl) M.isi boot_isi (pa_cons (pv 0) (pa_cons (pe_bltn (v := .ty "dict") rfl M.dict boot_dictT rfl) pa_nil)))) pss_never pss_nil)
        (pss_one (ps_ret (pe_and (pe_cmpR op_eq (pe_callB call_isi (by rfl) M.isi boot_isi (pa_cons (pv 0) (pa_cons (pe_bltn (v := .ty "bool") rfl M.bool boot_boolT rfl) pa_nil)))
            (pe_callB call_isi (by rfl) M.isi boot_isi (pa_cons (pv 1) (pa_cons (pe_bltn (v := .ty "bool") rfl M.bool boot_boolT rfl) pa_nil))) (nomark _))
          (pe_one (pe_cmpR op_eq (pv 0) (pv 1) (nomark _))))))), ?_⟩
      rcases kind with ⟨z, rfl⟩ | ⟨z, rfl⟩ | ⟨z, rfl⟩
      · refine ⟨_, rfl, (show 2 ≤ sizeLine by decide +kernel), fun t ht => ?_⟩
        refine ⟨_, t, _, _, _, false, rfl, upd_same, .cons (.ty _) (.cons (.ty _) .nil), .base (.str z), kit_no (by decide +kernel) (by decide +kernel), false, rfl, iteF ?_⟩
        refine ⟨_, rfl, _, _, _, _, _, rfl, .ty _, .base (.str z), kit_ty (by decide +kernel), false, rfl, iteF ?_⟩
        refine ⟨_, rfl, _, _, _, _, false, rfl, .ty _, .base (.str z), kit_ty (by decide +kernel), _, rfl, _, _, _, _, false, rfl, .ty _, .base (.str z), kit_ty (by decide +kernel), rfl, _, rfl, ?_⟩
        refine iteT ⟨_, rfl, _, rfl, rfl, ?_⟩
        rw [decide_eq_true rfl]
        exact q _ (same_upd ht)
      · refine ⟨_, rfl, (show 2 ≤ sizeLine by decide +kernel), fun t ht => ?_⟩
        refine ⟨_, t, _, _, _, false, rfl, upd_same, .cons (.ty _) (.cons (.ty _) .nil), .base (.int z), kit_no (by decide +kernel) (by decide +kernel), false, rfl, iteF ?_⟩
        refine ⟨_, rfl, _, _, _, _, _, rfl, .ty _, .base (.int z), kit_ty (by decide +kernel), false, rfl, iteF ?_⟩
        refine ⟨_, rfl, _, _, _, _, false, rfl, .ty _, .base (.int z), kit_ty (by decide +kernel), _, rfl, _, _, _, _, false, rfl, .ty _, .base (.int z), kit_ty (by decide +kernel), rfl, _, rfl, ?_⟩
        refine iteT ⟨_, rfl, _, rfl, rfl, ?_⟩
        rw [decide_eq_true rfl]
        exact q _ (same_upd ht)
      · refine ⟨_, rfl, (show 2 ≤ sizeLine by decide +kernel), fun t ht => ?_⟩
        refine ⟨_, t, _, _, _, false, rfl, upd_same, .cons (.ty _) (.cons (.ty _) .nil), .base (.bl z), kit_no (by decide +kernel) (by decide +kernel), false, rfl, iteF ?_⟩
        refine ⟨_, rfl, _, _, _, _, _, rfl, .ty _, .base (.bl z), kit_ty (by decide +kernel), false, rfl, iteF ?_⟩
        refine ⟨_, rfl, _, _, _, _, true, rfl, .ty _, .base (.bl z), kit_ty (by decide +kernel), _, rfl, _, _, _, _, true, rfl, .ty _, .base (.bl z), kit_ty (by decide +kernel), rfl, _, rfl, ?_⟩
        refine iteT ⟨_, rfl, _, rfl, rfl, ?_⟩
        rw [decide_eq_true rfl]
        exact q _ (same_upd ht)
  | n + 1 => by
    have IH := ok_exact F M gf kf bf n
    refine F.ok scExact (fun vs H Q E h => ?_) (fun cdv A outer s H vs Q E hr h => ?_)
    · obtain ⟨x, y, rfl, _⟩ := h
      rfl
    · obtain ⟨x, y, rfl, same, q⟩ := h
      refine ⟨_, pss_cons (ps_if (pt_val (pe_callB call_isiT (by rfl) M.isi boot_isi (pa_cons (pv 0) (pa_cons (pe_tup (pa_cons (pe_bltn (v := .ty "list") rfl M.list boot_listT rfl) (pa_cons (pe_bltn (v := .ty "tuple") rfl M.tuple boot_tupleT rfl) pa_nil))) pa_nil))))
            (pss_cons (ps_set (i := 2) scExact.nd rfl (Or.inl rfl) (pe_and (pe_cmpR op_eq (pe_callB call_isi (by rfl) M.isi boot_isi (pa_cons (pv 1) (pa_cons (pe_bltn (v := .ty "list") rfl M.list boot_listT rfl) pa_nil)))
                (pe_callB call_isi (by rfl) M.isi boot_isi (pa_cons (pv 0) (pa_cons (pe_bltn (v := .ty "list") rfl M.list boot_listT rfl) pa_nil))) (nomark _))
              (pe_one (pe_cmpR op_eq (pe_callB call_isi (by rfl) M.isi boot_isi (pa_cons (pv 1) (pa_cons (pe_bltn (v := .ty "tuple") rfl M.tuple boot_tupleT rfl) pa_nil)))
                (pe_callB call_isi (by rfl) M.isi boot_isi (pa_cons (pv 0) (pa_cons (pe_bltn (v := .ty "tuple") rfl M.tuple boot_tupleT rfl) pa_nil))) (nomark _)))))
            (pss_one (ps_ret (pe_and (pv 2) (pe_and (pe_cmpR op_eq (pe_callB call_len_seq (by rfl) M.len PySem.boot_len (pa_cons (pv 0) pa_nil)) (pe_callB call_len_seq (by rfl) M.len PySem.boot_len (pa_cons (pv 1) pa_nil)) (nomark _))
              (pe_one (pe_callB (cr_all rfl) (by rfl) M.all boot_all (pa_cons (pe_lc (own := [("_law_a", 4), ("_law_b", 5)]) (g := gTup K 2 (gCons (gName 4) (gCons (gName 5) gNil))) (tt := tYes) rfl scExact.nd
                (pi_zip rfl M.zip (pa_cons (pv 0) (pa_cons (pv 1) pa_nil))) (blkOk_by (N := ["_law_mine", "_law_theirs", "_law_alike", "_law_key", "_law_a", "_law_b"]) (sc := defScope sExact) (by decide +kernel))
                (fun _ _ _ _ _ => pg_tup rfl (pgs_cons (pg_name (i := 4) scExact.nd rfl (Or.inl rfl)) (pgs_cons (pg_name (i := 5) scExact.nd rfl (Or.inl rfl)) pgs_nil))) (fun _ _ _ _ _ => pts_nil)
                (fun _ _ _ _ _ => pe_call IH hr rfl gf kf bf .nil pass0 (pa_cons (pv 4) (pa_cons (pv 5) pa_nil)))) pa_nil)))))))) pss_nil)
        (pss_cons (ps_if (pt_val (pe_callB call_isi (by rfl) M.isi boot_isi (pa_cons (pv 0) (pa_cons (pe_bltn (v := .ty "dict") rfl M.dict boot_dictT rfl) pa_nil)))) pss_never pss_nil)
        (pss_one (ps_ret (pe_and (pe_cmpR op_eq (pe_callB call_isi (by rfl) M.isi boot_isi (pa_cons (pv 0) (pa_cons (pe_bltn (v := .ty "bool") rfl M.bool boot_boolT rfl) pa_nil)))
            (pe_callB call_isi (by rfl) M.isi boot_isi (pa_cons (pv 1) (pa_cons (pe_bltn (v := .ty "bool") rfl M.bool boot_boolT rfl) pa_nil))) (nomark _))
          (pe_one (pe_cmpR op_eq (pv 0) (pv 1) (nomark _))))))), ?_⟩
      rcases same with ⟨rfl, ⟨z, rfl⟩ | ⟨z, rfl⟩ | ⟨z, rfl⟩⟩ | ⟨a, b, xs, ys, rfl, rfl, ha, hb, len, few, each⟩
      · refine ⟨_, rfl, (show 2 ≤ sizeLine by decide +kernel), fun t ht => ?_⟩
        refine ⟨_, t, _, _, _, false, rfl, upd_same, .cons (.ty _) (.cons (.ty _) .nil), .base (.str z), kit_no (by decide +kernel) (by decide +kernel), false, rfl, iteF ?_⟩
        refine ⟨_, rfl, _, _, _, _, _, rfl, .ty _, .base (.str z), kit_ty (by decide +kernel), false, rfl, iteF ?_⟩
        refine ⟨_, rfl, _, _, _, _, false, rfl, .ty _, .base (.str z), kit_ty (by decide +kernel), _, rfl, _, _, _, _, false, rfl, .ty _, .base (.str z), kit_ty (by decide +kernel), rfl, _, rfl, ?_⟩
        refine iteT ⟨_, rfl, _, rfl, rfl, ?_⟩
        rw [decide_eq_true rfl]
        exact q _ (same_upd ht)
      · refine ⟨_, rfl, (show 2 ≤ sizeLine by decide +kernel), fun t ht => ?_⟩
        refine ⟨_, t, _, _, _, false, rfl, upd_same, .cons (.ty _) (.cons (.ty _) .nil), .base (.int z), kit_no (by decide +kernel) (by decide +kernel), false, rfl, iteF ?_⟩
        refine ⟨_, rfl, _, _, _, _, _, rfl, .ty _, .base (.int z), kit_ty (by decide +kernel), false, rfl, iteF ?_⟩
        refine ⟨_, rfl, _, _, _, _, false, rfl, .ty _, .base (.int z), kit_ty (by decide +kernel), _, rfl, _, _, _, _, false, rfl, .ty _, .base (.int z), kit_ty (by decide +kernel), rfl, _, rfl, ?_⟩
        refine iteT ⟨_, rfl, _, rfl, rfl, ?_⟩
        rw [decide_eq_true rfl]
        exact q _ (same_upd ht)
      · refine ⟨_, rfl, (show 2 ≤ sizeLine by decide +kernel), fun t ht => ?_⟩
        refine ⟨_, t, _, _, _, false, rfl, upd_same, .cons (.ty _) (.cons (.ty _) .nil), .base (.bl z), kit_no (by decide +kernel) (by decide +kernel), false, rfl, iteF ?_⟩
        refine ⟨_, rfl, _, _, _, _, _, rfl, .ty _, .base (.bl z), kit_ty (by decide +kernel), false, rfl, iteF ?_⟩
        refine ⟨_, rfl, _, _, _, _, true, rfl, .ty _, .base (.bl z), kit_ty (by decide +kernel), _, rfl, _, _, _, _, true, rfl, .ty _, .base (.bl z), kit_ty (by decide +kernel), rfl, _, rfl, ?_⟩
        refine iteT ⟨_, rfl, _, rfl, rfl, ?_⟩
        rw [decide_eq_true rfl]
        exact q _ (same_upd ht)
      · refine ⟨_, rfl, (show 2 ≤ sizeLine by decide +kernel), fun t ht => ?_⟩
        have s1 := same_upd (o := .tup [V.ty "list", V.ty "tuple"]) ht
        refine ⟨_, t, _, _, _, true, rfl, upd_same, .cons (.ty _) (.cons (.ty _) .nil), .base (.lst (s1 _ _ ha)), kit_yes, true, rfl, iteT ?_⟩
        have ha1 := s1 _ _ ha
        have hb1 := s1 _ _ hb
        generalize upd H t (.tup [V.ty "list", V.ty "tuple"]) = H1 at s1 ha1 hb1 ⊢
        refine ⟨_, rfl, _, _, _, _, true, rfl, .ty _, .base (.lst hb1), kit_ty (by decide +kernel), _, rfl, _, _, _, _, true, rfl, .ty _, .base (.lst ha1), kit_ty (by decide +kernel), rfl, _, rfl, iteT ?_⟩
        refine ⟨_, rfl, _, _, _, _, false, rfl, .ty _, .base (.lst hb1), kit_ty (by decide +kernel), _, rfl, _, _, _, _, false, rfl, .ty _, .base (.lst ha1), kit_ty (by decide +kernel), rfl, ?_⟩
        rw [decide_eq_true (show V.bl false = V.bl false from rfl)]
        refine ⟨_, rfl, _, rfl, iteT ?_⟩
        refine ⟨_, rfl, a, _, rfl, .inl (SqL.of ha1), _, rfl, b, _, rfl, .inl (SqL.of hb1), rfl, _, rfl, ?_⟩
        rw [decide_eq_true (show V.int ((xs.length : Nat) : Int) = V.int ((ys.length : Nat) : Int) by rw [len])]
        refine iteT ?_
        refine ⟨_, rfl, _, rfl, a, b, xs, ys, rfl, SqL.of ha1, SqL.of hb1, fun D hD => ?_⟩
        refine lc_it (walk_zip (K := K) (a := a) (b := b) (xs := xs) (ys := ys) (n := xs.length) (by rw [len, Nat.min_self])) (fun i H' => H' D = some (.lst ((List.replicate i true).map V.bl)) ∧ Same H1 H') ⟨upd_same, same_upd hD⟩
          (fun i H' _ ⟨_, h2⟩ => ⟨SqL.of (h2 _ _ ha1), SqL.of (h2 _ _ hb1)⟩) ?_ ?_
        · rintro i x H2 H3 hi ⟨h1, h2⟩ ⟨t, u, v, rfl, nt, rfl, eu, ev⟩
          have s2 := same_upd (o := .tup [u, v]) nt
          refine ⟨t, _, rfl, .inl (.inl upd_same), rfl, _, _, rfl, _, _, rfl, rfl, rfl, ?_⟩
          refine ⟨_, rfl, _, rfl, u, v, rfl, ((each i u v eu ev).mono (s1.trans h2)).mono s2, fun H4 s4 => ?_⟩
          refine ⟨_, s4 _ _ (s2 _ _ h1), by rw [List.length_map, List.length_replicate]; exact small1000 (by omega), ?_, fun o ob eb => ?_⟩
          · rw [upd_same]
            simp [List.replicate_succ']
          · rw [upd_ne (ne_of_none eb hD)]
            exact s4 _ _ (s2 _ _ (h2 _ _ eb))
        · rintro H2 ⟨h1, h2⟩
          refine ⟨D, List.replicate xs.length true, rfl, SqL.of h1, ?_⟩
          have ea : (List.replicate xs.length true).all id = true := by simp
          rw [ea]
          exact q _ (s1.trans h2)
end
end K2

end
-- K2X
section
set_option Elab.async false
set_option linter.all false
set_option maxRecDepth 100000
set_option maxHeartbeats 4100000
/-! ### the law's own: words, catalogues -/
namespace K2
open L2 PyProof.Rows PySem PySem.Spec TS
/-- the signs of a text, one by one -/
def signs (z : Str) : List Str := z.cps.toList.map fun c => (⟨#[c]⟩ : Str)
theorem call_listT {X : Cx} (calm : X.calm = true) : CallR X (.type "list") (fun xs H Q => ∃ z : Str, xs = [.str z] ∧ z.length ≤ sizeLine ∧ ∀ q, H q = none → Q (.ref q) (upd H q (.lst ((signs z).map V.str)))) := by
  rintro pins s σ H xs us Q I r ⟨z, rfl, few, q⟩
  obtain ⟨u, rfl, t, rfl⟩ := (vals1 r)
  refine call_list_str (hn := few) (I.ok.hd calm) z t fun h' tk acc c' keep at_ items => ?_
  have many : ((signs z).map V.str).length = z.cps.size := by simp [signs]
  refine ⟨.ref s.heap.objs.size, _, I.laid keep (Nat.le_refl _) (?_ : ObjOk X.prog X.w _ _ _ (.lst ((signs z).map V.str))), rfl, q _ (I.hok.fresh (Nat.le_refl _))⟩
  refine ⟨by rw [many]; exact few, acc.toList, c', vals_of_at (by rw [many, Array.length_toList, items.1]) fun j x w hx hw => ?_, at_⟩
  have told := items.2 j w (by rw [← Array.getElem?_toList]; exact hw)
  obtain ⟨c, u, hc, rfl⟩ := told
  rw [List.getElem?_map, signs, List.getElem?_map, Array.getElem?_toList, hc] at hx
  obtain rfl := Option.some.inj hx
  exact ⟨u, rfl⟩
abbrev sWords : Stmt := top 29
theorem cps_app (a b : Str) : (a ++ b).cps.toList = a.cps.toList ++ b.cps.toList := by
  change (a.cps ++ b.cps).toList = _
  simp
theorem sIx_nat {n d i : Nat} (h : i ≤ n) : HT.sIx n d (some ((i : Nat) : Int)) = i := (HT.sIx_nat n d i).trans (Nat.min_eq_left h)
theorem cut_len (z : Str) (lo hi : Option Int) : (cutS z lo hi).length ≤ z.length := by
  have n : z.cps.toList.length = z.length := by simp [Str.length]
  change (cutS z lo hi).cps.size ≤ _
  unfold cutS
  rw [← Array.length_toList]
  simp only [List.length_take, List.length_drop, n]
  omega
/-- a letter put in the place of one -/
theorem swap_word {z : Str} {r c : Nat} (hz : isWord z) (hr : r < z.length) (hc : 97 ≤ c ∧ c ≤ 122) :
    isWord (cutS z none (some ((r : Nat) : Int)) ++ (⟨#[c]⟩ : Str) ++ cutS z (some (((r : Nat) : Int) + 1)) none) := by
  have e : (cutS z none (some ((r : Nat) : Int)) ++ (⟨#[c]⟩ : Str) ++ cutS z (some (((r : Nat) : Int) + 1)) none).cps.toList = z.cps.toList.take r ++ [c] ++ z.cps.toList.drop (r + 1) := by
    rw [cps_app, cps_app]
    have n : z.cps.toList.length = z.length := by simp [Str.length]
    have i1 : HT.sIx z.length z.length (some ((r : Nat) : Int)) = r := sIx_nat (by omega)
    have i2 : HT.sIx z.length 0 (some (((r : Nat) : Int) + 1)) = r + 1 := sIx_nat (i := r + 1) (by omega)
    have h1 : (cutS z none (some ((r : Nat) : Int))).cps.toList = z.cps.toList.take r := by
      unfold cutS
      rw [i1]
      simp [HT.sIx]
    have h2 : (cutS z (some (((r : Nat) : Int) + 1)) none).cps.toList = z.cps.toList.drop (r + 1) := by
      unfold cutS
      rw [i2]
      have : HT.sIx z.length z.length none = z.length := rfl
      rw [this]
      simp only []
      rw [List.take_of_length_le (by rw [List.length_drop, n]; exact Nat.le.refl)]
    rw [h1, h2]
  have size : (cutS z none (some ((r : Nat) : Int)) ++ (⟨#[c]⟩ : Str) ++ cutS z (some (((r : Nat) : Int) + 1)) none).length = z.length := by
    change (_ : Str).cps.size = _
    rw [← Array.length_toList, e]
    have : z.cps.toList.length = z.length := by simp [Str.length]
    simp only [List.length_append, List.length_take, List.length_drop, List.length_singleton, this]
    omega
  refine ⟨by rw [size]; exact hz.1, by rw [size]; exact hz.2.1, fun d hd => ?_⟩
  rw [e] at hd
  rcases List.mem_append.1 hd with hd | hd
  · rcases List.mem_append.1 hd with hd | hd
    · exact hz.2.2 d (List.mem_of_mem_take hd)
    · rw [List.mem_singleton.1 hd]
      exact hc
  · exact hz.2.2 d (List.mem_of_mem_drop hd)
theorem nodup_le : ∀ (ys xs : List Str), ys.Nodup → (∀ y ∈ ys, y ∈ xs) → ys.length ≤ xs.length
  | [], xs, _, _ => Nat.zero_le _
  | y :: r, xs, nd, sub => by
    rw [List.nodup_cons] at nd
    have hy : y ∈ xs := sub y List.mem_cons_self
    have ih := nodup_le r (xs.erase y) nd.2 fun z hz => (List.mem_erase_of_ne fun (q : z = y) => nd.1 (q ▸ hz)).2 (sub z (List.mem_cons_of_mem _ hz))
    rw [List.length_erase_of_mem hy] at ih
    have := List.length_pos_of_mem hy
    rw [List.length_cons]
    omega
abbrev abc : Str := "abcdefghijklmnopqrstuvwxyz"
theorem abc_signs : (signs abc).length = 26 ∧ (signs abc).Nodup ∧ ∀ y ∈ signs abc, isWord y := by
  have e : signs abc = (List.range 26).map fun k => (⟨#[97 + k]⟩ : Str) := by
    unfold signs
    rw [show abc.cps.toList = _ from abc_eq, List.map_map]
    rfl
  refine ⟨by rw [e]; rfl, by rw [e]; decide +kernel, fun y hy => ?_⟩
  rw [e] at hy
  obtain ⟨k, hk, rfl⟩ := List.mem_map.1 hy
  have := List.mem_range.1 hk
  refine ⟨Nat.le.refl, (show 1 ≤ 8 by decide), fun c hc => ?_⟩
  have : c = 97 + k := by simpa using hc
  omega
/-- some letter is not among few words -/
theorem abc_left {zs : List Str} (few : zs.length < 26) : ((signs abc).filter fun y => decide (y ∉ zs)) ≠ [] := by
  intro e
  obtain ⟨n, nd, _⟩ := abc_signs
  have sub : ∀ y ∈ signs abc, y ∈ zs := fun y hy => by
    have := List.filter_eq_nil_iff.1 e y hy
    simpa using this
  have := nodup_le (signs abc) zs nd sub
  omega
section
variable {base : Heap} {mg : Str → Option Value} {K : PySem.W.Frag} {w : World} {P : Program}
theorem scWords : FnScope ["_law_purse_here", "_law_many", "_law_base", "_law_near", "_law_spot", "_law_found", "_law_turn", "_law_word_here", "_law_letter"] ["_law_purse_here", "_law_many"] (defScope sWords) := ⟨rfl, rfl, rfl, by decide +kernel, rfl, by decide +kernel, by decide +kernel⟩
def spWords : Sp := fun vs H Q _ => ∃ (p : Addr) (b : Int) (n : Nat), vs = [.ref p, .int n] ∧ n ≤ 16 ∧ PurseAt H p b ∧ b ≤ 2 ^ 39 ∧
  ∀ (H' : Hp) (q : Addr) (zs : List Str), But p H H' → PurseAt H' p (b + 1000) → H q = none → H' q = some (.lst (zs.map V.str)) → zs.length = n → (∀ z ∈ zs, isWord z) → zs.Nodup → Q (.ref q) H'
theorem ok_words {f g1 g2 : Addr} {fd gd1 gd2 : FuncData} (F : Fun K "_law_words" "_law_words" sWords f fd) (M : Mx mg) (B : Bl mg)
    (G1 : FnOk P w K mg base CX0 2 g1 gd1 ["_law_purse_here", "_law_many"] spDraw) (m1 : mg "_law_draw" = some (.ref g1)) (k1 : PySem.W.keepIn K (.ref g1) = true) (b1 : Binds K gd1 ["_law_purse_here", "_law_many"] [])
    (G2 : FnOk P w K mg base CX0 3 g2 gd2 ["_law_purse_here"] spWord) (m2 : mg "_law_word" = some (.ref g2)) (k2 : PySem.W.keepIn K (.ref g2) = true) (b2 : Binds K gd2 ["_law_purse_here"] []) :
    FnOk P w K mg base CX0 4 f fd ["_law_purse_here", "_law_many"] spWords := by
  refine F.ok scWords (fun vs H Q E h => ?_) (fun cdv A outer s H vs Q E hr h => ?_)
  · obtain ⟨p, b, n, rfl, _⟩ := h
    rfl
  · obtain ⟨p, b, n, rfl, hn, hP, hb, q⟩ := h
    have hr2 := hr.mono (show 2 ≤ 3 by decide)
    refine ⟨_, pss_cons (ps_par (i := 2) (j := 3) rfl scWords.nd rfl rfl (by decide) rfl rfl (pa_cons (pe_call G2 hr rfl m2 k2 b2 .nil pass0 (pa_cons (pv 0) pa_nil)) (pa_cons (pe_cmpR op_eq (pe_call G1 hr2 rfl m1 k1 b1 .nil pass0 (pa_cons (pv 0) (pa_cons pe_int pa_nil))) pe_int (nomark _)) pa_nil)) rfl)
      (pss_cons (ps_asg (pe_tup (pa_cons (pe_call G1 hr2 rfl m1 k1 b1 .nil pass0 (pa_cons (pv 0) (pa_cons (pe_callB call_len_str (by rfl) M.len PySem.boot_len (pa_cons (pv 2) pa_nil)) pa_nil))) (pa_cons (pe_lst pa_nil) pa_nil)))
        (pg_tup rfl (pgs_cons (pg_name (i := 4) scWords.nd rfl (Or.inl rfl)) (pgs_cons (pg_name (i := 5) scWords.nd rfl (Or.inr rfl)) pgs_nil))))
      (pss_cons (ps_for PassesOwn.never rfl (pi_range1 rfl B.range (pa_cons (pv 1) pa_nil)) (pg_name (i := 6) scWords.nd rfl (Or.inl rfl))
        (pss_cons (ps_set (i := 7) scWords.nd rfl (Or.inl rfl) (pe_op op_add_str (pe_op op_add_str (pe_slice sl_str (pv 2) po_none (po_some (pv 4))) (pe_ix ix_str pe_str (pe_call G1 hr2 rfl m1 k1 b1 .nil pass0 (pa_cons (pv 0) (pa_cons pe_int pa_nil))) (fun _ _ => rfl)))
            (pe_slice sl_str (pv 2) (po_some (pe_op op_add (pv 4) pe_int)) po_none)))
        (pss_cons (ps_if (pt_not (pt_val (pv 3))) (pss_one (ps_set (i := 7) scWords.nd rfl (Or.inl rfl) (pe_call G2 hr rfl m2 k2 b2 .nil pass0 (pa_cons (pv 0) pa_nil)))) pss_nil)
        (pss_cons (ps_if (pt_cmpR (op_in_seqK (K := K) rfl) (pv 7) (pv 5) rfl) (pss_one (ps_set (i := 7) scWords.nd rfl (Or.inl rfl)
            (pe_ix ix_list (pe_lc (own := [("_law_letter", 8)]) (g := gName 8) rfl scWords.nd (pi_list (pe_callTy (call_listT rfl) (by rfl) M.list boot_listT (pa_cons pe_str pa_nil))) (blkOk_by (N := ["_law_purse_here", "_law_many", "_law_base", "_law_near", "_law_spot", "_law_found", "_law_turn", "_law_word_here", "_law_letter"]) (sc := defScope sWords) (by decide +kernel))
              (fun _ _ _ _ _ => pg_name (i := 8) scWords.nd rfl (Or.inl rfl)) (fun _ _ _ _ _ => pts_one (pt_cmpR (op_notIn_seqK (K := K) rfl) (pv 8) (pv 5) rfl)) (fun _ _ _ _ _ => pv 8)) pe_int (fun _ _ => rfl)))) pss_nil)
        (pss_one (ps_expr (pe_bm PySem.F.plainAttrs_list PySem.F.slot_list_append PySem.F.type_list_append mt_append (pv 5) (pa_cons (pv 7) pa_nil))))))))
      (pss_one (ps_ret (pv 5))))), ?_⟩
    refine ⟨_, rfl, p, b, rfl, hP, by omega, fun H1 z hz hP1 but1 => ?_⟩
    refine ⟨_, rfl, p, 3, b + 20, rfl, by decide, by decide, hP1, by omega, fun H2 r hr' hP2 hc2 => ?_⟩
    refine ⟨rfl, _, _, rfl, ?_⟩
    have but2 : But p H H2 := fun c o n e => (hc2 c n).trans (but1 c o n e)
    generalize decide (V.int ((r : Nat) : Int) = V.int 0) = near
    refine ⟨_, rfl, _, rfl, z, rfl, Nat.le_trans hz.2.1 (by decide +kernel), p, z.length, b + 21, rfl, hz.1, Nat.lt_of_le_of_lt hz.2.1 (by decide), hP2.le (by omega), by omega, fun H3 r2 hr2' hP3 hc3 => ?_⟩
    have but3 : But p H H3 := fun c o n e => (hc3 c n).trans (but2 c o n e)
    refine ⟨Nat.zero_le _, fun l hl => ⟨(show 2 ≤ sizeLine by decide +kernel), fun t ht => ?_⟩⟩
    have nlt : l ≠ t := ne_of_none upd_same ht
    have s4 : Same H3 (upd (upd H3 l (.lst [])) t (.tup [.int ((r2 : Nat) : Int), .ref l])) := (same_upd hl).trans (same_upd ht)
    have hl4 : (upd (upd H3 l (.lst [])) t (.tup [.int ((r2 : Nat) : Int), .ref l])) l = some (.lst []) := by rw [upd_ne nlt]; exact upd_same
    have hP4 : PurseAt (upd (upd H3 l (.lst [])) t (.tup [.int ((r2 : Nat) : Int), .ref l])) p (b + 22) := (hP3.le (by omega)).same s4
    refine ⟨t, _, rfl, .inl (.inl upd_same), rfl, _, _, rfl, _, _, rfl, rfl, ?_⟩
    have but4 : But p H (upd (upd H3 l (.lst [])) t (.tup [.int ((r2 : Nat) : Int), .ref l])) := but3.trans (But.same s4)
    have hlH : H l = none := by
      cases e : H l with
      | none => rfl
      | some o =>
        have npl : p ≠ l := by
          rintro rfl
          obtain ⟨o', e'⟩ := hP3.at
          rw [hl] at e'
          cases e'
        rw [but3 l o npl.symm e] at hl
        cases hl
    generalize upd (upd H3 l (.lst [])) t (.tup [.int ((r2 : Nat) : Int), .ref l]) = H4 at hl4 hP4 but4
    refine ⟨_, rfl, _, rfl, by omega, by omega, ?_⟩
    refine for_range (n := n) (fun i σ H' => ∃ (it wh lt : Option V) (zs : List Str), σ = [some (.ref p), some (.int n), some (.str z), some (.bl near), some (.int ((r2 : Nat) : Int)), some (.ref l), it, wh, lt] ∧ H' l = some (.lst (zs.map V.str)) ∧ zs.length = i ∧
      (∀ x ∈ zs, isWord x) ∧ zs.Nodup ∧ PurseAt H' p (b + 22 + 21 * (i : Int)) ∧ But p H H') ?_ ?_ ?_
    · exact ⟨none, none, none, [], rfl, hl4, rfl, (fun x hx => nomatch hx), .nil, hP4.le (by omega), but4⟩
    · rintro i σ H5 hi ⟨it, wh, lt, zs, rfl, g1, g2, g3, g4, g5, g6⟩
      have npl : p ≠ l := g5.ne g1
      refine ⟨_, rfl, _, rfl, _, rfl, z, rfl, Nat.le_trans hz.2.1 (by decide +kernel), ?_⟩
      refine ⟨_, rfl, p, 26, b + 22 + 21 * (i : Int), rfl, by decide, by decide, g5, by omega, fun H6 r3 hr3 hP6 hc6 => ?_⟩
      have hlt : (("abcdefghijklmnopqrstuvwxyz" : Str)).cps.toList[r3]? = some (97 + r3) := by
        rw [abc_eq, List.getElem?_map, List.getElem?_range hr3]
        rfl
      refine ⟨_, (r3 : Int), 97 + r3, rfl, rfl, by decide +kernel, atI_nat hlt, ?_⟩
      have c1 := cut_len z none (some ((r2 : Nat) : Int))
      have c2 := cut_len z (some (((r2 : Nat) : Int) + 1)) none
      have z8 := hz.2.1
      have w1 : isWord (cutS z none (some ((r2 : Nat) : Int)) ++ (⟨#[97 + r3]⟩ : Str) ++ cutS z (some (((r2 : Nat) : Int) + 1)) none) := swap_word hz hr2' ⟨by omega, by omega⟩
      have one : ((⟨#[97 + r3]⟩ : Str)).length = 1 := rfl
      have app : ∀ a b : Str, (a ++ b).length = a.length + b.length := fun a b => by
        change (a.cps ++ b.cps).size = _
        simp [Str.length]
      have line : (1000 : Nat) ≤ sizeLine := by decide +kernel
      refine ⟨_, _, rfl, rfl, by rw [one]; omega, _, rfl, _, rfl, _, _, rfl, rfl, _, rfl, z, rfl, by omega, _, _, rfl, rfl, by rw [app, one]; omega, ?_⟩
      generalize cutS z none (some ((r2 : Nat) : Int)) ++ (⟨#[97 + r3]⟩ : Str) ++ cutS z (some (((r2 : Nat) : Int) + 1)) none = x1 at w1 ⊢
      have hl6 : H6 l = some (.lst (zs.map V.str)) := (hc6 l npl.symm).trans g1
      have but6 : But p H H6 := fun c o n e => (hc6 c n).trans (g6 c o n e)
      cases near
      case true =>
        refine ⟨_, rfl, true, rfl, iteF ?_⟩
        refine ⟨_, rfl, _, rfl, l, zs.map V.str, rfl, .inl (SqL.of hl6), rfl, flat_strs zs, _, rfl, ?_⟩
        rw [inV_strs]
        by_cases seen : x1 ∈ zs
        · rw [decide_eq_true seen]
          refine iteT ?_
          refine ⟨_, rfl, (by decide +kernel), fun q' nq => ?_⟩
          have s8 := same_upd (o := .lst ((signs abc).map V.str)) nq
          refine ⟨q', rfl, ⟨_, SqL.of upd_same⟩, fun D hD => ?_⟩
          have hq' : (upd H6 q' (.lst ((signs abc).map V.str))) q' = some (.lst ((signs abc).map V.str)) := upd_same
          have hl8 := s8 _ _ hl6
          have but8 : But p H (upd H6 q' (.lst ((signs abc).map V.str))) := but6.trans (But.same s8)
          have hP8 := hP6.same s8
          dsimp only at hD ⊢
          generalize upd H6 q' (.lst ((signs abc).map V.str)) = H8 at hD hq' hl8 but8 hP8 ⊢
          refine lc_list (K := K) (a := q') (xs := (signs abc).map V.str) (fun j H' => H' D = some (.lst ((((signs abc).take j).filter fun y => decide (y ∉ zs)).map V.str)) ∧ Same H8 H') ⟨upd_same, same_upd hD⟩ (fun j H' _ ⟨_, h2⟩ => SqL.of (h2 _ _ hq')) ?_ ?_
          · rintro j v H9 hv ⟨h1, h2⟩
            rw [List.getElem?_map] at hv
            obtain ⟨y, hy, rfl⟩ := Option.map_eq_some_iff.1 hv
            refine ⟨rfl, ?_⟩
            refine ⟨_, rfl, _, rfl, l, zs.map V.str, rfl, .inl (SqL.of (h2 _ _ hl8)), rfl, flat_strs zs, _, rfl, ?_⟩
            rw [inV_strs]
            have step : (signs abc).take (j + 1) = (signs abc).take j ++ [y] := by rw [List.take_succ, hy]; rfl
            by_cases sy : y ∈ zs
            · rw [decide_eq_true sy]
              refine iteF ⟨?_, h2⟩
              rw [step, List.filter_append]
              simpa [sy] using h1
            · rw [decide_eq_false sy]
              refine iteT ⟨_, rfl, _, h1, ?_, ?_, fun o ob eb => ?_⟩
              · rw [List.length_map]
                refine Nat.lt_of_le_of_lt (Nat.le_trans (List.length_filter_le _ _) (List.length_take_le' _ _)) ?_
                rw [abc_signs.1]
                omega
              · rw [upd_same, step, List.filter_append]
                simp [sy]
              · rw [upd_ne (ne_of_none eb hD)]
                exact h2 _ _ eb
          · rintro H9 ⟨h1, h2⟩
            rw [List.length_map, List.take_length] at h1
            obtain ⟨y, r, ey⟩ : ∃ y r, ((signs abc).filter fun y => decide (y ∉ zs)) = y :: r := by
              cases e : (signs abc).filter fun y => decide (y ∉ zs) with
              | nil => exact absurd e (abc_left (by omega))
              | cons y r => exact ⟨y, r, rfl⟩
            have hy : y ∈ (signs abc).filter fun y => decide (y ∉ zs) := by rw [ey]; exact List.mem_cons_self
            rw [List.mem_filter] at hy
            have wy : isWord y := abc_signs.2.2 y hy.1
            have ny : y ∉ zs := by simpa using hy.2
            rw [ey] at h1
            refine ⟨D, _, 0, .str y, rfl, rfl, SqL.of h1, (show atI ((y :: r).map V.str) ((0 : Nat) : Int) = _ from atI_nat rfl), ?_⟩
            have hl9 := h2 _ _ hl8
            have but9 := but8.trans (But.same h2)
            have hP9 := hP8.same h2
            have npl9 : p ≠ l := hP9.ne hl9
            refine ⟨_, rfl, .inl ⟨rfl, _, SqL.of hl9⟩, _, rfl, l, _, _, rfl, rfl, hl9, by rw [List.length_map]; omega, ?_⟩
            refine ⟨_, _, _, zs ++ [y], rfl, by rw [upd_same, List.map_append]; rfl, by rw [List.length_append, g2]; rfl, fun y hy => ?_, ?_, ?_, fun c o n e => ?_⟩
            · rcases List.mem_append.1 hy with h | h
              · exact g3 y h
              · rw [List.mem_singleton.1 h]
                exact wy
            · rw [List.nodup_append]
              refine ⟨g4, by simp, fun a ha b hb => ?_⟩
              rw [List.mem_singleton.1 hb]
              rintro rfl
              exact ny ha
            · obtain ⟨p0, p1, p2, p3, hp, k1, k2, k3, k4, k5⟩ := hP9
              exact ⟨p0, p1, p2, p3, by rw [upd_ne npl9]; exact hp, k1, k2, k3, by omega, k5⟩
            · rw [upd_ne (ne_of_none e hlH)]
              exact but9 c o n e
        · rw [decide_eq_false seen]
          refine iteF ?_
          have npl9 : p ≠ l := hP6.ne hl6
          refine ⟨_, rfl, .inl ⟨rfl, _, SqL.of hl6⟩, _, rfl, l, _, _, rfl, rfl, hl6, by rw [List.length_map]; omega, ?_⟩
          refine ⟨_, _, _, zs ++ [x1], rfl, by rw [upd_same, List.map_append]; rfl, by rw [List.length_append, g2]; rfl, fun y hy => ?_, ?_, ?_, fun c o n e => ?_⟩
          · rcases List.mem_append.1 hy with h | h
            · exact g3 y h
            · rw [List.mem_singleton.1 h]
              exact w1
          · rw [List.nodup_append]
            refine ⟨g4, by simp, fun a ha b hb => ?_⟩
            rw [List.mem_singleton.1 hb]
            rintro rfl
            exact seen ha
          · obtain ⟨p0, p1, p2, p3, hp, k1, k2, k3, k4, k5⟩ := hP6
            exact ⟨p0, p1, p2, p3, by rw [upd_ne npl9]; exact hp, k1, k2, k3, by omega, k5⟩
          · rw [upd_ne (ne_of_none e hlH)]
            exact but6 c o n e
      case false =>
        refine ⟨_, rfl, false, rfl, iteT ?_⟩
        refine ⟨_, rfl, p, b + 22 + 21 * (i : Int) + 1, rfl, hP6, by omega, fun H7 x2 w2 hP7 but7 => ?_⟩
        have hl7 := but7 l _ npl.symm hl6
        have but7' : But p H H7 := but6.trans but7
        refine ⟨_, rfl, _, rfl, l, zs.map V.str, rfl, .inl (SqL.of hl7), rfl, flat_strs zs, _, rfl, ?_⟩
        rw [inV_strs]
        by_cases seen : x2 ∈ zs
        · rw [decide_eq_true seen]
          refine iteT ?_
          refine ⟨_, rfl, (by decide +kernel), fun q' nq => ?_⟩
          have s8 := same_upd (o := .lst ((signs abc).map V.str)) nq
          refine ⟨q', rfl, ⟨_, SqL.of upd_same⟩, fun D hD => ?_⟩
          have hq' : (upd H7 q' (.lst ((signs abc).map V.str))) q' = some (.lst ((signs abc).map V.str)) := upd_same
          have hl8 := s8 _ _ hl7
          have but8 : But p H (upd H7 q' (.lst ((signs abc).map V.str))) := but7'.trans (But.same s8)
          have hP8 := hP7.same s8
          dsimp only at hD ⊢
          generalize upd H7 q' (.lst ((signs abc).map V.str)) = H8 at hD hq' hl8 but8 hP8 ⊢
          refine lc_list (K := K) (a := q') (xs := (signs abc).map V.str) (fun j H' => H' D = some (.lst ((((signs abc).take j).filter fun y => decide (y ∉ zs)).map V.str)) ∧ Same H8 H') ⟨upd_same, same_upd hD⟩ (fun j H' _ ⟨_, h2⟩ => SqL.of (h2 _ _ hq')) ?_ ?_
          · rintro j v H9 hv ⟨h1, h2⟩
            rw [List.getElem?_map] at hv
            obtain ⟨y, hy, rfl⟩ := Option.map_eq_some_iff.1 hv
            refine ⟨rfl, ?_⟩
            refine ⟨_, rfl, _, rfl, l, zs.map V.str, rfl, .inl (SqL.of (h2 _ _ hl8)), rfl, flat_strs zs, _, rfl, ?_⟩
            rw [inV_strs]
            have step : (signs abc).take (j + 1) = (signs abc).take j ++ [y] := by rw [List.take_succ, hy]; rfl
            by_cases sy : y ∈ zs
            · rw [decide_eq_true sy]
              refine iteF ⟨?_, h2⟩
              rw [step, List.filter_append]
              simpa [sy] using h1
            · rw [decide_eq_false sy]
              refine iteT ⟨_, rfl, _, h1, ?_, ?_, fun o ob eb => ?_⟩
              · rw [List.length_map]
                refine Nat.lt_of_le_of_lt (Nat.le_trans (List.length_filter_le _ _) (List.length_take_le' _ _)) ?_
                rw [abc_signs.1]
                omega
              · rw [upd_same, step, List.filter_append]
                simp [sy]
              · rw [upd_ne (ne_of_none eb hD)]
                exact h2 _ _ eb
          · rintro H9 ⟨h1, h2⟩
            rw [List.length_map, List.take_length] at h1
            obtain ⟨y, r, ey⟩ : ∃ y r, ((signs abc).filter fun y => decide (y ∉ zs)) = y :: r := by
              cases e : (signs abc).filter fun y => decide (y ∉ zs) with
              | nil => exact absurd e (abc_left (by omega))
              | cons y r => exact ⟨y, r, rfl⟩
            have hy : y ∈ (signs abc).filter fun y => decide (y ∉ zs) := by rw [ey]; exact List.mem_cons_self
            rw [List.mem_filter] at hy
            have wy : isWord y := abc_signs.2.2 y hy.1
            have ny : y ∉ zs := by simpa using hy.2
            rw [ey] at h1
            refine ⟨D, _, 0, .str y, rfl, rfl, SqL.of h1, (show atI ((y :: r).map V.str) ((0 : Nat) : Int) = _ from atI_nat rfl), ?_⟩
            have hl9 := h2 _ _ hl8
            have but9 := but8.trans (But.same h2)
            have hP9 := hP8.same h2
            have npl9 : p ≠ l := hP9.ne hl9
            refine ⟨_, rfl, .inl ⟨rfl, _, SqL.of hl9⟩, _, rfl, l, _, _, rfl, rfl, hl9, by rw [List.length_map]; omega, ?_⟩
            refine ⟨_, _, _, zs ++ [y], rfl, by rw [upd_same, List.map_append]; rfl, by rw [List.length_append, g2]; rfl, fun y hy => ?_, ?_, ?_, fun c o n e => ?_⟩
            · rcases List.mem_append.1 hy with h | h
              · exact g3 y h
              · rw [List.mem_singleton.1 h]
                exact wy
            · rw [List.nodup_append]
              refine ⟨g4, by simp, fun a ha b hb => ?_⟩
              rw [List.mem_singleton.1 hb]
              rintro rfl
              exact ny ha
            · obtain ⟨p0, p1, p2, p3, hp, k1, k2, k3, k4, k5⟩ := hP9
              exact ⟨p0, p1, p2, p3, by rw [upd_ne npl9]; exact hp, k1, k2, k3, by omega, k5⟩
            · rw [upd_ne (ne_of_none e hlH)]
              exact but9 c o n e
        · rw [decide_eq_false seen]
          refine iteF ?_
          have npl9 : p ≠ l := hP7.ne hl7
          refine ⟨_, rfl, .inl ⟨rfl, _, SqL.of hl7⟩, _, rfl, l, _, _, rfl, rfl, hl7, by rw [List.length_map]; omega, ?_⟩
          refine ⟨_, _, _, zs ++ [x2], rfl, by rw [upd_same, List.map_append]; rfl, by rw [List.length_append, g2]; rfl, fun y hy => ?_, ?_, ?_, fun c o n e => ?_⟩
          · rcases List.mem_append.1 hy with h | h
            · exact g3 y h
            · rw [List.mem_singleton.1 h]
              exact w2
          · rw [List.nodup_append]
            refine ⟨g4, by simp, fun a ha b hb => ?_⟩
            rw [List.mem_singleton.1 hb]
            rintro rfl
            exact seen ha
          · obtain ⟨p0, p1, p2, p3, hp, k1, k2, k3, k4, k5⟩ := hP7
            exact ⟨p0, p1, p2, p3, by rw [upd_ne npl9]; exact hp, k1, k2, k3, by omega, k5⟩
          · rw [upd_ne (ne_of_none e hlH)]
            exact but7' c o n e
    · rintro σ H5 ⟨it, wh, lt, zs, rfl, g1, g2, g3, g4, g5, g6⟩
      exact ⟨_, rfl, q H5 l zs g6 (g5.le (by omega)) hlH g1 g2 g3 g4⟩
end
end K2

end
-- K2Y
section
set_option Elab.async false
set_option linter.all false
set_option maxRecDepth 100000
set_option maxHeartbeats 4100000
/-! ### the law's own: catalogues, worlds, places -/
namespace K2
open L2 PyProof.Rows PySem PySem.Spec TS
abbrev sCat : Stmt := top 30
abbrev sFree : Stmt := top 31
abbrev sPlaces : Stmt := top 32
theorem Cat.perm {xs ys : List Str} (h : Cat xs) (p : ys.Perm xs) : Cat ys := by
  obtain ⟨ne, few, words, nd⟩ := h
  refine ⟨fun e => ?_, by rw [p.length_eq]; exact few, fun y hy => words y (p.mem_iff.1 hy), p.nodup_iff.2 nd⟩
  rw [e] at p
  exact ne p.symm.eq_nil
theorem Row.perm {xs ys : List Str} (h : Cat xs) (p : ys.Perm xs) : Row xs ys := ⟨fun y hy => p.mem_iff.1 hy, p.nodup_iff.2 h.2.2.2, p.length_eq⟩
/-- a catalogue and a row of it, in a list -/
def WorldAt (H : Hp) (q : Addr) (xs ys : List Str) : Prop := ∃ c r, H q = some (.lst [.ref c, .ref r]) ∧ H c = some (.lst (xs.map V.str)) ∧ H r = some (.lst (ys.map V.str))
theorem WorldAt.mono {H H' : Hp} {q : Addr} {xs ys : List Str} (e : Same H H') : WorldAt H q xs ys → WorldAt H' q xs ys := fun ⟨c, r, h1, h2, h3⟩ => ⟨c, r, e _ _ h1, e _ _ h2, e _ _ h3⟩
section
variable {base : Heap} {mg : Str → Option Value} {K : PySem.W.Frag} {w : World} {P : Program}
theorem But.free {p : Addr} {H H' : Hp} (h : But p H H') {q : Addr} (hp : ∃ o, H p = some o) (hq : H' q = none) (hp' : ∃ o, H' p = some o) : H q = none := by
  cases e : H q with
  | none => rfl
  | some o =>
    have n : q ≠ p := by
      rintro rfl
      obtain ⟨o', e'⟩ := hp'
      rw [hq] at e'
      cases e'
    rw [h q o n e] at hq
    cases hq
theorem cr_sortedSK {X : Cx} {K : PySem.W.Frag} (hK : X.K = K) : CallR X (.builtin "sorted") (rSortedS K) := by
  subst hK
  exact cr_sortedS
theorem scCat : FnScope ["_law_purse_here", "_law_many", "_law_words_here"] ["_law_purse_here", "_law_many"] (defScope sCat) := ⟨rfl, rfl, rfl, by decide +kernel, rfl, by decide +kernel, by decide +kernel⟩
def spCat : Sp := fun vs H Q _ => ∃ (p : Addr) (b : Int) (n : Nat), vs = [.ref p, .int n] ∧ 1 ≤ n ∧ n ≤ 16 ∧ PurseAt H p b ∧ b ≤ 2 ^ 38 ∧
  ∀ (H' : Hp) (q : Addr) (zs : List Str), But p H H' → PurseAt H' p (b + 1200) → H q = none → H' q = some (.lst (zs.map V.str)) → zs.length = n → Cat zs → Q (.ref q) H'
theorem ok_cat {f g1 g2 g3 : Addr} {fd gd1 gd2 gd3 : FuncData} (F : Fun K "_law_catalogue" "_law_catalogue" sCat f fd) (so : mg "sorted" = none)
    (G1 : FnOk P w K mg base CX0 2 g1 gd1 ["_law_purse_here", "_law_many"] spDraw) (m1 : mg "_law_draw" = some (.ref g1)) (k1 : PySem.W.keepIn K (.ref g1) = true) (b1 : Binds K gd1 ["_law_purse_here", "_law_many"] [])
    (G2 : FnOk P w K mg base CX0 4 g2 gd2 ["_law_purse_here", "_law_many"] spWords) (m2 : mg "_law_words" = some (.ref g2)) (k2 : PySem.W.keepIn K (.ref g2) = true) (b2 : Binds K gd2 ["_law_purse_here", "_law_many"] [])
    (G3 : FnOk P w K mg base CX0 3 g3 gd3 ["_law_purse_here", "_law_some"] spShuf) (m3 : mg "_law_shuffled" = some (.ref g3)) (k3 : PySem.W.keepIn K (.ref g3) = true) (b3 : Binds K gd3 ["_law_purse_here", "_law_some"] []) :
    FnOk P w K mg base CX0 5 f fd ["_law_purse_here", "_law_many"] spCat := by
  refine F.ok scCat (fun vs H Q E h => ?_) (fun cdv A outer s H vs Q E hr h => ?_)
  · obtain ⟨p, b, n, rfl, _⟩ := h
    rfl
  · obtain ⟨p, b, n, rfl, h1n, hn, hP, hb, q⟩ := h
    refine ⟨_, pss_cons (ps_set (i := 2) scCat.nd rfl (Or.inl rfl) (pe_call G2 hr rfl m2 k2 b2 .nil pass0 (pa_cons (pv 0) (pa_cons (pv 1) pa_nil))))
      (pss_one (ps_ret (pe_ifExp (pt_cmpR op_eq (pe_call G1 (hr.mono (by decide)) rfl m1 k1 b1 .nil pass0 (pa_cons (pv 0) (pa_cons pe_int pa_nil))) pe_int (nomark _))
        (pe_callB (cr_sortedSK (K := K) rfl) (by rfl) so (by decide +kernel) (pa_cons (pv 2) pa_nil)) (pe_call G3 (hr.mono (by decide)) rfl m3 k3 b3 .nil pass0 (pa_cons (pv 0) (pa_cons (pv 2) pa_nil)))))), ?_⟩
    refine ⟨_, rfl, _, rfl, p, b, n, rfl, hn, hP, by omega, fun H1 l zs but1 hP1 nl hl len words nd => ?_⟩
    have cat : Cat zs := ⟨fun e => by rw [e] at len; simp at len; omega, by omega, words, nd⟩
    refine ⟨_, rfl, p, 2, b + 1000, rfl, by decide, by decide, hP1, by omega, fun H2 r hr' hP2 hc2 => ⟨rfl, _, rfl, ?_⟩⟩
    have but2 : But p H H2 := fun c o n e => (hc2 c n).trans (but1 c o n e)
    have hl2 : H2 l = some (.lst (zs.map V.str)) := (hc2 l (hP1.ne hl).symm).trans hl
    refine (ite2 (fun _ => ?_) (fun _ => ?_))
    · refine ⟨_, rfl, l, zs, rfl, SqL.of hl2, by omega, fun ys a pm _ na => ?_⟩
      exact q _ a ys (but2.trans (But.same (same_upd na))) ((hP2.le (by omega)).same (same_upd na)) (but2.free hP.at na hP2.at) upd_same (by rw [pm.length_eq, len]) (cat.perm pm)
    · refine ⟨_, rfl, _, rfl, p, l, b + 1001, zs, rfl, hP2.le (by omega), by omega, hl2, by omega, fun H3 a ys but3 hP3 na ha pm => ?_⟩
      exact q _ a ys (but2.trans but3) (hP3.le (by omega)) (but2.free hP.at na hP2.at) ha (by rw [pm.length_eq, len]) (cat.perm pm)
theorem scFree : FnScope ["_law_purse_here", "_law_many", "_law_catalogue_here"] ["_law_purse_here", "_law_many"] (defScope sFree) := ⟨rfl, rfl, rfl, by decide +kernel, rfl, by decide +kernel, by decide +kernel⟩
def spFree : Sp := fun vs H Q _ => ∃ (p : Addr) (b : Int) (n : Nat), vs = [.ref p, .int n] ∧ 1 ≤ n ∧ n ≤ 16 ∧ PurseAt H p b ∧ b ≤ 2 ^ 37 ∧
  ∀ (H' : Hp) (q : Addr) (xs ys : List Str), But p H H' → PurseAt H' p (b + 1400) → H q = none → WorldAt H' q xs ys → xs.length = n → Cat xs → Row xs ys → Q (.ref q) H'
theorem ok_free {f g2 g3 : Addr} {fd gd2 gd3 : FuncData} (F : Fun K "_law_free" "_law_free" sFree f fd)
    (G2 : FnOk P w K mg base CX0 5 g2 gd2 ["_law_purse_here", "_law_many"] spCat) (m2 : mg "_law_catalogue" = some (.ref g2)) (k2 : PySem.W.keepIn K (.ref g2) = true) (b2 : Binds K gd2 ["_law_purse_here", "_law_many"] [])
    (G3 : FnOk P w K mg base CX0 3 g3 gd3 ["_law_purse_here", "_law_some"] spShuf) (m3 : mg "_law_shuffled" = some (.ref g3)) (k3 : PySem.W.keepIn K (.ref g3) = true) (b3 : Binds K gd3 ["_law_purse_here", "_law_some"] []) :
    FnOk P w K mg base CX0 6 f fd ["_law_purse_here", "_law_many"] spFree := by
  refine F.ok scFree (fun vs H Q E h => ?_) (fun cdv A outer s H vs Q E hr h => ?_)
  · obtain ⟨p, b, n, rfl, _⟩ := h
    rfl
  · obtain ⟨p, b, n, rfl, h1n, hn, hP, hb, q⟩ := h
    refine ⟨_, pss_cons (ps_set (i := 2) scFree.nd rfl (Or.inl rfl) (pe_call G2 hr rfl m2 k2 b2 .nil pass0 (pa_cons (pv 0) (pa_cons (pv 1) pa_nil))))
      (pss_one (ps_ret (pe_lst (pa_cons (pv 2) (pa_cons (pe_call G3 (hr.mono (by decide)) rfl m3 k3 b3 .nil pass0 (pa_cons (pv 0) (pa_cons (pv 2) pa_nil))) pa_nil))))), ?_⟩
    refine ⟨_, rfl, _, rfl, p, b, n, rfl, h1n, hn, hP, by omega, fun H1 l zs but1 hP1 nl hl len cat => ?_⟩
    refine ⟨_, rfl, _, rfl, _, rfl, p, l, b + 1200, zs, rfl, hP1, by omega, hl, by omega, fun H2 a ys but2 hP2 na ha pm => ⟨(show 2 ≤ sizeLine by decide +kernel), fun v nv => ?_⟩⟩
    have s3 := same_upd (o := .lst [V.ref l, V.ref a]) nv
    have but12 := but1.trans but2
    refine q _ v zs ys (but12.trans (But.same s3)) ((hP2.le (by omega)).same s3) (but12.free hP.at nv hP2.at) ⟨l, a, upd_same, s3 _ _ (but2 l _ (hP1.ne hl).symm hl), s3 _ _ ha⟩ len cat (Row.perm cat pm)
end
end K2

end
-- K2P
section
set_option Elab.async false
set_option linter.all false
set_option maxRecDepth 100000
set_option maxHeartbeats 4100000
/-! ### the law's own: places -/
namespace K2
open L2 PyProof.Rows PySem PySem.Spec TS
section
variable {base : Heap} {mg : Str → Option Value} {K : PySem.W.Frag} {w : World} {P : Program}
theorem ix_listK {X : Cx} {K : PySem.W.Frag} (hK : X.K = K) : IxR X (rIxL K) := by
  subst hK
  exact ix_list
theorem call_lenK {X : Cx} {K : PySem.W.Frag} (hK : X.K = K) : CallR X (.builtin "len") (fun xs H Q => ∃ p ys, xs = [.ref p] ∧ (SqL K H p ys ∨ SqT K H p ys) ∧ Q (.int ys.length) H) := by
  subst hK
  exact call_len_seq
theorem scPlaces : FnScope ["_law_books", "_law_row", "_law_at", "_law_book"] ["_law_books", "_law_row"] (defScope sPlaces) := ⟨rfl, rfl, rfl, by decide +kernel, rfl, by decide +kernel, by decide +kernel⟩
def spPlaces : Sp := fun vs H Q _ => ∃ (l m : Addr) (xs ys : List Str), vs = [.ref l, .ref m] ∧ H l = some (.lst (xs.map V.str)) ∧ H m = some (.lst (ys.map V.str)) ∧ xs.length ≤ 100 ∧ ys.length ≤ 100 ∧ (∀ y ∈ ys, y ∈ xs) ∧ xs.Nodup ∧
  ∀ H' p, Same H H' → H p = none → H' p = some (.lst ((rnk xs ys).map V.int)) → Q (.ref p) H'
theorem ok_places {f : Addr} {fd : FuncData} (F : Fun K "_law_places" "_law_places" sPlaces f fd) (M : Mx mg) (B : Bl mg) : FnOk P w K mg base CX0 1 f fd ["_law_books", "_law_row"] spPlaces := by
  refine F.ok scPlaces (fun vs H Q E h => ?_) (fun cdv A outer s H vs Q E hr h => ?_)
  · obtain ⟨l, m, xs, ys, rfl, _⟩ := h
    rfl
  · obtain ⟨l, m, xs, ys, rfl, hl, hm, few, few2, sub, nd, q⟩ := h
    refine ⟨_, pss_one (ps_ret (pe_lc (own := [("_law_book", 3)]) (g := gName 3) (tt := tYes) rfl scPlaces.nd (pi_list (pv 1)) (blkOk_by (N := ["_law_books", "_law_row", "_law_at", "_law_book"]) (sc := defScope sPlaces) (by decide +kernel))
        (fun _ _ _ _ _ => pg_name (i := 3) scPlaces.nd rfl (Or.inr rfl)) (fun _ _ _ _ _ => pts_nil)
        (fun _ _ _ _ _ => pe_ix (ix_listK (K := K) rfl) (pe_lc (own := [("_law_at", 2)]) (g := gName 2) rfl scPlaces.nd (pi_range1 rfl B.range (pa_cons (pe_callB (call_lenK (K := K) rfl) (by rfl) M.len PySem.boot_len (pa_cons (pv 0) pa_nil)) pa_nil))
            (blkOk_by (N := ["_law_books", "_law_row", "_law_at", "_law_book"]) (sc := { kind := .function, names := [(".0", .local), ("_law_book", .cell), ("range", .globalImplicit), ("len", .globalImplicit), ("_law_books", .cell)], isGenerator := false, isCoroutine := false }) (by decide +kernel))
            (fun _ _ _ _ _ => pg_name (i := 2) scPlaces.nd rfl (Or.inl rfl)) (fun _ _ _ _ _ => pts_one (pt_cmpR op_eq (pe_ix (ix_listK (K := K) rfl) (pv 0) (pv 2) (fun _ _ => rfl)) (pv 3) (nomark _))) (fun _ _ _ _ _ => pv 2)) pe_int (fun _ _ => rfl)))), ?_⟩
    refine ⟨_, rfl, m, rfl, ⟨_, SqL.of hm⟩, fun D hD => ?_⟩
    refine lc_list (K := K) (a := m) (xs := ys.map V.str) (fun i H' => H' D = some (.lst ((rnk xs (ys.take i)).map V.int)) ∧ Same H H') ⟨upd_same, same_upd hD⟩ (fun i H' _ ⟨_, h2⟩ => SqL.of (h2 _ _ hm)) ?_ ?_
    · rintro i x H1 hx ⟨h1, h2⟩
      rw [List.getElem?_map] at hx
      obtain ⟨z, hz, rfl⟩ := Option.map_eq_some_iff.1 hx
      have lt := (List.getElem?_eq_some_iff.1 hz).1
      obtain ⟨e1, e2⟩ := idx_at (sub z (List.mem_of_getElem? hz))
      have lti := (List.getElem?_eq_some_iff.1 e1).1
      refine ⟨rfl, ?_⟩
      refine ⟨_, rfl, l, _, rfl, .inl (SqL.of (h2 _ _ hl)), _, rfl, by rw [List.length_map]; omega, by rw [List.length_map]; omega, fun D2 hD2 => ?_⟩
      refine lc_range (n := (xs.map V.str).length) (fun j H' => H' D2 = some (.lst (if xs.idxOf z < j then [V.int ((xs.idxOf z : Nat) : Int)] else [])) ∧ Same H1 H') ⟨upd_same, same_upd hD2⟩ ?_ ?_
      · rintro j H2 hj ⟨g1, g2⟩
        rw [List.length_map] at hj
        have hj' : xs[j]? = some xs[j] := List.getElem?_eq_getElem hj
        refine ⟨rfl, ?_⟩
        refine ⟨_, rfl, _, rfl, l, xs.map V.str, _, .str xs[j], rfl, rfl, SqL.of (g2 _ _ (h2 _ _ hl)), by rw [Int.zero_add]; exact atI_nat (by rw [List.getElem?_map, hj']; rfl), _, rfl, rfl, _, rfl, ?_⟩
        by_cases e : xs.idxOf z = j
        · have ez : xs[j] = z := by
            rw [e, hj'] at e1
            exact Option.some.inj e1
          rw [ez, decide_eq_true rfl]
          refine iteT ⟨_, rfl, _, g1, by rw [if_neg (by omega)]; exact small1000 (Nat.zero_le _), ?_, fun o ob eb => ?_⟩
          · rw [upd_same, if_neg (by omega), if_pos (by omega), Int.zero_add, e]
            rfl
          · rw [upd_ne (ne_of_none eb hD2)]
            exact g2 _ _ eb
        · have ez : V.str xs[j] ≠ V.str z := fun q => by
            injection q with q
            exact e ((List.getElem?_inj lti nd).1 (by rw [e1, hj', q]))
          rw [decide_eq_false ez]
          refine iteF ⟨?_, g2⟩
          rw [g1]
          by_cases q : xs.idxOf z < j
          · rw [if_pos q, if_pos (by omega)]
          · rw [if_neg q, if_neg (by omega)]
      · rintro H2 ⟨g1, g2⟩
        rw [List.length_map, if_pos lti] at g1
        refine ⟨D2, _, 0, _, rfl, rfl, SqL.of g1, (show atI [V.int ((xs.idxOf z : Nat) : Int)] ((0 : Nat) : Int) = _ from atI_nat rfl), ?_⟩
        refine ⟨_, g2 _ _ h1, by rw [List.length_map, rnk, List.length_map, List.length_take]; exact small1000 (by omega), ?_, fun o ob eb => ?_⟩
        · rw [upd_same, List.take_succ, hz]
          simp [rnk]
        · rw [upd_ne (ne_of_none eb hD)]
          exact g2 _ _ (h2 _ _ eb)
    · rintro H1 ⟨h1, h2⟩
      rw [List.length_map, List.take_length] at h1
      exact q H1 D h2 hD h1
end
end K2

end
-- K2R
section
set_option Elab.async false
set_option linter.all false
set_option maxRecDepth 100000
set_option maxHeartbeats 4100000
/-! ### the law's own: shelf_right -/
namespace K2
open L2 PyProof.Rows PySem PySem.Spec TS
abbrev sShR : Stmt := top 33
abbrev sSpoil : Stmt := top 34
theorem Eqd.up {H : Hp} : ∀ {n : Nat} {x y : V}, Eqd H n x y → Eqd H (n + 1) x y
  | 0, _, _, h => .inl h
  | n + 1, _, _, .inl h => .inl h
  | n + 1, _, _, .inr ⟨a, b, xs, ys, h1, h2, h3, h4, h5, h6, h7⟩ => .inr ⟨a, b, xs, ys, h1, h2, h3, h4, h5, h6, fun i u v hu hv => (h7 i u v hu hv).up⟩
theorem Eqd.list {H : Hp} {n : Nat} {a b : Addr} {us vs : List V} (ha : H a = some (.lst us)) (hb : H b = some (.lst vs)) (len : us.length = vs.length) (few : us.length ≤ 100) (each : ∀ (i : Nat) (u v : V), us[i]? = some u → vs[i]? = some v → Eqd H n u v) : Eqd H (n + 1) (.ref a) (.ref b) :=
  .inr ⟨a, b, us, vs, rfl, rfl, ha, hb, len, few, each⟩
theorem Eqd.scal {H : Hp} : ∀ {n : Nat} {x : V}, ((∃ z, x = .str z) ∨ (∃ i, x = .int i) ∨ ∃ b, x = .bl b) → Eqd H n x x
  | 0, _, h => ⟨rfl, h⟩
  | _ + 1, _, h => .inl ⟨rfl, h⟩
theorem Eqd.strs {H : Hp} {n : Nat} {a b : Addr} {xs : List Str} (ha : H a = some (.lst (xs.map V.str))) (hb : H b = some (.lst (xs.map V.str))) (few : xs.length ≤ 100) : Eqd H (n + 1) (.ref a) (.ref b) := by
  refine .list ha hb rfl (by rw [List.length_map]; exact few) fun i u v hu hv => ?_
  rw [hu] at hv
  obtain rfl := Option.some.inj hv
  rw [List.getElem?_map] at hu
  obtain ⟨z, _, rfl⟩ := Option.map_eq_some_iff.1 hu
  exact .scal (.inl ⟨z, rfl⟩)
theorem Eqd.ints {H : Hp} {n : Nat} {a b : Addr} {xs : List Int} (ha : H a = some (.lst (xs.map V.int))) (hb : H b = some (.lst (xs.map V.int))) (few : xs.length ≤ 100) : Eqd H (n + 1) (.ref a) (.ref b) := by
  refine .list ha hb rfl (by rw [List.length_map]; exact few) fun i u v hu hv => ?_
  rw [hu] at hv
  obtain rfl := Option.some.inj hv
  rw [List.getElem?_map] at hu
  obtain ⟨z, _, rfl⟩ := Option.map_eq_some_iff.1 hu
  exact .scal (.inr (.inl ⟨z, rfl⟩))
/-- three by three -/
theorem Eqd.three {H : Hp} {n : Nat} {a b a1 a2 a3 b1 b2 b3 : Addr} (ha : H a = some (.lst [.ref a1, .ref a2, .ref a3])) (hb : H b = some (.lst [.ref b1, .ref b2, .ref b3])) (h1 : Eqd H n (.ref a1) (.ref b1)) (h2 : Eqd H n (.ref a2) (.ref b2)) (h3 : Eqd H n (.ref a3) (.ref b3)) : Eqd H (n + 1) (.ref a) (.ref b) := by
  refine .list ha hb rfl (show 3 ≤ 100 by decide) fun i u v hu hv => ?_
  match i, hu, hv with
  | 0, hu, hv => cases hu; cases hv; exact h1
  | 1, hu, hv => cases hu; cases hv; exact h2
  | 2, hu, hv => cases hu; cases hv; exact h3
  | i + 3, hu, hv => simp at hu
section
variable {base : Heap} {mg : Str → Option Value} {K : PySem.W.Frag} {w : World} {P : Program} {C fi fq fc fr : Addr}
/-- the defs of the package, as they are called -/
structure Pk (P : Program) (w : World) (K : PySem.W.Frag) (mg : Str → Option Value) (base : Heap) (C fi fq fc fr : Addr) : Prop where
  T : ShC K C fi fq fc fr
  gS : mg "Shelf" = some (.ref C)
  init : ∃ fd, FnOk P w K mg base CX0 3 fi fd ["self", "catalogue", "row"] (spInit C) ∧ Binds K fd ["self", "catalogue", "row"] []
  eqs : ∃ fd, FnOk P w K mg base CX0 1 fq fd ["self", "other"] (OE.spB (EqR K C)) ∧ Binds K fd ["self", "other"] []
  cats : ∃ fd, FnOk P w K mg base CX0 1 fc fd ["self"] (spNew C fun xs _ => xs) ∧ Binds K fd ["self"] []
  row : ∃ fd, FnOk P w K mg base CX0 1 fr fd ["self"] (spNew C fun _ ys => ys) ∧ Binds K fd ["self"] []
  ranks : ∃ f fd, FnOk P w K mg base CX0 2 f fd ["shelf"] (spRanks C) ∧ mg "ranks" = some (.ref f) ∧ PySem.W.keepIn K (.ref f) = true ∧ Binds K fd ["shelf"] []
  place : ∃ f fd, FnOk P w K mg base CX0 3 f fd ["shelf", "book"] (spWhere C fun _ ys => ys) ∧ mg "place_of" = some (.ref f) ∧ PySem.W.keepIn K (.ref f) = true ∧ Binds K fd ["shelf", "book"] []
  entry : ∃ f fd, FnOk P w K mg base CX0 3 f fd ["shelf", "book"] (spWhere C fun xs _ => xs) ∧ mg "entry_of" = some (.ref f) ∧ PySem.W.keepIn K (.ref f) = true ∧ Binds K fd ["shelf", "book"] []
/-- pairs of a place and an entry, one list each -/
def PairsAt (H : Hp) (ys xs : List Str) (ts : List Addr) : Prop := ∀ (j : Nat) (t : Addr) (x : Str), ts[j]? = some t → xs[j]? = some x → H t = some (.lst [.int ((ys.idxOf x : Nat) : Int), .int ((j : Nat) : Int)])
theorem PairsAt.mono {H H' : Hp} {ys xs : List Str} {ts : List Addr} (e : Same H H') (h : PairsAt H ys xs ts) : PairsAt H' ys xs ts := fun j t x h1 h2 => e _ _ (h j t x h1 h2)
theorem PairsAt.more {H : Hp} {ys xs : List Str} {ts : List Addr} {t : Addr} {z : Str} (h : PairsAt H ys xs ts) (hz : xs[ts.length]? = some z) (ht : H t = some (.lst [.int ((ys.idxOf z : Nat) : Int), .int ((ts.length : Nat) : Int)])) : PairsAt H ys xs (ts ++ [t]) := by
  intro j u x h1 h2
  by_cases lt : j < ts.length
  · rw [List.getElem?_append_left lt] at h1
    exact h j u x h1 h2
  · rw [List.getElem?_append_right (by omega)] at h1
    have e : j = ts.length := by
      have := (List.getElem?_eq_some_iff.1 h1).1
      rw [List.length_singleton] at this
      omega
    subst e
    rw [Nat.sub_self] at h1
    obtain rfl := Option.some.inj h1
    rw [hz] at h2
    obtain rfl := Option.some.inj h2
    exact ht
theorem PairsAt.eqd {H : Hp} {ys xs : List Str} {ts us : List Addr} {a b : Addr} (ha : H a = some (.lst (ts.map V.ref))) (hb : H b = some (.lst (us.map V.ref))) (h1 : PairsAt H ys xs ts) (h2 : PairsAt H ys xs us) (l1 : ts.length = xs.length) (l2 : us.length = xs.length) (few : xs.length ≤ 100) : Eqd H 2 (.ref a) (.ref b) := by
  refine .list ha hb (by simp [l1, l2]) (by simp [l1, few]) fun i u v hu hv => ?_
  rw [List.getElem?_map] at hu hv
  obtain ⟨t, ht, rfl⟩ := Option.map_eq_some_iff.1 hu
  obtain ⟨t', ht', rfl⟩ := Option.map_eq_some_iff.1 hv
  have lt := (List.getElem?_eq_some_iff.1 ht).1
  have hx : xs[i]? = some xs[i] := List.getElem?_eq_getElem (by omega)
  refine .list (h1 i t _ ht hx) (h2 i t' _ ht' hx) rfl (show 2 ≤ 100 by decide) fun k u v hu hv => ?_
  rw [hu] at hv
  obtain rfl := Option.some.inj hv
  match k, hu with
  | 0, hu => cases hu; exact .scal (.inr (.inl ⟨_, rfl⟩))
  | 1, hu => cases hu; exact .scal (.inr (.inl ⟨_, rfl⟩))
  | k + 2, hu => simp at hu
theorem idx_eq {xs : List Str} {i : Nat} {z : Str} (nd : xs.Nodup) (h : xs[i]? = some z) : xs.idxOf z = i := by
  have e := (idx_at (List.mem_of_getElem? h)).1
  exact (List.getElem?_inj (List.getElem?_eq_some_iff.1 e).1 nd).1 (by rw [e, h])
abbrev nShR : List Str := ["_law_made", "_law_world", "_law_books", "_law_row", "_law_told", "_law_book", "_law_at"]
theorem scShR : FnScope nShR ["_law_made", "_law_world"] (defScope sShR) := ⟨rfl, rfl, rfl, by decide +kernel, rfl, by decide +kernel, by decide +kernel⟩
def spShR (C : Addr) : Sp := fun vs H Q _ => ∃ (a w : Addr) (xs ys : List Str), vs = [.ref a, .ref w] ∧ ShAt H C a xs ys ∧ WorldAt H w xs ys ∧ Cat xs ∧ Row xs ys ∧ ∀ H', Same H H' → Q (.bl true) H'
theorem ok_shR {f g1 g2 : Addr} {fd gd1 gd2 : FuncData} (F : Fun K "_law_shelf_right" "_law_shelf_right" sShR f fd) (M : Mx mg) (en : mg "enumerate" = none) (D : Pk P w K mg base C fi fq fc fr)
    (G1 : FnOk P w K mg base CX0 3 g1 gd1 ["_law_mine", "_law_theirs"] (spExact 2)) (m1 : mg "_law_exact" = some (.ref g1)) (k1 : PySem.W.keepIn K (.ref g1) = true) (b1 : Binds K gd1 ["_law_mine", "_law_theirs"] [])
    (G2 : FnOk P w K mg base CX0 1 g2 gd2 ["_law_books", "_law_row"] spPlaces) (m2 : mg "_law_places" = some (.ref g2)) (k2 : PySem.W.keepIn K (.ref g2) = true) (b2 : Binds K gd2 ["_law_books", "_law_row"] []) :
    FnOk P w K mg base CX0 4 f fd ["_law_made", "_law_world"] (spShR C) := by
  obtain ⟨fdc, Gc, bc⟩ := D.cats
  obtain ⟨fdr, Gr, br⟩ := D.row
  obtain ⟨fk, fdk, Gk, mk_, kk, bk⟩ := D.ranks
  obtain ⟨fp, fdp, Gp, mp, kp, bp⟩ := D.place
  obtain ⟨fe, fde, Ge, me, ke, be⟩ := D.entry
  have T := D.T
  refine F.ok scShR (fun vs H Q E h => ?_) (fun cdv A outer s H vs Q E hr h => ?_)
  · obtain ⟨a, w, xs, ys, rfl, _⟩ := h
    rfl
  · obtain ⟨a, w, xs, ys, rfl, sh, wd, cat, row, q⟩ := h
    have hr1 := hr.mono (show 1 ≤ 3 by decide)
    have hr2 := hr.mono (show 2 ≤ 3 by decide)
    refine ⟨_, pss_cons (ps_asg (pv 1) (pg_unl rfl (pgs_cons (pg_name (i := 2) scShR.nd rfl (Or.inl rfl)) (pgs_cons (pg_name (i := 3) scShR.nd rfl (Or.inr rfl)) pgs_nil))))
      (pss_cons (ps_if (pt_not (pt_val (pe_call G1 hr rfl m1 k1 b1 .nil pass0 (pa_cons (pe_lst (pa_cons (pe_meth0 (pv 0) T.cl T.mc Gc hr1 bc .nil pass0) (pa_cons (pe_meth0 (pv 0) T.cl T.mr Gr hr1 br .nil pass0) (pa_cons (pe_call Gk hr2 rfl mk_ kk bk .nil pass0 (pa_cons (pv 0) pa_nil)) pa_nil))))
          (pa_cons (pe_lst (pa_cons (pv 2) (pa_cons (pv 3) (pa_cons (pe_call G2 hr1 rfl m2 k2 b2 .nil pass0 (pa_cons (pv 2) (pa_cons (pv 3) pa_nil))) pa_nil)))) pa_nil))))) pss_never pss_nil)
      (pss_cons (ps_setLc (i := 4) (own := [("_law_book", 5)]) (g := gName 5) (tt := tYes) rfl scShR.nd rfl rfl (sw_true rfl rfl rfl (by decide +kernel)) (pi_list (pv 2)) (blkOk_by (N := nShR) (sc := defScope sShR) (by decide +kernel))
          (fun _ _ _ _ _ => pg_name (i := 5) scShR.nd rfl (Or.inl rfl)) (fun _ _ _ _ _ => pts_nil)
          (fun _ _ _ _ _ => pe_lst (pa_cons (pe_call Gp hr rfl mp kp bp .nil pass0 (pa_cons (pv 0) (pa_cons (pv 5) pa_nil))) (pa_cons (pe_call Ge hr rfl me ke be .nil pass0 (pa_cons (pv 0) (pa_cons (pv 5) pa_nil))) pa_nil))))
      (pss_one (ps_ret (pe_call G1 hr rfl m1 k1 b1 .nil pass0 (pa_cons (pv 4) (pa_cons (pe_lc (own := [("_law_at", 6), ("_law_book", 5)]) (g := gTup K 2 (gCons (gName 6) (gCons (gName 5) gNil))) (tt := tYes) rfl scShR.nd (pi_enum rfl en (pa_cons (pv 2) pa_nil)) (blkOk_by (N := nShR) (sc := defScope sShR) (by decide +kernel))
          (fun _ _ _ _ _ => pg_tup rfl (pgs_cons (pg_name (i := 6) scShR.nd rfl (Or.inl rfl)) (pgs_cons (pg_name (i := 5) scShR.nd rfl (Or.inl rfl)) pgs_nil))) (fun _ _ _ _ _ => pts_nil)
          (fun _ _ _ _ _ => pe_lst (pa_cons (pe_ix (ix_listK (K := K) rfl) (pe_call G2 hr1 rfl m2 k2 b2 .nil pass0 (pa_cons (pv 3) (pa_cons (pe_lst (pa_cons (pv 5) pa_nil)) pa_nil))) pe_int (fun _ _ => rfl)) (pa_cons (pv 6) pa_nil)))) pa_nil))))))), ?_⟩
    have line3 : (3 : Nat) ≤ sizeLine := by decide +kernel
    have line2 : (2 : Nat) ≤ sizeLine := by decide +kernel
    have few := cat.2.1
    obtain ⟨cw, rw_, hw, hcw, hrw⟩ := id wd
    obtain ⟨dx, c, r, ha, hc, hr'⟩ := id sh
    refine ⟨_, rfl, w, _, rfl, SqL.of hw, rfl, _, _, rfl, _, _, rfl, rfl, ?_⟩
    -- what it tells
    refine ⟨_, rfl, a, dx, _, rfl, ha, rfl, a, xs, ys, rfl, sh, fun p1 n1 => ?_⟩
    have s1 := same_upd (o := .lst (xs.map V.str)) n1
    have h1 : (upd H p1 (.lst (xs.map V.str))) p1 = some (.lst (xs.map V.str)) := upd_same
    refine ⟨_, rfl, a, dx, _, rfl, s1 _ _ ha, rfl, a, xs, ys, rfl, sh.mono s1, fun p2 n2 => ?_⟩
    have s2 := same_upd (o := .lst (ys.map V.str)) n2
    have h2 : (upd (upd H p1 (.lst (xs.map V.str))) p2 (.lst (ys.map V.str))) p2 = some (.lst (ys.map V.str)) := upd_same
    have h1 := s2 _ _ h1
    have s02 := s1.trans s2
    dsimp only
    generalize upd (upd H p1 (.lst (xs.map V.str))) p2 (.lst (ys.map V.str)) = H2 at s2 h2 h1 s02 ⊢
    refine ⟨_, rfl, a, xs, ys, rfl, sh.mono s02, cat, row, fun H3 p3 s3 n3 h3 => ⟨line3, fun l1 nl1 => ?_⟩⟩
    have s03 := s02.trans s3
    have s4 := same_upd (o := .lst [V.ref p1, V.ref p2, V.ref p3]) nl1
    have hl1 : (upd H3 l1 (.lst [V.ref p1, V.ref p2, V.ref p3])) l1 = some (.lst [V.ref p1, V.ref p2, V.ref p3]) := upd_same
    have h1 := s4 _ _ (s3 _ _ h1)
    have h2 := s4 _ _ (s3 _ _ h2)
    have h3 := s4 _ _ h3
    have s04 := s03.trans s4
    generalize upd H3 l1 (.lst [V.ref p1, V.ref p2, V.ref p3]) = H4 at s4 hl1 h1 h2 h3 s04 ⊢
    -- what the world tells
    refine ⟨_, rfl, _, rfl, _, rfl, _, rfl, cw, rw_, xs, ys, rfl, s04 _ _ hcw, s04 _ _ hrw, few, by rw [row.2.2]; exact few, row.1, cat.2.2.2, fun H5 p4 s5 n4 h4 => ⟨line3, fun l2 nl2 => ?_⟩⟩
    have s6 := same_upd (o := .lst [V.ref cw, V.ref rw_, V.ref p4]) nl2
    have s46 := s5.trans s6
    have s06 := s04.trans s46
    have hl2 : (upd H5 l2 (.lst [V.ref cw, V.ref rw_, V.ref p4])) l2 = some (.lst [V.ref cw, V.ref rw_, V.ref p4]) := upd_same
    have h4 := s6 _ _ h4
    generalize upd H5 l2 (.lst [V.ref cw, V.ref rw_, V.ref p4]) = H6 at s6 hl2 h4 s46 s06 ⊢
    refine ⟨_, _, rfl, Eqd.three (s46 _ _ hl1) hl2 (.strs (s46 _ _ h1) (s06 _ _ hcw) few) (.strs (s46 _ _ h2) (s06 _ _ hrw) (by rw [row.2.2]; exact few)) (.ints (s46 _ _ h3) h4 (by rw [rnk, List.length_map, row.2.2]; exact few)), fun H7 s7 => ⟨true, rfl, iteF ?_⟩⟩
    have s07 := s06.trans s7
    have hcw7 := s07 _ _ hcw
    have hrw7 := s07 _ _ hrw
    have sh7 := sh.mono s07
    have back := (row.flip cat).2.1
    refine ⟨_, rfl, cw, rfl, ⟨_, SqL.of hcw7⟩, fun D nD => ?_⟩
    refine lc_list (K := K) (a := cw) (xs := xs.map V.str) (fun i H' => ∃ ts : List Addr, H' D = some (.lst (ts.map V.ref)) ∧ ts.length = i ∧ PairsAt H' ys xs ts ∧ Same H7 H') ⟨[], upd_same, rfl, (fun j t x h _ => by simp at h), same_upd nD⟩
      (fun i H' _ ⟨_, _, _, _, h⟩ => SqL.of (h _ _ hcw7)) ?_ ?_
    · rintro i x H8 hx ⟨ts, g1, g2, g3, g4⟩
      rw [List.getElem?_map] at hx
      obtain ⟨z, hz, rfl⟩ := Option.map_eq_some_iff.1 hx
      have zx := List.mem_of_getElem? hz
      have lt := (List.getElem?_eq_some_iff.1 hz).1
      refine ⟨rfl, ?_⟩
      refine ⟨_, rfl, _, rfl, a, xs, ys, z, rfl, sh7.mono g4, zx, back z zx, fun H9 s9 => ?_⟩
      refine ⟨_, rfl, _, rfl, a, xs, ys, z, rfl, sh7.mono (g4.trans s9), zx, zx, fun H10 s10 => ⟨line2, fun t nt => ?_⟩⟩
      rw [idx_eq cat.2.2.2 hz]
      have s11 := same_upd (o := .lst [V.int ((ys.idxOf z : Nat) : Int), V.int ((i : Nat) : Int)]) nt
      have s12 := (s9.trans s10).trans s11
      have nDt : D ≠ t := ne_of_none (s10 _ _ (s9 _ _ g1)) nt
      refine ⟨_, s12 _ _ g1, by rw [List.length_map, g2]; exact small1000 (by omega), ts ++ [t], by rw [upd_same, List.map_append]; rfl, by rw [List.length_append, g2]; rfl, ?_, fun o ob eb => ?_⟩
      · refine PairsAt.more (fun j u x h1 h2 => ?_) (by rw [g2]; exact hz) (by rw [upd_ne nDt.symm, upd_same, g2])
        have e := s12 _ _ (g3 j u x h1 h2)
        rw [upd_ne]
        · exact e
        · rintro rfl
          rw [s12 _ _ g1] at e
          match ts, e with
          | [], q => cases q
          | b :: r, q => simp at q
      · rw [upd_ne (ne_of_none eb nD)]
        exact s12 _ _ (g4 _ _ eb)
    rintro H8 ⟨ts, g1, g2, g3, g4⟩
    rw [List.length_map] at g2
    refine ⟨_, rfl, _, rfl, cw, _, rfl, SqL.of (g4 _ _ hcw7), fun D2 nD2 => ?_⟩
    refine lc_it (walk_enum (K := K) (a := cw) (xs := xs.map V.str)) (fun i H' => ∃ us : List Addr, H' D2 = some (.lst (us.map V.ref)) ∧ us.length = i ∧ PairsAt H' ys xs us ∧ Same H8 H') ⟨[], upd_same, rfl, (fun j t x h _ => by simp at h), same_upd nD2⟩
      (fun i H' _ ⟨_, _, _, _, h⟩ => SqL.of (h _ _ (g4 _ _ hcw7))) ?_ ?_
    · rintro i x H9 H10 hi ⟨us, f1, f2, f3, f4⟩ ⟨t, u, v, rfl, nt, rfl, eu, ev⟩
      rw [List.length_map] at hi
      have hi' : xs[i]? = some xs[i] := List.getElem?_eq_getElem hi
      change some (V.int ((i : Nat) : Int)) = some u at eu
      change (xs.map V.str)[i]? = some v at ev
      rw [List.getElem?_map, hi'] at ev
      obtain rfl := Option.some.inj ev
      obtain rfl := Option.some.inj eu
      have zx := List.mem_of_getElem? hi'
      have s10 := same_upd (o := .tup [V.int ((i : Nat) : Int), V.str xs[i]]) nt
      refine ⟨t, _, rfl, .inl (.inl upd_same), rfl, _, _, rfl, _, _, rfl, rfl, rfl, ?_⟩
      refine ⟨_, rfl, _, rfl, (show 1 ≤ sizeLine by decide +kernel), fun l nl => ?_⟩
      have s11 := s10.trans (same_upd (o := .lst [V.str xs[i]]) nl)
      have hl : (upd (upd H9 t (.tup [V.int ((i : Nat) : Int), V.str xs[i]])) l (.lst [V.str xs[i]])) l = some (.lst ([xs[i]].map V.str)) := upd_same
      refine ⟨rw_, l, ys, [xs[i]], rfl, s11 _ _ (f4 _ _ (g4 _ _ hrw7)), hl, by rw [row.2.2]; exact few, (show 1 ≤ 100 by decide), (fun y hy => by rw [List.mem_singleton.1 hy]; exact back _ zx), row.2.1, fun H12 p s12 np hp => ?_⟩
      refine ⟨p, _, 0, _, rfl, rfl, SqL.of hp, (show atI [V.int ((ys.idxOf xs[i] : Nat) : Int)] ((0 : Nat) : Int) = _ from atI_nat rfl), _, rfl, line2, fun o no => ?_⟩
      have s13 := (s11.trans s12).trans (same_upd (o := .lst [V.int ((ys.idxOf xs[i] : Nat) : Int), V.int ((i : Nat) : Int)]) no)
      have nDo : D2 ≠ o := ne_of_none (s12 _ _ (s11 _ _ f1)) no
      refine ⟨_, s13 _ _ f1, by rw [List.length_map, f2]; exact small1000 (by omega), us ++ [o], by rw [upd_same, List.map_append]; rfl, by rw [List.length_append, f2]; rfl, ?_, fun o' ob eb => ?_⟩
      · refine PairsAt.more (fun j u x h1 h2 => ?_) (by rw [f2]; exact hi') (by rw [upd_ne nDo.symm, upd_same, f2])
        have e := s13 _ _ (f3 j u x h1 h2)
        rw [upd_ne]
        · exact e
        · rintro rfl
          rw [s13 _ _ f1] at e
          match us, e with
          | [], q => cases q
          | b :: r, q => simp at q
      · rw [upd_ne (ne_of_none eb nD2)]
        exact s13 _ _ (f4 _ _ eb)
    rintro H9 ⟨us, f1, f2, f3, f4⟩
    rw [List.length_map] at f2
    exact ⟨_, _, rfl, PairsAt.eqd (f4 _ _ g1) f1 (g3.mono f4) f3 g2 f2 few, fun H10 s10 => q _ (((s07.trans g4).trans f4).trans s10)⟩
end
end K2

end
-- K2Q
section
set_option Elab.async false
set_option linter.all false
set_option maxRecDepth 100000
set_option maxHeartbeats 4100000
/-! ### the law's own: spoil, lent_right, swapped -/
namespace K2
open L2 PyProof.Rows PySem PySem.Spec TS
abbrev sLent : Stmt := top 35
abbrev sSwap : Stmt := top 36
section
variable {base : Heap} {mg : Str → Option Value} {K : PySem.W.Frag} {w : World} {P : Program} {C fi fq fc fr : Addr}
theorem scSpoil : FnScope ["_law_made", "_law_told"] ["_law_made"] (defScope sSpoil) := ⟨rfl, rfl, rfl, by decide +kernel, rfl, by decide +kernel, by decide +kernel⟩
def spSpoil (C : Addr) : Sp := fun vs H Q _ => ∃ (a : Addr) (xs ys : List Str), vs = [.ref a] ∧ ShAt H C a xs ys ∧ Cat xs ∧ Row xs ys ∧ ∀ H', Same H H' → Q .non H'
theorem seq0 {n : Nat} (h : 0 < n) : seqIndex? 0 n = some 0 := by
  unfold seqIndex?
  simp [h]
theorem ok_spoil {f : Addr} {fd : FuncData} (F : Fun K "_law_spoil" "_law_spoil" sSpoil f fd) (D : Pk P w K mg base C fi fq fc fr) : FnOk P w K mg base CX0 3 f fd ["_law_made"] (spSpoil C) := by
  obtain ⟨fdc, Gc, bc⟩ := D.cats
  obtain ⟨fdr, Gr, br⟩ := D.row
  obtain ⟨fk, fdk, Gk, mk_, kk, bk⟩ := D.ranks
  have T := D.T
  refine F.ok scSpoil (fun vs H Q E h => ?_) (fun cdv A outer s H vs Q E hr h => ?_)
  · obtain ⟨a, xs, ys, rfl, _⟩ := h
    rfl
  · obtain ⟨a, xs, ys, rfl, sh, cat, row, q⟩ := h
    have hr1 := hr.mono (show 1 ≤ 2 by decide)
    refine ⟨_, pss_one (ps_for PassesOwn.never rfl (pi_tup (pe_tup (pa_cons (pe_meth0 (pv 0) T.cl T.mc Gc hr1 bc .nil pass0) (pa_cons (pe_meth0 (pv 0) T.cl T.mr Gr hr1 br .nil pass0) (pa_cons (pe_call Gk hr rfl mk_ kk bk .nil pass0 (pa_cons (pv 0) pa_nil)) pa_nil)))))
        (pg_name (i := 1) scSpoil.nd rfl (Or.inl rfl))
        (pss_cons (ps_expr (pe_bm0 PySem.F.plainAttrs_list PySem.F.slot_list_reverse PySem.F.type_list_reverse mt_reverse (pv 1)))
        (pss_cons (ps_expr (pe_bm PySem.F.plainAttrs_list PySem.F.slot_list_append PySem.F.type_list_append mt_append (pv 1) (pa_cons pe_str pa_nil)))
        (pss_one (ps_expr (pe_bm PySem.F.plainAttrs_list PySem.F.slot_list_pop PySem.F.type_list_pop mt_popAt (pv 1) (pa_cons pe_int pa_nil))))))), ?_⟩
    obtain ⟨dx, c, r, ha, hc, hr'⟩ := id sh
    have few := cat.2.1
    refine ⟨_, rfl, a, dx, _, rfl, ha, rfl, a, xs, ys, rfl, sh, fun p1 n1 => ?_⟩
    have s1 := same_upd (o := .lst (xs.map V.str)) n1
    have h1 : (upd H p1 (.lst (xs.map V.str))) p1 = some (.lst (xs.map V.str)) := upd_same
    refine ⟨_, rfl, a, dx, _, rfl, s1 _ _ ha, rfl, a, xs, ys, rfl, sh.mono s1, fun p2 n2 => ?_⟩
    have s2 := same_upd (o := .lst (ys.map V.str)) n2
    have h2 : (upd (upd H p1 (.lst (xs.map V.str))) p2 (.lst (ys.map V.str))) p2 = some (.lst (ys.map V.str)) := upd_same
    have h1 := s2 _ _ h1
    have s02 := s1.trans s2
    have n2' : H p2 = none := by
      cases e : H p2 with
      | none => rfl
      | some o => rw [s1 _ _ e] at n2; cases n2
    dsimp only
    generalize upd (upd H p1 (.lst (xs.map V.str))) p2 (.lst (ys.map V.str)) = H2 at s2 h2 h1 s02 ⊢
    refine ⟨_, rfl, a, xs, ys, rfl, sh.mono s02, cat, row, fun H3 p3 s3 n3 h3 => ⟨(show 3 ≤ sizeLine by decide +kernel), fun t nt => ?_⟩⟩
    have n3' : H p3 = none := by
      cases e : H p3 with
      | none => rfl
      | some o => rw [s02 _ _ e] at n3; cases n3
    have s4 := same_upd (o := .tup [V.ref p1, V.ref p2, V.ref p3]) nt
    have s04 := (s02.trans s3).trans s4
    have nt' : H t = none := by
      cases e : H t with
      | none => rfl
      | some o => rw [(s02.trans s3) _ _ e] at nt; cases nt
    refine ⟨t, rfl, ⟨_, .inl (.inl upd_same)⟩, ?_⟩
    have fresh : ∀ p, p = p1 ∨ p = p2 ∨ p = p3 → H p = none ∧ p ≠ t := by
      rintro p (rfl | rfl | rfl)
      · exact ⟨n1, ne_of_none (s3 _ _ h1) nt⟩
      · exact ⟨n2', ne_of_none (s3 _ _ h2) nt⟩
      · exact ⟨n3', ne_of_none h3 nt⟩
    refine for_tup (D := { nx := fun _ H' => Q .non H', rt := Q }) (K := K) (a := t) (xs := [V.ref p1, V.ref p2, V.ref p3]) (fun i σ H' => ∃ d : Option V, σ = [some (.ref a), d] ∧ Same H H' ∧ H' t = some (.tup [V.ref p1, V.ref p2, V.ref p3]) ∧ ∀ p, p = p1 ∨ p = p2 ∨ p = p3 → ∃ vs, H' p = some (.lst vs) ∧ vs.length ≤ 200) ?_ ?_ ?_ ?_
    · refine ⟨none, rfl, s04, upd_same, ?_⟩
      rintro p (rfl | rfl | rfl)
      · exact ⟨_, s4 _ _ (s3 _ _ h1), by rw [List.length_map]; omega⟩
      · exact ⟨_, s4 _ _ (s3 _ _ h2), by rw [List.length_map, row.2.2]; omega⟩
      · exact ⟨_, s4 _ _ h3, by rw [List.length_map, rnk, List.length_map, row.2.2]; omega⟩
    · rintro i σ H' _ ⟨d, rfl, g1, g2, g3⟩
      exact .inl (.inl g2)
    · rintro i x σ H5 hx ⟨d, rfl, g1, g2, g3⟩
      obtain ⟨p, hp, rfl⟩ : ∃ p, (p = p1 ∨ p = p2 ∨ p = p3) ∧ x = V.ref p := by
        match i, hx with
        | 0, hx => cases hx; exact ⟨_, .inl rfl, rfl⟩
        | 1, hx => cases hx; exact ⟨_, .inr (.inl rfl), rfl⟩
        | 2, hx => cases hx; exact ⟨_, .inr (.inr rfl), rfl⟩
        | i + 3, hx => simp at hx
      obtain ⟨vs, hv, lv⟩ := g3 p hp
      obtain ⟨np, npt⟩ := fresh p hp
      refine ⟨_, rfl, .inl ⟨rfl, _, SqL.of hv⟩, p, vs, rfl, rfl, hv, ?_⟩
      refine ⟨_, rfl, .inl ⟨rfl, _, SqL.of upd_same⟩, p, _, _, rfl, rfl, upd_same, by rw [List.length_reverse]; exact small1000 (by omega), ?_⟩
      refine ⟨_, rfl, .inl ⟨rfl, _, SqL.of upd_same⟩, p, _, 0, 0, (vs.reverse ++ [V.str "zz"])[0]'(by simp), rfl, rfl, upd_same, by decide, by decide, seq0 (by simp), by rw [List.getElem?_eq_getElem], ?_⟩
      refine ⟨_, rfl, fun b o e => ?_, ?_, fun p' hp' => ?_⟩
      · have n := ne_of_none e np
        rw [upd_ne n, upd_ne n, upd_ne n]
        exact g1 _ _ e
      · rw [upd_ne npt.symm, upd_ne npt.symm, upd_ne npt.symm]
        exact g2
      · by_cases e : p' = p
        · subst e
          refine ⟨_, upd_same, ?_⟩
          rw [List.length_eraseIdx_of_lt (by simp)]
          simp
          omega
        · obtain ⟨vs', h1', h2'⟩ := g3 p' hp'
          exact ⟨vs', by rw [upd_ne e, upd_ne e, upd_ne e]; exact h1', h2'⟩
    · rintro σ H5 ⟨d, rfl, g1, _⟩
      exact q _ g1
/-! ### swapped -/
theorem ixn {n i : Nat} (h : i < n) : ixN n ((i : Nat) : Int) = some i := by
  unfold ixN
  rw [if_pos (by omega), if_pos (by omega), Int.toNat_natCast]
theorem scSwap : FnScope ["_law_some", "_law_first", "_law_second", "_law_late"] ["_law_some", "_law_first", "_law_second"] (defScope sSwap) := ⟨rfl, rfl, rfl, by decide +kernel, rfl, by decide +kernel, by decide +kernel⟩
def spSwap : Sp := fun vs H Q _ => ∃ (l : Addr) (i j : Nat) (xs : List Str), vs = [.ref l, .int i, .int j] ∧ H l = some (.lst (xs.map V.str)) ∧ xs.length ≤ 100 ∧ i < xs.length ∧ j < xs.length ∧
  ∀ (H' : Hp) (p : Addr) (zs : List Str), Same H H' → H p = none → H' p = some (.lst (zs.map V.str)) → zs.Perm xs → Q (.ref p) H'
theorem ok_swap {f : Addr} {fd : FuncData} (F : Fun K "_law_swapped" "_law_swapped" sSwap f fd) (M : Mx mg) : FnOk P w K mg base CX0 1 f fd ["_law_some", "_law_first", "_law_second"] spSwap := by
  refine F.ok scSwap (fun vs H Q E h => ?_) (fun cdv A outer s H vs Q E hr h => ?_)
  · obtain ⟨l, i, j, xs, rfl, _⟩ := h
    rfl
  · obtain ⟨l, i, j, xs, rfl, hl, few, hi, hj, q⟩ := h
    refine ⟨_, pss_cons (ps_set (i := 3) scSwap.nd rfl (Or.inl rfl) (pe_callTy call_list_of (by rfl) M.list boot_listT (pa_cons (pv 0) pa_nil)))
      (pss_cons (ps_asg (pe_tup (pa_cons (pe_ix (ix_listK (K := K) rfl) (pv 0) (pv 2) (fun _ _ => rfl)) (pa_cons (pe_ix (ix_listK (K := K) rfl) (pv 0) (pv 1) (fun _ _ => rfl)) pa_nil)))
        (pg_tup rfl (pgs_cons (pg_sub (pv 3) (pv 1) set_list) (pgs_cons (pg_sub (pv 3) (pv 2) set_list) pgs_nil))))
      (pss_one (ps_ret (pv 3)))), ?_⟩
    have e1 : xs[i]? = some xs[i] := List.getElem?_eq_getElem hi
    have e2 : xs[j]? = some xs[j] := List.getElem?_eq_getElem hj
    refine ⟨_, rfl, l, _, rfl, .inl (SqL.of hl), fun p np => ?_⟩
    have s1 := same_upd (o := .lst (xs.map V.str)) np
    refine ⟨_, rfl, _, rfl, l, xs.map V.str, _, .str xs[j], rfl, rfl, SqL.of (s1 _ _ hl), atI_nat (by rw [List.getElem?_map, e2]; rfl), ?_⟩
    refine ⟨_, rfl, _, rfl, l, xs.map V.str, _, .str xs[i], rfl, rfl, SqL.of (s1 _ _ hl), atI_nat (by rw [List.getElem?_map, e1]; rfl), (show 2 ≤ sizeLine by decide +kernel), fun t nt => ?_⟩
    have npt : p ≠ t := ne_of_none upd_same nt
    have s2 := same_upd (o := .tup [V.str xs[j], V.str xs[i]]) nt
    have hp : (upd (upd H p (.lst (xs.map V.str))) t (.tup [V.str xs[j], V.str xs[i]])) p = some (.lst (xs.map V.str)) := by rw [upd_ne npt]; exact upd_same
    refine ⟨t, _, rfl, .inl (.inl upd_same), rfl, _, _, rfl, _, rfl, _, rfl, p, xs.map V.str, _, i, rfl, rfl, hp, ixn (by rw [List.length_map]; exact hi), ?_⟩
    refine ⟨_, _, rfl, _, rfl, _, rfl, p, _, _, j, rfl, rfl, upd_same, ixn (by rw [List.length_set, List.length_map]; exact hj), rfl, ?_⟩
    refine ⟨_, rfl, q _ p ((xs.set i xs[j]).set j xs[i]) (fun b o e => ?_) np ?_ (List.set_set_perm hi hj)⟩
    · have n := ne_of_none e np
      rw [upd_ne n, upd_ne n]
      exact s2 _ _ (s1 _ _ e)
    · rw [upd_same, List.map_set, List.map_set]
/-! ### lent_right -/
theorem scLent : FnScope ["_law_world", "_law_way", "_law_books", "_law_row", "_law_made", "_law_some"] ["_law_world"] (defScope sLent) := ⟨rfl, rfl, rfl, by decide +kernel, rfl, by decide +kernel, by decide +kernel⟩
def spLent : Sp := fun vs H Q _ => ∃ (w : Addr) (xs ys : List Str), vs = [.ref w] ∧ WorldAt H w xs ys ∧ Cat xs ∧ Row xs ys ∧ ∀ H', Same H H' → Q (.bl true) H'
theorem ok_lent {f g1 : Addr} {fd gd1 : FuncData} (F : Fun K "_law_lent_right" "_law_lent_right" sLent f fd) (M : Mx mg) (B : Bl mg) (D : Pk P w K mg base C fi fq fc fr)
    (G1 : FnOk P w K mg base CX0 4 g1 gd1 ["_law_made", "_law_world"] (spShR C)) (m1 : mg "_law_shelf_right" = some (.ref g1)) (k1 : PySem.W.keepIn K (.ref g1) = true) (b1 : Binds K gd1 ["_law_made", "_law_world"] []) :
    FnOk P w K mg base CX0 6 f fd ["_law_world"] spLent := by
  obtain ⟨fdi, Gi, bi⟩ := D.init
  obtain ⟨fdq, Gq, bq⟩ := D.eqs
  have T := D.T
  refine F.ok scLent (fun vs H Q E h => ?_) (fun cdv A outer s H vs Q E hr h => ?_)
  · obtain ⟨w, xs, ys, rfl, _⟩ := h
    rfl
  · obtain ⟨w, xs, ys, rfl, wd, cat, row, q⟩ := h
    have hr4 := hr.mono (show 4 ≤ 5 by decide)
    have hr2 := hr.mono (show 2 ≤ 5 by decide)
    refine ⟨_, pss_cons (ps_for PassesOwn.never rfl (pi_range1 rfl B.range (pa_cons pe_int pa_nil)) (pg_name (i := 1) scLent.nd rfl (Or.inl rfl))
        (pss_cons (ps_par (i := 2) (j := 3) rfl scLent.nd rfl rfl (by decide) rfl rfl (pa_cons (pe_callTy call_list_of (by rfl) M.list boot_listT (pa_cons (pe_ix (ix_listK (K := K) rfl) (pv 0) pe_int (fun _ _ => rfl)) pa_nil))
            (pa_cons (pe_callTy call_list_of (by rfl) M.list boot_listT (pa_cons (pe_ix (ix_listK (K := K) rfl) (pv 0) pe_int (fun _ _ => rfl)) pa_nil)) pa_nil)) rfl)
        (pss_cons (ps_set (i := 4) scLent.nd rfl (Or.inl rfl) (pe_make T.makes Gi hr4 rfl D.gS bi .nil pass0 (pa_cons (pv 2) (pa_cons (pv 3) pa_nil))))
        (pss_cons (ps_set (i := 5) scLent.nd rfl (Or.inl rfl) (pe_ifExp (pt_cmpR op_lt (pv 1) pe_int (nomark _)) (pv 2) (pv 3)))
        (pss_cons (ps_if (pt_cmpR (op_in_seqK (K := K) rfl) (pv 1) (pe_tup (pa_cons pe_int (pa_cons pe_int pa_nil))) rfl)
            (pss_one (ps_expr (pe_bm0 PySem.F.plainAttrs_list PySem.F.slot_list_clear PySem.F.type_list_clear mt_clear (pv 5))))
            (pss_cons (ps_expr (pe_bm0 PySem.F.plainAttrs_list PySem.F.slot_list_reverse PySem.F.type_list_reverse mt_reverse (pv 5)))
              (pss_one (ps_expr (pe_bm PySem.F.plainAttrs_list PySem.F.slot_list_append PySem.F.type_list_append mt_append (pv 5) (pa_cons pe_str pa_nil))))))
        (pss_one (ps_if (PW.pt (pw_or (pt_not (pt_val (pe_call G1 hr4 rfl m1 k1 b1 .nil pass0 (pa_cons (pv 4) (pa_cons (pv 0) pa_nil)))))
            (pw_or1 (pt_cmpR (OE.op_ne (K := K) (hK := rfl) Gq T.eq hr2 bq pass0) (pv 4) (pe_make T.makes Gi hr4 rfl D.gS bi .nil pass0 (pa_cons (pe_callTy call_list_of (by rfl) M.list boot_listT (pa_cons (pe_ix (ix_listK (K := K) rfl) (pv 0) pe_int (fun _ _ => rfl)) pa_nil))
              (pa_cons (pe_callTy call_list_of (by rfl) M.list boot_listT (pa_cons (pe_ix (ix_listK (K := K) rfl) (pv 0) pe_int (fun _ _ => rfl)) pa_nil)) pa_nil))) (nomark _))))) pss_never pss_nil)))))))
      (pss_one (ps_ret pe_bl)), ?_⟩
    obtain ⟨c, r, hw, hc, hr'⟩ := id wd
    have few := cat.2.1
    refine ⟨4, rfl, by decide, by decide, ?_⟩
    refine for_range (n := 4) (fun i σ H' => ∃ a1 a2 a3 a4 a5 : Option V, σ = [some (.ref w), a1, a2, a3, a4, a5] ∧ Same H H') ⟨_, _, _, _, _, rfl, fun _ _ e => e⟩ ?_ ?_
    · rintro i σ H0 hi ⟨a1, a2, a3, a4, a5, rfl, s0⟩
      have wd0 := wd.mono s0
      have hw0 := s0 _ _ hw
      have hc0 := s0 _ _ hc
      have hr0 := s0 _ _ hr'
      refine ⟨_, rfl, w, _, 0, .ref c, rfl, rfl, SqL.of hw0, (show atI [V.ref c, V.ref r] ((0 : Nat) : Int) = _ from atI_nat rfl), c, _, rfl, .inl (SqL.of hc0), fun p1 n1 => ?_⟩
      have t1 := same_upd (o := .lst (xs.map V.str)) n1
      refine ⟨_, rfl, w, _, 1, .ref r, rfl, rfl, SqL.of (t1 _ _ hw0), (show atI [V.ref c, V.ref r] ((1 : Nat) : Int) = _ from atI_nat rfl), r, _, rfl, .inl (SqL.of (t1 _ _ hr0)), fun p2 n2 => ?_⟩
      have t2 := same_upd (o := .lst (ys.map V.str)) n2
      have h1 := t2 p1 _ upd_same
      have h2 : (upd (upd H0 p1 (.lst (xs.map V.str))) p2 (.lst (ys.map V.str))) p2 = some (.lst (ys.map V.str)) := upd_same
      have n2' := none_under t1 n2
      have t02 := t1.trans t2
      refine ⟨_, _, rfl, ?_⟩
      have n12 : p1 ≠ p2 := ne_of_none upd_same n2
      generalize upd (upd H0 p1 (.lst (xs.map V.str))) p2 (.lst (ys.map V.str)) = H2 at h1 h2 t02 ⊢
      refine ⟨_, rfl, _, rfl, fun x dx nx ndx nex => made_use h1 h2 cat row nx ndx nex fun H3 s3 sh => ⟨rfl, ?_⟩⟩
      refine ⟨_, rfl, _, _, rfl, rfl, _, rfl, ?way⟩
      refine (ite2 (fun _ => ?_) (fun _ => ?_))
      · refine ⟨_, rfl, ?_⟩
        refine ⟨_, rfl, (show 2 ≤ sizeLine by decide +kernel), fun t nt => ?_⟩
        have s4 := same_upd (o := .tup [V.int 0, V.int 2]) nt
        refine ⟨t, _, rfl, .inr (SqT.of upd_same), rfl, rfl, _, rfl, ?_⟩
        have hl4 := s4 _ _ (s3 _ _ h1)
        have keep4 : ∀ b o, H2 b = none → H3 b = some o → (upd H3 t (.tup [V.int 0, V.int 2])) b = some o := fun b o _ e => s4 _ _ e
        have old4 := (t02.trans s3).trans s4
        generalize upd H3 t (.tup [V.int 0, V.int 2]) = H4 at hl4 keep4 old4 ⊢
        refine (ite2 (fun _ => ?_) (fun _ => ?_))
        · refine ⟨_, rfl, .inl ⟨rfl, _, SqL.of hl4⟩, p1, _, rfl, rfl, hl4, ?_⟩
          have old5 : Same H0 (upd H4 p1 (.lst [])) := fun b o e => by
            rw [upd_ne (ne_of_none e n1)]
            exact old4 b o e
          have sh5 : ShAt (upd H4 p1 (.lst [])) C x xs ys := sh.kept nx fun b o n e => by
            rw [upd_ne (fun z => by rw [z, h1] at n; cases n)]
            exact keep4 b o n e
          generalize upd H4 p1 (.lst []) = H5 at old5 sh5 ⊢
          have wd5 := wd0.mono old5
          have hw5 := old5 _ _ hw0
          have hc5 := old5 _ _ hc0
          have hr5 := old5 _ _ hr0
          refine ⟨_, rfl, _, rfl, x, w, xs, ys, rfl, sh5, wd5, cat, row, fun H6 s6 => ⟨true, rfl, iteF ?_⟩⟩
          refine ⟨_, rfl, _, rfl, w, _, 0, .ref c, rfl, rfl, SqL.of (s6 _ _ hw5), (show atI [V.ref c, V.ref r] ((0 : Nat) : Int) = _ from atI_nat rfl), c, _, rfl, .inl (SqL.of (s6 _ _ hc5)), fun q1 e1 => ?_⟩
          have u1 := same_upd (o := .lst (xs.map V.str)) e1
          refine ⟨_, rfl, w, _, 1, .ref r, rfl, rfl, SqL.of (u1 _ _ (s6 _ _ hw5)), (show atI [V.ref c, V.ref r] ((1 : Nat) : Int) = _ from atI_nat rfl), r, _, rfl, .inl (SqL.of (u1 _ _ (s6 _ _ hr5))), fun q2 e2 => ?_⟩
          have u2 := same_upd (o := .lst (ys.map V.str)) e2
          have k1 := u2 q1 _ upd_same
          have k2 : (upd (upd H6 q1 (.lst (xs.map V.str))) q2 (.lst (ys.map V.str))) q2 = some (.lst (ys.map V.str)) := upd_same
          have u06 := s6.trans (u1.trans u2)
          generalize upd (upd H6 q1 (.lst (xs.map V.str))) q2 (.lst (ys.map V.str)) = H7 at k1 k2 u06 ⊢
          intro y dy ny ndy ney
          refine made_use k1 k2 cat row ny ndy ney fun H8 s8 sh8 => ⟨rfl, ?_⟩
          have shx := sh5.mono (u06.trans s8)
          obtain ⟨ex, ec, er, hx8, hxc, hxr⟩ := id shx
          obtain ⟨ey, fc, fr', hy8, hyc, hyr⟩ := id sh8.at
          refine ⟨x, ex, _, .ref C, true, rfl, hx8, .base (.ins hy8 T.cl T.ha T.hn T.ht T.eq.ob), by simp [PySem.W.notFirst], ⟨xs, ys, shx, cat.2.2.1, (row.flip cat).1.2.2.1, .inl ⟨y, xs, ys, rfl, sh8.at, cat.2.2.1, (row.flip cat).1.2.2.1, by simp⟩⟩, false, rfl, iteF ?_⟩
          exact ⟨_, _, _, _, _, rfl, s0.trans ((fun b o e => u06.trans s8 b o (old5 b o e)))⟩
        · refine ⟨_, rfl, .inl ⟨rfl, _, SqL.of hl4⟩, p1, _, rfl, rfl, hl4, ?_⟩
          refine ⟨_, rfl, .inl ⟨rfl, _, SqL.of upd_same⟩, p1, _, _, rfl, rfl, upd_same, by rw [List.length_reverse, List.length_map]; exact small1000 (by have := row.2.2; omega), ?_⟩
          have old5 : Same H0 (upd (upd H4 p1 (.lst (xs.map V.str).reverse)) p1 (.lst ((xs.map V.str).reverse ++ [V.str "zzzzzzzz"]))) := fun b o e => by
            rw [upd_ne (ne_of_none e n1), upd_ne (ne_of_none e n1)]
            exact old4 b o e
          have sh5 : ShAt (upd (upd H4 p1 (.lst (xs.map V.str).reverse)) p1 (.lst ((xs.map V.str).reverse ++ [V.str "zzzzzzzz"]))) C x xs ys := sh.kept nx fun b o n e => by
            have nb : b ≠ p1 := fun z => by rw [z, h1] at n; cases n
            rw [upd_ne nb, upd_ne nb]
            exact keep4 b o n e
          generalize upd (upd H4 p1 (.lst (xs.map V.str).reverse)) p1 (.lst ((xs.map V.str).reverse ++ [V.str "zzzzzzzz"])) = H5 at old5 sh5 ⊢
          have wd5 := wd0.mono old5
          have hw5 := old5 _ _ hw0
          have hc5 := old5 _ _ hc0
          have hr5 := old5 _ _ hr0
          refine ⟨_, rfl, _, rfl, x, w, xs, ys, rfl, sh5, wd5, cat, row, fun H6 s6 => ⟨true, rfl, iteF ?_⟩⟩
          refine ⟨_, rfl, _, rfl, w, _, 0, .ref c, rfl, rfl, SqL.of (s6 _ _ hw5), (show atI [V.ref c, V.ref r] ((0 : Nat) : Int) = _ from atI_nat rfl), c, _, rfl, .inl (SqL.of (s6 _ _ hc5)), fun q1 e1 => ?_⟩
          have u1 := same_upd (o := .lst (xs.map V.str)) e1
          refine ⟨_, rfl, w, _, 1, .ref r, rfl, rfl, SqL.of (u1 _ _ (s6 _ _ hw5)), (show atI [V.ref c, V.ref r] ((1 : Nat) : Int) = _ from atI_nat rfl), r, _, rfl, .inl (SqL.of (u1 _ _ (s6 _ _ hr5))), fun q2 e2 => ?_⟩
          have u2 := same_upd (o := .lst (ys.map V.str)) e2
          have k1 := u2 q1 _ upd_same
          have k2 : (upd (upd H6 q1 (.lst (xs.map V.str))) q2 (.lst (ys.map V.str))) q2 = some (.lst (ys.map V.str)) := upd_same
          have u06 := s6.trans (u1.trans u2)
          generalize upd (upd H6 q1 (.lst (xs.map V.str))) q2 (.lst (ys.map V.str)) = H7 at k1 k2 u06 ⊢
          intro y dy ny ndy ney
          refine made_use k1 k2 cat row ny ndy ney fun H8 s8 sh8 => ⟨rfl, ?_⟩
          have shx := sh5.mono (u06.trans s8)
          obtain ⟨ex, ec, er, hx8, hxc, hxr⟩ := id shx
          obtain ⟨ey, fc, fr', hy8, hyc, hyr⟩ := id sh8.at
          refine ⟨x, ex, _, .ref C, true, rfl, hx8, .base (.ins hy8 T.cl T.ha T.hn T.ht T.eq.ob), by simp [PySem.W.notFirst], ⟨xs, ys, shx, cat.2.2.1, (row.flip cat).1.2.2.1, .inl ⟨y, xs, ys, rfl, sh8.at, cat.2.2.1, (row.flip cat).1.2.2.1, by simp⟩⟩, false, rfl, iteF ?_⟩
          exact ⟨_, _, _, _, _, rfl, s0.trans ((fun b o e => u06.trans s8 b o (old5 b o e)))⟩
      · refine ⟨_, rfl, ?_⟩
        refine ⟨_, rfl, (show 2 ≤ sizeLine by decide +kernel), fun t nt => ?_⟩
        have s4 := same_upd (o := .tup [V.int 0, V.int 2]) nt
        refine ⟨t, _, rfl, .inr (SqT.of upd_same), rfl, rfl, _, rfl, ?_⟩
        have hl4 := s4 _ _ (s3 _ _ h2)
        have keep4 : ∀ b o, H2 b = none → H3 b = some o → (upd H3 t (.tup [V.int 0, V.int 2])) b = some o := fun b o _ e => s4 _ _ e
        have old4 := (t02.trans s3).trans s4
        generalize upd H3 t (.tup [V.int 0, V.int 2]) = H4 at hl4 keep4 old4 ⊢
        refine (ite2 (fun _ => ?_) (fun _ => ?_))
        · refine ⟨_, rfl, .inl ⟨rfl, _, SqL.of hl4⟩, p2, _, rfl, rfl, hl4, ?_⟩
          have old5 : Same H0 (upd H4 p2 (.lst [])) := fun b o e => by
            rw [upd_ne (ne_of_none e n2')]
            exact old4 b o e
          have sh5 : ShAt (upd H4 p2 (.lst [])) C x xs ys := sh.kept nx fun b o n e => by
            rw [upd_ne (fun z => by rw [z, h2] at n; cases n)]
            exact keep4 b o n e
          generalize upd H4 p2 (.lst []) = H5 at old5 sh5 ⊢
          have wd5 := wd0.mono old5
          have hw5 := old5 _ _ hw0
          have hc5 := old5 _ _ hc0
          have hr5 := old5 _ _ hr0
          refine ⟨_, rfl, _, rfl, x, w, xs, ys, rfl, sh5, wd5, cat, row, fun H6 s6 => ⟨true, rfl, iteF ?_⟩⟩
          refine ⟨_, rfl, _, rfl, w, _, 0, .ref c, rfl, rfl, SqL.of (s6 _ _ hw5), (show atI [V.ref c, V.ref r] ((0 : Nat) : Int) = _ from atI_nat rfl), c, _, rfl, .inl (SqL.of (s6 _ _ hc5)), fun q1 e1 => ?_⟩
          have u1 := same_upd (o := .lst (xs.map V.str)) e1
          refine ⟨_, rfl, w, _, 1, .ref r, rfl, rfl, SqL.of (u1 _ _ (s6 _ _ hw5)), (show atI [V.ref c, V.ref r] ((1 : Nat) : Int) = _ from atI_nat rfl), r, _, rfl, .inl (SqL.of (u1 _ _ (s6 _ _ hr5))), fun q2 e2 => ?_⟩
          have u2 := same_upd (o := .lst (ys.map V.str)) e2
          have k1 := u2 q1 _ upd_same
          have k2 : (upd (upd H6 q1 (.lst (xs.map V.str))) q2 (.lst (ys.map V.str))) q2 = some (.lst (ys.map V.str)) := upd_same
          have u06 := s6.trans (u1.trans u2)
          generalize upd (upd H6 q1 (.lst (xs.map V.str))) q2 (.lst (ys.map V.str)) = H7 at k1 k2 u06 ⊢
          intro y dy ny ndy ney
          refine made_use k1 k2 cat row ny ndy ney fun H8 s8 sh8 => ⟨rfl, ?_⟩
          have shx := sh5.mono (u06.trans s8)
          obtain ⟨ex, ec, er, hx8, hxc, hxr⟩ := id shx
          obtain ⟨ey, fc, fr', hy8, hyc, hyr⟩ := id sh8.at
          refine ⟨x, ex, _, .ref C, true, rfl, hx8, .base (.ins hy8 T.cl T.ha T.hn T.ht T.eq.ob), by simp [PySem.W.notFirst], ⟨xs, ys, shx, cat.2.2.1, (row.flip cat).1.2.2.1, .inl ⟨y, xs, ys, rfl, sh8.at, cat.2.2.1, (row.flip cat).1.2.2.1, by simp⟩⟩, false, rfl, iteF ?_⟩
          exact ⟨_, _, _, _, _, rfl, s0.trans ((fun b o e => u06.trans s8 b o (old5 b o e)))⟩
        · refine ⟨_, rfl, .inl ⟨rfl, _, SqL.of hl4⟩, p2, _, rfl, rfl, hl4, ?_⟩
          refine ⟨_, rfl, .inl ⟨rfl, _, SqL.of upd_same⟩, p2, _, _, rfl, rfl, upd_same, by rw [List.length_reverse, List.length_map]; exact small1000 (by have := row.2.2; omega), ?_⟩
          have old5 : Same H0 (upd (upd H4 p2 (.lst (ys.map V.str).reverse)) p2 (.lst ((ys.map V.str).reverse ++ [V.str "zzzzzzzz"]))) := fun b o e => by
            rw [upd_ne (ne_of_none e n2'), upd_ne (ne_of_none e n2')]
            exact old4 b o e
          have sh5 : ShAt (upd (upd H4 p2 (.lst (ys.map V.str).reverse)) p2 (.lst ((ys.map V.str).reverse ++ [V.str "zzzzzzzz"]))) C x xs ys := sh.kept nx fun b o n e => by
            have nb : b ≠ p2 := fun z => by rw [z, h2] at n; cases n
            rw [upd_ne nb, upd_ne nb]
            exact keep4 b o n e
          generalize upd (upd H4 p2 (.lst (ys.map V.str).reverse)) p2 (.lst ((ys.map V.str).reverse ++ [V.str "zzzzzzzz"])) = H5 at old5 sh5 ⊢
          have wd5 := wd0.mono old5
          have hw5 := old5 _ _ hw0
          have hc5 := old5 _ _ hc0
          have hr5 := old5 _ _ hr0
          refine ⟨_, rfl, _, rfl, x, w, xs, ys, rfl, sh5, wd5, cat, row, fun H6 s6 => ⟨true, rfl, iteF ?_⟩⟩
          refine ⟨_, rfl, _, rfl, w, _, 0, .ref c, rfl, rfl, SqL.of (s6 _ _ hw5), (show atI [V.ref c, V.ref r] ((0 : Nat) : Int) = _ from atI_nat rfl), c, _, rfl, .inl (SqL.of (s6 _ _ hc5)), fun q1 e1 => ?_⟩
          have u1 := same_upd (o := .lst (xs.map V.str)) e1
          refine ⟨_, rfl, w, _, 1, .ref r, rfl, rfl, SqL.of (u1 _ _ (s6 _ _ hw5)), (show atI [V.ref c, V.ref r] ((1 : Nat) : Int) = _ from atI_nat rfl), r, _, rfl, .inl (SqL.of (u1 _ _ (s6 _ _ hr5))), fun q2 e2 => ?_⟩
          have u2 := same_upd (o := .lst (ys.map V.str)) e2
          have k1 := u2 q1 _ upd_same
          have k2 : (upd (upd H6 q1 (.lst (xs.map V.str))) q2 (.lst (ys.map V.str))) q2 = some (.lst (ys.map V.str)) := upd_same
          have u06 := s6.trans (u1.trans u2)
          generalize upd (upd H6 q1 (.lst (xs.map V.str))) q2 (.lst (ys.map V.str)) = H7 at k1 k2 u06 ⊢
          intro y dy ny ndy ney
          refine made_use k1 k2 cat row ny ndy ney fun H8 s8 sh8 => ⟨rfl, ?_⟩
          have shx := sh5.mono (u06.trans s8)
          obtain ⟨ex, ec, er, hx8, hxc, hxr⟩ := id shx
          obtain ⟨ey, fc, fr', hy8, hyc, hyr⟩ := id sh8.at
          refine ⟨x, ex, _, .ref C, true, rfl, hx8, .base (.ins hy8 T.cl T.ha T.hn T.ht T.eq.ob), by simp [PySem.W.notFirst], ⟨xs, ys, shx, cat.2.2.1, (row.flip cat).1.2.2.1, .inl ⟨y, xs, ys, rfl, sh8.at, cat.2.2.1, (row.flip cat).1.2.2.1, by simp⟩⟩, false, rfl, iteF ?_⟩
          exact ⟨_, _, _, _, _, rfl, s0.trans ((fun b o e => u06.trans s8 b o (old5 b o e)))⟩
    · rintro σ H0 ⟨_, _, _, _, _, rfl, s0⟩
      exact q _ s0
end
end K2

end
-- K2G
section
set_option Elab.async false
set_option linter.all false
set_option maxRecDepth 100000
set_option maxHeartbeats 4100000
/-! ### the law's own: grown_right -/
namespace K2
open L2 PyProof.Rows PySem PySem.Spec TS
abbrev sGrown : Stmt := top 39
theorem cut_head {xs : List Str} (h : 1 ≤ xs.length) : cutV (xs.map V.str) none (some (1 : Int)) = (xs.take 1).map V.str := by
  have e : HT.sIx (xs.map V.str).length (xs.map V.str).length (some (1 : Int)) = 1 := sIx_nat (i := 1) (by rw [List.length_map]; exact h)
  unfold cutV
  rw [e, HT.sIx_none, List.drop_zero, List.map_take]
theorem cut_rest {xs : List Str} (h : 1 ≤ xs.length) : cutV (xs.map V.str) (some (1 : Int)) none = (xs.drop 1).map V.str := by
  have e : HT.sIx (xs.map V.str).length 0 (some (1 : Int)) = 1 := sIx_nat (i := 1) (by rw [List.length_map]; exact h)
  unfold cutV
  rw [e, HT.sIx_none, List.take_of_length_le (by rw [List.length_drop]; exact Nat.le.refl), List.map_drop]
theorem Cat.head {xs : List Str} (h : Cat xs) : 1 ≤ xs.length := by
  cases xs with
  | nil => exact absurd rfl h.1
  | cons x r => simp
theorem Cat.take {xs : List Str} (h : Cat xs) {k : Nat} (hk : 1 ≤ k) : Cat (xs.take k) := by
  have l := h.head
  obtain ⟨ne, few, words, nd⟩ := h
  refine ⟨fun e => ?_, Nat.le_trans (List.length_take_le' _ _) few, fun x hx => words x (List.mem_of_mem_take hx), nd.sublist (List.take_sublist _ _)⟩
  have := congrArg List.length e
  rw [List.length_take, List.length_nil] at this
  omega
theorem ins_perm (zs : List Str) (z : Str) (r : Nat) : (zs.take r ++ [z] ++ zs.drop r).Perm (zs ++ [z]) := by
  rw [List.append_assoc]
  refine (List.perm_middle.trans (List.Perm.cons z ?_)).trans (List.perm_append_singleton z zs).symm
  change (zs.take r ++ zs.drop r).Perm zs
  rw [List.take_append_drop]
section
variable {base : Heap} {mg : Str → Option Value} {K : PySem.W.Frag} {w : World} {P : Program} {C fi fq fc fr : Addr}
theorem scGrown : FnScope ["_law_world", "_law_books", "_law_row", "_law_book"] ["_law_world"] (defScope sGrown) := ⟨rfl, rfl, rfl, by decide +kernel, rfl, by decide +kernel, by decide +kernel⟩
theorem ok_grown {f g1 g2 : Addr} {fd gd1 gd2 : FuncData} (F : Fun K "_law_grown_right" "_law_grown_right" sGrown f fd) (M : Mx mg) (D : Pk P w K mg base C fi fq fc fr)
    (G1 : FnOk P w K mg base CX0 4 g1 gd1 ["_law_made", "_law_world"] (spShR C)) (m1 : mg "_law_shelf_right" = some (.ref g1)) (k1 : PySem.W.keepIn K (.ref g1) = true) (b1 : Binds K gd1 ["_law_made", "_law_world"] [])
    (G2 : FnOk P w K mg base CX0 5 g2 gd2 ["catalogue"] (spSorted C)) (m2 : mg "sorted_shelf" = some (.ref g2)) (k2 : PySem.W.keepIn K (.ref g2) = true) (b2 : Binds K gd2 ["catalogue"] []) :
    FnOk P w K mg base CX0 6 f fd ["_law_world"] spLent := by
  obtain ⟨fdi, Gi, bi⟩ := D.init
  have T := D.T
  refine F.ok scGrown (fun vs H Q E h => ?_) (fun cdv A outer s H vs Q E hr h => ?_)
  · obtain ⟨w, xs, ys, rfl, _⟩ := h
    rfl
  · obtain ⟨w, xs, ys, rfl, wd, cat, row, q⟩ := h
    have hr4 := hr.mono (show 4 ≤ 5 by decide)
    refine ⟨_, pss_cons (ps_par (i := 1) (j := 2) rfl scGrown.nd rfl rfl (by decide) rfl rfl (pa_cons (pe_callTy call_list_of (by rfl) M.list boot_listT (pa_cons (pe_slice sl_list (pe_ix (ix_listK (K := K) rfl) (pv 0) pe_int (fun _ _ => rfl)) po_none (po_some pe_int)) pa_nil))
        (pa_cons (pe_callTy call_list_of (by rfl) M.list boot_listT (pa_cons (pe_slice sl_list (pe_ix (ix_listK (K := K) rfl) (pv 0) pe_int (fun _ _ => rfl)) po_none (po_some pe_int)) pa_nil)) pa_nil)) rfl)
      (pss_cons (ps_for PassesOwn.never rfl (pi_list (pe_op op_cat (pe_slice sl_list (pe_ix (ix_listK (K := K) rfl) (pv 0) pe_int (fun _ _ => rfl)) (po_some pe_int) po_none) (pe_slice sl_list (pe_ix (ix_listK (K := K) rfl) (pv 0) pe_int (fun _ _ => rfl)) po_none (po_some pe_int)))) (pg_name (i := 3) scGrown.nd rfl (Or.inl rfl))
        (pss_cons (ps_if (PW.pt (pw_or (pt_not (pt_val (pe_call G1 hr4 rfl m1 k1 b1 .nil pass0 (pa_cons (pe_make T.makes Gi hr4 rfl D.gS bi .nil pass0 (pa_cons (pv 1) (pa_cons (pv 2) pa_nil)))
              (pa_cons (pe_lst (pa_cons (pe_callTy call_list_of (by rfl) M.list boot_listT (pa_cons (pv 1) pa_nil)) (pa_cons (pe_callTy call_list_of (by rfl) M.list boot_listT (pa_cons (pv 2) pa_nil)) pa_nil))) pa_nil)))))
            (pw_or1 (pt_not (pt_val (pe_call G1 hr4 rfl m1 k1 b1 .nil pass0 (pa_cons (pe_call G2 hr rfl m2 k2 b2 .nil pass0 (pa_cons (pv 1) pa_nil))
              (pa_cons (pe_lst (pa_cons (pe_callTy call_list_of (by rfl) M.list boot_listT (pa_cons (pv 1) pa_nil)) (pa_cons (pe_callTy call_list_of (by rfl) M.list boot_listT (pa_cons (pv 1) pa_nil)) pa_nil))) pa_nil)))))))) pss_never pss_nil)
        (pss_cons (ps_expr (pe_bm PySem.F.plainAttrs_list PySem.F.slot_list_append PySem.F.type_list_append mt_append (pv 1) (pa_cons (pv 3) pa_nil)))
        (pss_one (ps_expr (pe_bm PySem.F.plainAttrs_list PySem.F.slot_list_insert PySem.F.type_list_insert mt_insert (pv 2) (pa_cons (pe_op op_fdiv (pe_callB call_len_seq (by rfl) M.len PySem.boot_len (pa_cons (pv 2) pa_nil)) pe_int) (pa_cons (pv 3) pa_nil))))))))
      (pss_one (ps_ret pe_bl))), ?told⟩
    obtain ⟨c, r, hw, hc, hr'⟩ := id wd
    have few := cat.2.1
    have l1 := cat.head
    refine ⟨_, rfl, w, _, 0, .ref c, rfl, rfl, SqL.of hw, (show atI [V.ref c, V.ref r] ((0 : Nat) : Int) = _ from atI_nat rfl), ?_⟩
    refine ⟨1, rfl, c, _, rfl, SqL.of hc, fun t1 nt1 => ?_⟩
    have a1 := same_upd (o := .lst (cutV (xs.map V.str) none (some (1 : Int)))) nt1
    refine ⟨t1, _, rfl, .inl (SqL.of upd_same), fun p1 n1 => ?_⟩
    have a2 := a1.trans (same_upd (o := .lst (cutV (xs.map V.str) none (some (1 : Int)))) n1)
    refine ⟨_, rfl, w, _, 0, .ref c, rfl, rfl, SqL.of (a2 _ _ hw), (show atI [V.ref c, V.ref r] ((0 : Nat) : Int) = _ from atI_nat rfl), ?_⟩
    refine ⟨1, rfl, c, _, rfl, SqL.of (a2 _ _ hc), fun t2 nt2 => ?_⟩
    have a3' := same_upd (o := .lst (cutV (xs.map V.str) none (some (1 : Int)))) nt2
    refine ⟨t2, _, rfl, .inl (SqL.of upd_same), fun p2 n2 => ?_⟩
    have a4' := a3'.trans (same_upd (o := .lst (cutV (xs.map V.str) none (some (1 : Int)))) n2)
    have a4 := a2.trans a4'
    refine ⟨_, _, rfl, ?_⟩
    have h1 := a4' p1 _ upd_same
    have h2 : (upd (upd (upd (upd H t1 (.lst (cutV (xs.map V.str) none (some (1 : Int))))) p1 (.lst (cutV (xs.map V.str) none (some (1 : Int))))) t2 (.lst (cutV (xs.map V.str) none (some (1 : Int))))) p2 (.lst (cutV (xs.map V.str) none (some (1 : Int))))) p2 = some (.lst (cutV (xs.map V.str) none (some (1 : Int)))) := upd_same
    have n1' := none_under a1 n1
    have n2' := none_under (a2.trans a3') n2
    have n12 : p1 ≠ p2 := ne_of_none (a3' p1 _ upd_same) n2
    generalize upd (upd (upd (upd H t1 (.lst (cutV (xs.map V.str) none (some (1 : Int))))) p1 (.lst (cutV (xs.map V.str) none (some (1 : Int))))) t2 (.lst (cutV (xs.map V.str) none (some (1 : Int))))) p2 (.lst (cutV (xs.map V.str) none (some (1 : Int)))) = H1 at h1 h2 a4 ⊢
    rw [cut_head l1] at h1 h2
    -- the books to come
    refine ⟨_, rfl, w, _, 0, .ref c, rfl, rfl, SqL.of (a4 _ _ hw), (show atI [V.ref c, V.ref r] ((0 : Nat) : Int) = _ from atI_nat rfl), 1, rfl, c, _, rfl, SqL.of (a4 _ _ hc), fun u1 e1 => ?_⟩
    have b1 := same_upd (o := .lst (cutV (xs.map V.str) (some (1 : Int)) none)) e1
    refine ⟨_, rfl, w, _, 0, .ref c, rfl, rfl, SqL.of (b1 _ _ (a4 _ _ hw)), (show atI [V.ref c, V.ref r] ((0 : Nat) : Int) = _ from atI_nat rfl), 1, rfl, c, _, rfl, SqL.of (b1 _ _ (a4 _ _ hc)), fun u2 e2 => ?_⟩
    have b2 := same_upd (o := .lst (cutV (xs.map V.str) none (some (1 : Int)))) e2
    have v1 := b2 u1 _ upd_same
    refine ⟨u1, u2, _, _, rfl, rfl, v1, upd_same, ?_, fun L nL => ?_⟩
    · rw [cut_rest l1, cut_head l1, List.length_map, List.length_map, List.length_drop]
      exact Nat.le_trans (Nat.add_le_add (Nat.sub_le _ _) (List.length_take_le' _ _)) (show xs.length + xs.length ≤ sizeLine by rw [sizeLine_eq]; omega)
    have b3 := (b1.trans b2).trans (same_upd (o := .lst (cutV (xs.map V.str) (some (1 : Int)) none ++ cutV (xs.map V.str) none (some (1 : Int)))) nL)
    have eL : cutV (xs.map V.str) (some (1 : Int)) none ++ cutV (xs.map V.str) none (some (1 : Int)) = (xs.drop 1 ++ xs.take 1).map V.str := by rw [cut_rest l1, cut_head l1, List.map_append]
    have hL : (upd (upd (upd H1 u1 (.lst (cutV (xs.map V.str) (some (1 : Int)) none))) u2 (.lst (cutV (xs.map V.str) none (some (1 : Int))))) L (.lst (cutV (xs.map V.str) (some (1 : Int)) none ++ cutV (xs.map V.str) none (some (1 : Int))))) L = some (.lst ((xs.drop 1 ++ xs.take 1).map V.str)) := by rw [upd_same, eL]
    have nL1 : L ≠ p1 := (ne_of_none ((b1.trans b2) _ _ h1) nL).symm
    have nL2 : L ≠ p2 := (ne_of_none ((b1.trans b2) _ _ h2) nL).symm
    refine ⟨L, rfl, ⟨_, SqL.of upd_same⟩, ?_⟩
    have h1 := b3 _ _ h1
    have h2 := b3 _ _ h2
    have a5 := a4.trans b3
    generalize upd (upd (upd H1 u1 (.lst (cutV (xs.map V.str) (some (1 : Int)) none))) u2 (.lst (cutV (xs.map V.str) none (some (1 : Int))))) L (.lst (cutV (xs.map V.str) (some (1 : Int)) none ++ cutV (xs.map V.str) none (some (1 : Int)))) = H2 at h1 h2 hL a5 ⊢
    have whole : xs ++ xs.take 1 = xs.take 1 ++ (xs.drop 1 ++ xs.take 1) := by rw [← List.append_assoc, List.take_append_drop]
    have n1l : (xs.take 1).length = 1 := by rw [List.length_take]; omega
    have lall : (xs.drop 1 ++ xs.take 1).length = xs.length := by rw [List.length_append, List.length_drop, n1l]; omega
    refine for_list (K := K) (xs := (xs.drop 1 ++ xs.take 1).map V.str) (fun i σ H' => ∃ (d : Option V) (bk rk : List Str), σ = [some (.ref w), some (.ref p1), some (.ref p2), d] ∧ H' p1 = some (.lst (bk.map V.str)) ∧ H' p2 = some (.lst (rk.map V.str)) ∧
      bk = (xs ++ xs.take 1).take (i + 1) ∧ rk.Perm bk ∧ H' L = some (.lst ((xs.drop 1 ++ xs.take 1).map V.str)) ∧ Same H H') ?_ ?_ ?_ ?_
    · refine ⟨none, xs.take 1, xs.take 1, rfl, h1, h2, ?_, .refl _, hL, a5⟩
      rw [List.take_append_of_le_length (by omega)]
    · rintro i σ H' _ ⟨d, bk, rk, rfl, _, _, _, _, g, _⟩
      exact SqL.of g
    · rintro i x σ H3 hx ⟨d, bk, rk, rfl, g1, g2, rfl, g4, g5, g6⟩
      rw [List.getElem?_map] at hx
      obtain ⟨z, hz, rfl⟩ := Option.map_eq_some_iff.1 hx
      have lt := (List.getElem?_eq_some_iff.1 hz).1
      rw [lall] at lt
      have eb : (xs ++ xs.take 1).take (i + 1) = xs.take (i + 1) := List.take_append_of_le_length (by omega)
      have hz2 : (xs ++ xs.take 1)[i + 1]? = some z := by
        rw [whole, List.getElem?_append_right (by omega), n1l]
        simpa using hz
      have nextb : (xs ++ xs.take 1).take (i + 1 + 1) = (xs ++ xs.take 1).take (i + 1) ++ [z] := by rw [List.take_succ, hz2]; rfl
      have catb : Cat ((xs ++ xs.take 1).take (i + 1)) := by rw [eb]; exact cat.take (by omega)
      have rowb := Row.perm catb g4
      have fewb := catb.2.1
      have lenr := g4.length_eq
      generalize (xs ++ xs.take 1).take (i + 1) = bk at g1 g4 catb rowb nextb fewb lenr
      have line2 : (2 : Nat) ≤ sizeLine := by decide +kernel
      refine ⟨_, rfl, _, rfl, fun x dx nx ndx nex => made_use g1 g2 catb rowb nx ndx nex fun H4 s4 sh => ⟨rfl, ?_⟩⟩
      refine ⟨_, rfl, p1, _, rfl, .inl (SqL.of (s4 _ _ g1)), fun q1 m1 => ?_⟩
      have t1 := s4.trans (same_upd (o := .lst (bk.map V.str)) m1)
      refine ⟨_, rfl, p2, _, rfl, .inl (SqL.of (t1 _ _ g2)), fun q2 m2 => ⟨line2, fun v nv => ?_⟩⟩
      have t2 := same_upd (o := .lst (rk.map V.str)) m2
      have t3 := same_upd (o := .lst [V.ref q1, V.ref q2]) nv
      have sh' := sh.at.mono (((same_upd (o := .lst (bk.map V.str)) m1).trans t2).trans t3)
      have wd' : WorldAt (upd (upd (upd H4 q1 (.lst (bk.map V.str))) q2 (.lst (rk.map V.str))) v (.lst [V.ref q1, V.ref q2])) v bk rk := ⟨q1, q2, upd_same, t3 _ _ (t2 _ _ upd_same), t3 _ _ upd_same⟩
      have t4 := (t1.trans t2).trans t3
      refine ⟨x, v, bk, rk, rfl, sh', wd', catb, rowb, fun H5 s5 => ⟨true, rfl, iteF ?_⟩⟩
      have t5 := t4.trans s5
      refine ⟨_, rfl, p1, bk, rfl, t5 _ _ g1, catb, fun H6 y s6 ny sh6 => ?_⟩
      have t6 := t5.trans s6
      refine ⟨_, rfl, p1, _, rfl, .inl (SqL.of (t6 _ _ g1)), fun q3 m3 => ?_⟩
      have t7 := same_upd (o := .lst (bk.map V.str)) m3
      refine ⟨_, rfl, p1, _, rfl, .inl (SqL.of (t7 _ _ (t6 _ _ g1))), fun q4 m4 => ⟨line2, fun v2 nv2 => ?_⟩⟩
      have t8 := same_upd (o := .lst (bk.map V.str)) m4
      have t9 := same_upd (o := .lst [V.ref q3, V.ref q4]) nv2
      have wd6 : WorldAt (upd (upd (upd H6 q3 (.lst (bk.map V.str))) q4 (.lst (bk.map V.str))) v2 (.lst [V.ref q3, V.ref q4])) v2 bk bk := ⟨q3, q4, upd_same, t9 _ _ (t8 _ _ upd_same), t9 _ _ upd_same⟩
      refine ⟨y, v2, bk, bk, rfl, sh6.at.mono ((t7.trans t8).trans t9), wd6, catb, catb.row, fun H7 s7 => ⟨true, rfl, iteF ?_⟩⟩
      have t10 := (t6.trans ((t7.trans t8).trans t9)).trans s7
      have g1 := t10 _ _ g1
      have g2 := t10 _ _ g2
      have g5 := t10 _ _ g5
      have g6 := g6.trans t10
      refine ⟨_, rfl, .inl ⟨rfl, _, SqL.of g1⟩, _, rfl, p1, _, _, rfl, rfl, g1, by rw [List.length_map]; exact small1000 (by omega), ?_⟩
      have g2' : (upd H7 p1 (.lst (bk.map V.str ++ [V.str z]))) p2 = some (.lst (rk.map V.str)) := by rw [upd_ne n12.symm]; exact g2
      refine ⟨_, rfl, .inl ⟨rfl, _, SqL.of g2'⟩, ?_⟩
      refine ⟨_, rfl, p2, _, rfl, .inl (SqL.of g2'), _, _, rfl, rfl, ⟨by decide, by decide⟩, ?_⟩
      refine ⟨_, rfl, p2, _, _, _, rfl, rfl, g2', by rw [List.length_map]; exact small1000 (by omega), by omega, by rw [List.length_map]; omega, ?_⟩
      generalize ((((rk.map V.str).length : Nat) : Int) / 2).toNat = kk
      refine ⟨_, bk ++ [z], rk.take kk ++ [z] ++ rk.drop kk, rfl, ?_, ?_, nextb.symm, (ins_perm rk z kk).trans (g4.append (.refl _)), ?_, fun b o e => ?_⟩
      · rw [upd_ne n12, upd_same, List.map_append]
        rfl
      · rw [upd_same]
        simp [List.map_take, List.map_drop]
      · rw [upd_ne nL2, upd_ne nL1]
        exact g5
      · rw [upd_ne (ne_of_none e n2'), upd_ne (ne_of_none e n1')]
        exact g6 b o e
    · rintro σ H3 ⟨d, bk, rk, rfl, _, _, _, _, _, g⟩
      exact q _ g
end
end K2

end
-- K2O
section
set_option Elab.async false
set_option linter.all false
set_option maxRecDepth 100000
set_option maxHeartbeats 4100000
/-! ### the law's own: others -/
namespace K2
open L2 PyProof.Rows PySem PySem.Spec TS
abbrev sOthers : Stmt := top 37
/-- the slots, written out -/
theorem g_set {i : Nat} {v : V} {σ σ' : L2.St} {H : Hp} {Q : L2.St → Hp → Prop} (h : σ.set i (some v) = σ') (q : Q σ' H) : gName i v σ H Q := by
  subst h
  exact q
theorem Row.toPerm {xs ys : List Str} (cat : Cat xs) (row : Row xs ys) : ys.Perm xs := by
  obtain ⟨_, _, _, nd⟩ := cat
  obtain ⟨sub, nd2, len⟩ := row
  have back := all_of ys xs nd2 sub (by omega)
  rw [List.perm_iff_count]
  intro a
  rw [nd2.count, nd.count]
  by_cases e : a ∈ xs
  · rw [if_pos e, if_pos (back a e)]
  · rw [if_neg e, if_neg fun q => e (sub a q)]
/-- a catalogue and a row, both in whatever order -/
theorem both {xs xs' ys' : List Str} (cat : Cat xs) (p1 : xs'.Perm xs) (p2 : ys'.Perm xs) : Cat xs' ∧ Row xs' ys' := ⟨cat.perm p1, Row.perm (cat.perm p1) (p2.trans p1.symm)⟩
/-- a world at t -/
def WOk (H : Hp) (t : Addr) : Prop := ∃ xs' ys', WorldAt H t xs' ys' ∧ Cat xs' ∧ Row xs' ys'
theorem WOk.mono {H H' : Hp} {t : Addr} (e : Same H H') : WOk H t → WOk H' t := fun ⟨a, b, h, r⟩ => ⟨a, b, h.mono e, r⟩
theorem wok {H : Hp} {c r t : Addr} {xs xs' ys' : List Str} (cat : Cat xs) (hc : H c = some (.lst (xs'.map V.str))) (hr : H r = some (.lst (ys'.map V.str))) (ht : H t = none) (p1 : xs'.Perm xs) (p2 : ys'.Perm xs) : WOk (upd H t (.lst [.ref c, .ref r])) t :=
  ⟨xs', ys', ⟨c, r, upd_same, same_upd ht _ _ hc, same_upd ht _ _ hr⟩, both cat p1 p2⟩
/-- a list of worlds -/
def WsAt (H : Hp) (q : Addr) : Prop := ∃ ts : List Addr, H q = some (.lst (ts.map V.ref)) ∧ ts.length ≤ 20 ∧ ∀ t ∈ ts, WOk H t
def spOthers : Sp := fun vs H Q _ => ∃ (p w : Addr) (b : Int) (xs ys : List Str), vs = [.ref p, .ref w] ∧ PurseAt H p b ∧ b ≤ 2 ^ 36 ∧ WorldAt H w xs ys ∧ Cat xs ∧ Row xs ys ∧ xs.length ≤ 12 ∧
  ∀ H' q, But p H H' → PurseAt H' p (b + 10) → H q = none → WsAt H' q → Q (.ref q) H'
/-- one book's name is another one -/
def named (z fr b : Str) : Str := if b = z then fr else b
theorem cat_named {xs : List Str} {z fr : Str} (cat : Cat xs) (hf : isWord fr) (nf : fr ∉ xs) : Cat (xs.map (named z fr)) := by
  obtain ⟨ne, few, words, nd⟩ := cat
  refine ⟨fun e => ne (List.map_eq_nil_iff.1 e), by rw [List.length_map]; exact few, fun y hy => ?_, ?_⟩
  · obtain ⟨b, hb, rfl⟩ := List.mem_map.1 hy
    unfold named
    split
    · exact hf
    · exact words b hb
  · unfold List.Nodup at nd ⊢
    rw [List.pairwise_map]
    refine List.Pairwise.imp_of_mem (fun {a b} ha hb ne => ?_) nd
    unfold named
    intro q
    split at q <;> split at q
    · rename_i e1 e2; exact ne (e1.trans e2.symm)
    · exact nf (q ▸ hb)
    · exact nf (q.symm ▸ ha)
    · exact ne q
theorem Cat.more {xs : List Str} {fr : Str} (cat : Cat xs) (few : xs.length ≤ 50) (hf : isWord fr) (nf : fr ∉ xs) : Cat (xs ++ [fr]) := by
  obtain ⟨ne, _, words, nd⟩ := cat
  refine ⟨by simp, by rw [List.length_append]; simp; omega, fun y hy => ?_, ?_⟩
  · rcases List.mem_append.1 hy with h | h
    · exact words y h
    · rw [List.mem_singleton.1 h]; exact hf
  · rw [List.nodup_append]
    refine ⟨nd, by simp, fun a ha b hb => ?_⟩
    rw [List.mem_singleton.1 hb]
    rintro rfl
    exact nf ha
abbrev abp : Str := "abcdefghijklmnop"
theorem abp_eq : abp.cps.toList = (List.range 16).map (97 + ·) := by decide +kernel
theorem abp_signs : (signs abp).length = 16 ∧ (signs abp).Nodup ∧ ∀ y ∈ signs abp, isWord y := by
  have e : signs abp = (List.range 16).map fun k => (⟨#[97 + k]⟩ : Str) := by
    unfold signs
    rw [abp_eq, List.map_map]
    rfl
  refine ⟨by rw [e]; rfl, by rw [e]; decide +kernel, fun y hy => ?_⟩
  rw [e] at hy
  obtain ⟨k, hk, rfl⟩ := List.mem_map.1 hy
  have := List.mem_range.1 hk
  refine ⟨Nat.le.refl, (show 1 ≤ 8 by decide), fun c hc => ?_⟩
  have : c = 97 + k := by simpa using hc
  omega
theorem left_of {L zs : List Str} (nd : L.Nodup) (few : zs.length < L.length) : (L.filter fun y => decide (y ∉ zs)) ≠ [] := by
  intro e
  have sub : ∀ y ∈ L, y ∈ zs := fun y hy => by
    have := List.filter_eq_nil_iff.1 e y hy
    simpa using this
  have := nodup_le L zs nd sub
  omega
section
variable {K : PySem.W.Frag} {g : TG} {te : TE} {vs : List Nat} {σ : L2.St} {H1 : Hp} {D a : Addr} {Qd : Hp → Prop} {xs : List Str}
/-- a comprehension that makes a text of each text -/
theorem lc_map (f : Str → Str) (ha : H1 a = some (.lst (xs.map V.str))) (hD : H1 D = none) (few : xs.length ≤ 200)
    (hs : ∀ z H', z ∈ xs → Same H1 H' → ∀ Qk : V → Hp → Prop, Qk (.str (f z)) H' → g (.str z) (wipe σ vs) H' fun σ2 H2 => wipe σ2 vs = wipe σ vs ∧ te σ2 H2 Qk)
    (hd : ∀ H', Same H1 H' → H' D = some (.lst ((xs.map f).map V.str)) → Qd H') :
    ∃ W : Nat → Nat → Hp → Prop, (∃ m, W 0 m (upd H1 D (.lst []))) ∧ ∀ i m H, W i m H →
      ((Itl K a).stop i H ∧ Qd H) ∨ ((Itl K a).go i H ∧ ∃ Nx : Hp → Prop, (∀ H', Nx H' → ∃ m', m' < m ∧ W (i + 1) m' H') ∧ ∀ x H', (Itl K a).yld i H x H' → g x (wipe σ vs) H' fun σ2 H2 => wipe σ2 vs = wipe σ vs ∧ tYes σ2 H2 fun b H3 =>
        if b = true then te σ2 H3 fun y H4 => ∃ acc, H4 D = some (.lst acc) ∧ acc.length < sizeLine ∧ Nx (upd H4 D (.lst (acc ++ [y]))) else Nx H3) := by
  refine lc_list (K := K) (a := a) (xs := xs.map V.str) (fun i H' => H' D = some (.lst (((xs.take i).map f).map V.str)) ∧ Same H1 H') ⟨upd_same, same_upd hD⟩ (fun i H' _ ⟨_, h2⟩ => SqL.of (h2 _ _ ha)) ?_ ?_
  · rintro i x H' hx ⟨h1, h2⟩
    rw [List.getElem?_map] at hx
    obtain ⟨z, hz, rfl⟩ := Option.map_eq_some_iff.1 hx
    refine hs z H' (List.mem_of_getElem? hz) h2 _ ⟨_, h1, by rw [List.length_map, List.length_map, List.length_take]; exact small1000 (by omega), ?_, fun b o eb => ?_⟩
    · rw [upd_same, List.take_succ, hz]
      simp
    · rw [upd_ne (ne_of_none eb hD)]
      exact h2 _ _ eb
  · rintro H' ⟨h1, h2⟩
    rw [List.length_map, List.take_length] at h1
    exact hd H' h2 h1
/-- a comprehension that keeps some of the texts -/
theorem lc_keep {tt : TT} (f : Str → Bool) (ha : H1 a = some (.lst (xs.map V.str))) (hD : H1 D = none) (few : xs.length ≤ 200)
    (hs : ∀ z H', z ∈ xs → Same H1 H' → ∀ (Qk : V → Hp → Prop) (N : Hp → Prop), (f z = true → Qk (.str z) H') → (f z = false → N H') → g (.str z) (wipe σ vs) H' fun σ2 H2 => wipe σ2 vs = wipe σ vs ∧ tt σ2 H2 fun b H3 => if b = true then te σ2 H3 Qk else N H3)
    (hd : ∀ H', Same H1 H' → H' D = some (.lst ((xs.filter f).map V.str)) → Qd H') :
    ∃ W : Nat → Nat → Hp → Prop, (∃ m, W 0 m (upd H1 D (.lst []))) ∧ ∀ i m H, W i m H →
      ((Itl K a).stop i H ∧ Qd H) ∨ ((Itl K a).go i H ∧ ∃ Nx : Hp → Prop, (∀ H', Nx H' → ∃ m', m' < m ∧ W (i + 1) m' H') ∧ ∀ x H', (Itl K a).yld i H x H' → g x (wipe σ vs) H' fun σ2 H2 => wipe σ2 vs = wipe σ vs ∧ tt σ2 H2 fun b H3 =>
        if b = true then te σ2 H3 fun y H4 => ∃ acc, H4 D = some (.lst acc) ∧ acc.length < sizeLine ∧ Nx (upd H4 D (.lst (acc ++ [y]))) else Nx H3) := by
  refine lc_list (K := K) (a := a) (xs := xs.map V.str) (fun i H' => H' D = some (.lst (((xs.take i).filter f).map V.str)) ∧ Same H1 H') ⟨upd_same, same_upd hD⟩ (fun i H' _ ⟨_, h2⟩ => SqL.of (h2 _ _ ha)) ?_ ?_
  · rintro i x H' hx ⟨h1, h2⟩
    rw [List.getElem?_map] at hx
    obtain ⟨z, hz, rfl⟩ := Option.map_eq_some_iff.1 hx
    have step : xs.take (i + 1) = xs.take i ++ [z] := by rw [List.take_succ, hz]; rfl
    refine hs z H' (List.mem_of_getElem? hz) h2 _ _ (fun e => ⟨_, h1, ?_, ?_, fun b o eb => ?_⟩) (fun e => ⟨?_, h2⟩)
    · rw [List.length_map]
      exact small1000 (Nat.le_trans (Nat.le_trans (List.length_filter_le _ _) (List.length_take_le' _ _)) (by omega))
    · rw [upd_same, step, List.filter_append]
      simp [e]
    · rw [upd_ne (ne_of_none eb hD)]
      exact h2 _ _ eb
    · rw [step, List.filter_append]
      simpa [e] using h1
  · rintro H' ⟨h1, h2⟩
    rw [List.length_map, List.take_length] at h1
    exact hd H' h2 h1
end
end K2

end
-- K2OB
section
set_option Elab.async false
set_option linter.all false
set_option maxRecDepth 100000
set_option maxHeartbeats 4100000
namespace K2
open L2 PyProof.Rows PySem PySem.Spec TS
section
variable {base : Heap} {mg : Str → Option Value} {K : PySem.W.Frag} {w : World} {P : Program} {C fi fq fc fr : Addr}
abbrev nOth : List Str := ["_law_purse_here", "_law_world", "_law_books", "_law_row", "_law_fresh", "_law_size", "_law_first", "_law_second", "_law_found", "_law_letter", "_law_book"]
theorem scOth : FnScope nOth ["_law_purse_here", "_law_world"] (defScope sOthers) := ⟨rfl, rfl, rfl, by decide +kernel, rfl, by decide +kernel, by decide +kernel⟩
theorem PurseAt.put {H : Hp} {p L : Addr} {b : Int} {o : HO} (h : PurseAt H p b) (n : p ≠ L) : PurseAt (upd H L o) p b := by
  obtain ⟨p0, p1, p2, p3, hp, r⟩ := h
  exact ⟨p0, p1, p2, p3, by rw [upd_ne n]; exact hp, r⟩
theorem strs_refs {H : Hp} {L c : Addr} {ts : List Addr} {xs : List Str} (hL : H L = some (.lst (ts.map V.ref))) (big : 3 ≤ ts.length) (hc : H c = some (.lst (xs.map V.str))) : c ≠ L := by
  rintro rfl
  rw [hL] at hc
  cases ts with
  | nil => simp at big
  | cons t r =>
    cases xs with
    | nil => simp at hc
    | cons x s => simp at hc
theorem WOk.put {H : Hp} {L t : Addr} {ts : List Addr} {o : HO} (hL : H L = some (.lst (ts.map V.ref))) (big : 3 ≤ ts.length) : WOk H t → WOk (upd H L o) t := fun ⟨a, b, ⟨c, r, h1, h2, h3⟩, k⟩ => by
  refine ⟨a, b, ⟨c, r, ?_, ?_, ?_⟩, k⟩
  · rw [upd_ne]
    · exact h1
    · rintro rfl
      rw [hL] at h1
      injection h1 with h1
      injection h1 with h1
      have := congrArg List.length h1
      simp at this
      omega
  · rw [upd_ne (strs_refs hL big h2)]
    exact h2
  · rw [upd_ne (strs_refs hL big h3)]
    exact h3
theorem WsAt.mk {H : Hp} {L : Addr} {ts : List Addr} (hL : H L = some (.lst (ts.map V.ref))) (few : ts.length ≤ 20) (k : ∀ t ∈ ts, WOk H t) : WsAt H L := ⟨ts, hL, few, k⟩
theorem all_snoc {H : Hp} {ts : List Addr} {t : Addr} (h : ∀ x ∈ ts, WOk H x) (k : WOk H t) : ∀ x ∈ ts ++ [t], WOk H x := fun x hx => (List.mem_append.1 hx).elim (h x) fun q => by rw [List.mem_singleton.1 q]; exact k
theorem all_mono {H H' : Hp} {ts : List Addr} (e : Same H H') (h : ∀ x ∈ ts, WOk H x) : ∀ x ∈ ts, WOk H' x := fun x hx => (h x hx).mono e
theorem drop_filter {xs : List Str} {x0 : Str} (nd : xs.Nodup) (h : xs[0]? = some x0) : xs.filter (fun y => decide (y ≠ x0)) = xs.drop 1 := by
  cases xs with
  | nil => simp at h
  | cons x r =>
    have e : x = x0 := by simpa using h
    subst e
    rw [List.nodup_cons] at nd
    rw [List.filter_cons]
    simp only [ne_eq, not_true_eq_false, decide_false, Bool.false_eq_true, if_false, List.drop_succ_cons, List.drop_zero]
    rw [List.filter_eq_self]
    intro y hy
    simp only [decide_eq_true_eq]
    rintro rfl
    exact nd.1 hy
theorem Cat.drop {xs : List Str} (h : Cat xs) (hk : 2 ≤ xs.length) : Cat (xs.drop 1) := by
  obtain ⟨ne, few, words, nd⟩ := h
  refine ⟨fun e => ?_, Nat.le_trans (by rw [List.length_drop]; omega) few, fun x hx => words x (List.mem_of_mem_drop hx), nd.sublist (List.drop_sublist _ _)⟩
  have := congrArg List.length e
  rw [List.length_drop, List.length_nil] at this
  omega
theorem ok_others {f g1 g2 : Addr} {fd gd1 gd2 : FuncData} (F : Fun K "_law_others" "_law_others" sOthers f fd) (M : Mx mg) (so : mg "sorted" = none)
    (G1 : FnOk P w K mg base CX0 2 g1 gd1 ["_law_purse_here", "_law_many"] spDraw) (m1 : mg "_law_draw" = some (.ref g1)) (k1 : PySem.W.keepIn K (.ref g1) = true) (b1 : Binds K gd1 ["_law_purse_here", "_law_many"] [])
    (G2 : FnOk P w K mg base CX0 1 g2 gd2 ["_law_some", "_law_first", "_law_second"] spSwap) (m2 : mg "_law_swapped" = some (.ref g2)) (k2 : PySem.W.keepIn K (.ref g2) = true) (b2 : Binds K gd2 ["_law_some", "_law_first", "_law_second"] []) :
    FnOk P w K mg base CX0 3 f fd ["_law_purse_here", "_law_world"] spOthers := by
  refine F.ok scOth (fun vs H Q E h => ?_) (fun cdv A outer s H vs Q E hr h => ?_)
  · obtain ⟨p, w, b, xs, ys, rfl, _⟩ := h
    rfl
  · obtain ⟨p, w, b, xs, ys, rfl, hP, hb, wd, cat, row, n12, q⟩ := h
    have hr1 := hr.mono (show 1 ≤ 2 by decide)
    refine ⟨_, pss_cons (ps_asg (pv 1) (pg_unl rfl (pgs_cons (pg_name (i := 2) scOth.nd rfl (Or.inr rfl)) (pgs_cons (pg_name (i := 3) scOth.nd rfl (Or.inr rfl)) pgs_nil))))
      (pss_cons (ps_asg (pe_tup (pa_cons (pe_ix (ix_listK (K := K) rfl) (pe_lc (own := [("_law_letter", 9)]) (g := gName 9) rfl scOth.nd (pi_list (pe_callTy (call_listT rfl) (by rfl) M.list boot_listT (pa_cons pe_str pa_nil))) (blkOk_by (N := nOth) (sc := defScope sOthers) (by decide +kernel))
            (fun _ _ _ _ _ => pg_name (i := 9) scOth.nd rfl (Or.inl rfl)) (fun _ _ _ _ _ => pts_one (pt_cmpR (op_notIn_seqK (K := K) rfl) (pv 9) (pv 2) rfl)) (fun _ _ _ _ _ => pv 9)) pe_int (fun _ _ => rfl))
          (pa_cons (pe_callB call_len_seq (by rfl) M.len PySem.boot_len (pa_cons (pv 2) pa_nil)) pa_nil)))
        (pg_tup rfl (pgs_cons (pg_name (i := 4) scOth.nd rfl (Or.inr rfl)) (pgs_cons (pg_name (i := 5) scOth.nd rfl (Or.inl rfl)) pgs_nil))))
      (pss_cons (ps_par (i := 6) (j := 7) rfl scOth.nd rfl rfl (by decide) rfl rfl (pa_cons (pe_call G1 hr rfl m1 k1 b1 .nil pass0 (pa_cons (pv 0) (pa_cons (pv 5) pa_nil))) (pa_cons (pe_call G1 hr rfl m1 k1 b1 .nil pass0 (pa_cons (pv 0) (pa_cons (pv 5) pa_nil))) pa_nil)) rfl)
      (pss_cons (ps_set (i := 8) scOth.nd rfl (Or.inl rfl) (pe_lst (pa_cons (pe_lst (pa_cons (pv 2) (pa_cons (pe_revL (pv 3)) pa_nil))) (pa_cons (pe_lst (pa_cons (pe_revL (pv 2)) (pa_cons (pv 3) pa_nil)))
          (pa_cons (pe_lst (pa_cons (pv 3) (pa_cons (pv 2) pa_nil))) (pa_cons (pe_lst (pa_cons (pv 2) (pa_cons (pv 2) pa_nil))) (pa_cons (pe_lst (pa_cons (pv 3) (pa_cons (pv 3) pa_nil)))
          (pa_cons (pe_lst (pa_cons (pe_callB (cr_sortedSK (K := K) rfl) (by rfl) so (by decide +kernel) (pa_cons (pv 2) pa_nil)) (pa_cons (pv 3) pa_nil))) pa_nil))))))))
      (pss_cons (ps_set (i := 8) scOth.nd rfl (Or.inl rfl) (pe_op op_cat (pv 8) (pe_lst (pa_cons (pe_lst (pa_cons (pv 2) (pa_cons (pe_call G2 hr1 rfl m2 k2 b2 .nil pass0 (pa_cons (pv 3) (pa_cons (pv 6) (pa_cons (pv 7) pa_nil)))) pa_nil)))
          (pa_cons (pe_lst (pa_cons (pe_call G2 hr1 rfl m2 k2 b2 .nil pass0 (pa_cons (pv 2) (pa_cons (pv 6) (pa_cons (pv 7) pa_nil)))) (pa_cons (pv 3) pa_nil)))
          (pa_cons (pe_lst (pa_cons (pv 2) (pa_cons (pe_call G2 hr1 rfl m2 k2 b2 .nil pass0 (pa_cons (pv 3) (pa_cons pe_int (pa_cons (pe_op op_sub (pv 5) pe_int) pa_nil)))) pa_nil))) pa_nil))))))
      (pss_cons (ps_expr (pe_bm PySem.F.plainAttrs_list PySem.F.slot_list_append PySem.F.type_list_append mt_append (pv 8) (pa_cons (pe_lst
          (pa_cons (pe_lc (own := [("_law_book", 10)]) (g := gName 10) (tt := tYes) rfl scOth.nd (pi_list (pv 2)) (blkOk_by (N := nOth) (sc := defScope sOthers) (by decide +kernel)) (fun _ _ _ _ _ => pg_name (i := 10) scOth.nd rfl (Or.inl rfl)) (fun _ _ _ _ _ => pts_nil)
              (fun _ _ _ _ _ => pe_ifExp (pt_cmpR op_eq (pv 10) (pe_ix (ix_listK (K := K) rfl) (pv 2) pe_int (fun _ _ => rfl)) (nomark _)) (pv 4) (pv 10)))
          (pa_cons (pe_lc (own := [("_law_book", 10)]) (g := gName 10) (tt := tYes) rfl scOth.nd (pi_list (pv 3)) (blkOk_by (N := nOth) (sc := defScope sOthers) (by decide +kernel)) (fun _ _ _ _ _ => pg_name (i := 10) scOth.nd rfl (Or.inl rfl)) (fun _ _ _ _ _ => pts_nil)
              (fun _ _ _ _ _ => pe_ifExp (pt_cmpR op_eq (pv 10) (pe_ix (ix_listK (K := K) rfl) (pv 2) pe_int (fun _ _ => rfl)) (nomark _)) (pv 4) (pv 10))) pa_nil))) pa_nil)))
      (pss_cons (ps_expr (pe_bm PySem.F.plainAttrs_list PySem.F.slot_list_append PySem.F.type_list_append mt_append (pv 8) (pa_cons (pe_lst
          (pa_cons (pe_lc (own := [("_law_book", 10)]) (g := gName 10) (tt := tYes) rfl scOth.nd (pi_list (pv 2)) (blkOk_by (N := nOth) (sc := defScope sOthers) (by decide +kernel)) (fun _ _ _ _ _ => pg_name (i := 10) scOth.nd rfl (Or.inl rfl)) (fun _ _ _ _ _ => pts_nil)
              (fun _ _ _ _ _ => pe_ifExp (pt_cmpR op_eq (pv 10) (pe_ix (ix_listK (K := K) rfl) (pv 3) (pe_un un_neg pe_int) (fun _ _ => rfl)) (nomark _)) (pv 4) (pv 10)))
          (pa_cons (pe_lc (own := [("_law_book", 10)]) (g := gName 10) (tt := tYes) rfl scOth.nd (pi_list (pv 3)) (blkOk_by (N := nOth) (sc := defScope sOthers) (by decide +kernel)) (fun _ _ _ _ _ => pg_name (i := 10) scOth.nd rfl (Or.inl rfl)) (fun _ _ _ _ _ => pts_nil)
              (fun _ _ _ _ _ => pe_ifExp (pt_cmpR op_eq (pv 10) (pe_ix (ix_listK (K := K) rfl) (pv 3) (pe_un un_neg pe_int) (fun _ _ => rfl)) (nomark _)) (pv 4) (pv 10))) pa_nil))) pa_nil)))
      (pss_cons (ps_if (pt_cmpR op_gt (pv 5) pe_int (nomark _)) (pss_one (ps_expr (pe_bm PySem.F.plainAttrs_list PySem.F.slot_list_append PySem.F.type_list_append mt_append (pv 8) (pa_cons (pe_lst
          (pa_cons (pe_slice sl_list (pv 2) (po_some pe_int) po_none)
          (pa_cons (pe_lc (own := [("_law_book", 10)]) (g := gName 10) rfl scOth.nd (pi_list (pv 3)) (blkOk_by (N := nOth) (sc := defScope sOthers) (by decide +kernel)) (fun _ _ _ _ _ => pg_name (i := 10) scOth.nd rfl (Or.inl rfl))
              (fun _ _ _ _ _ => pts_one (pt_cmpR op_ne (pv 10) (pe_ix (ix_listK (K := K) rfl) (pv 2) pe_int (fun _ _ => rfl)) (nomark _))) (fun _ _ _ _ _ => pv 10)) pa_nil))) pa_nil)))) pss_nil)
      (pss_cons (ps_if (pt_cmpR op_lt (pv 5) pe_int (nomark _)) (pss_one (ps_set (i := 8) scOth.nd rfl (Or.inl rfl) (pe_op op_cat (pv 8) (pe_lst
          (pa_cons (pe_lst (pa_cons (pe_op op_cat (pv 2) (pe_lst (pa_cons (pv 4) pa_nil))) (pa_cons (pe_op op_cat (pv 3) (pe_lst (pa_cons (pv 4) pa_nil))) pa_nil)))
          (pa_cons (pe_lst (pa_cons (pe_op op_cat (pe_lst (pa_cons (pv 4) pa_nil)) (pv 2)) (pa_cons (pe_op op_cat (pv 3) (pe_lst (pa_cons (pv 4) pa_nil))) pa_nil))) pa_nil)))))) pss_nil)
      (pss_one (ps_ret (pv 8))))))))))), ?_⟩
    obtain ⟨c, r, hw, hc, hr'⟩ := id wd
    have few := cat.2.1
    have l1 := cat.head
    have pxy := row.toPerm cat
    have lyx := row.2.2
    have line2 : (2 : Nat) ≤ sizeLine := by decide +kernel
    have line20 : (20 : Nat) < sizeLine := by decide +kernel
    have line100 : (200 : Nat) < sizeLine := by decide +kernel
    refine ⟨_, rfl, w, _, rfl, SqL.of hw, rfl, _, _, rfl, _, _, rfl, rfl, ?_⟩
    -- a letter that is no book
    refine ⟨_, rfl, (by decide +kernel), fun q' nq => ?_⟩
    have s1 := same_upd (o := .lst ((signs abp).map V.str)) nq
    have hq' : (upd H q' (.lst ((signs abp).map V.str))) q' = some (.lst ((signs abp).map V.str)) := upd_same
    dsimp only
    generalize upd H q' (.lst ((signs abp).map V.str)) = H1 at s1 hq' ⊢
    refine ⟨q', rfl, ⟨_, SqL.of hq'⟩, fun D hD => ?_⟩
    refine lc_keep (K := K) (xs := signs abp) (fun y => decide (y ∉ xs)) hq' hD (by rw [abp_signs.1]; decide) ?_ ?_
    · intro z H' hz s Qk N k1 k2
      refine ⟨rfl, ?_⟩
      refine ⟨_, rfl, _, rfl, c, xs.map V.str, rfl, .inl (SqL.of (s _ _ (s1 _ _ hc))), rfl, flat_strs xs, _, rfl, ?_⟩
      rw [inV_strs]
      by_cases sy : z ∈ xs
      · rw [decide_eq_true sy]
        exact iteF (k2 (by simp [sy]))
      · rw [decide_eq_false sy]
        exact iteT ⟨_, rfl, k1 (by simp [sy])⟩
    intro H2 s2 hD2
    obtain ⟨fr, rest, efr⟩ : ∃ y r, ((signs abp).filter fun y => decide (y ∉ xs)) = y :: r := by
      cases e : (signs abp).filter fun y => decide (y ∉ xs) with
      | nil => exact absurd e (left_of abp_signs.2.1 (by rw [abp_signs.1]; omega))
      | cons y r => exact ⟨y, r, rfl⟩
    have hfr : fr ∈ (signs abp).filter fun y => decide (y ∉ xs) := by rw [efr]; exact List.mem_cons_self
    rw [List.mem_filter] at hfr
    have wfr : isWord fr := abp_signs.2.2 fr hfr.1
    have nfr : fr ∉ xs := by simpa using hfr.2
    rw [efr] at hD2
    have s02 := s1.trans s2
    refine ⟨D, _, 0, .str fr, rfl, rfl, SqL.of hD2, (show atI ((fr :: rest).map V.str) ((0 : Nat) : Int) = _ from atI_nat rfl), ?_⟩
    refine ⟨_, rfl, c, _, rfl, .inl (SqL.of (s02 _ _ hc)), line2, fun t nt => ?_⟩
    refine ⟨t, _, rfl, .inl (.inl upd_same), rfl, _, _, rfl, _, _, rfl, rfl, ?_⟩
    have s3 := s02.trans (same_upd (o := .tup [V.str fr, V.int (((xs.map V.str).length : Nat) : Int)]) nt)
    generalize upd H2 t (.tup [V.str fr, V.int (((xs.map V.str).length : Nat) : Int)]) = H3 at s3 ⊢
    have hn : (xs.map V.str).length = xs.length := List.length_map _
    rw [hn]
    -- two draws
    refine ⟨_, rfl, _, rfl, p, xs.length, b, rfl, l1, by omega, hP.same s3, by omega, fun H4 r1 hr1' hP4 hc4 => ?_⟩
    refine ⟨_, rfl, _, rfl, p, xs.length, b + 1, rfl, l1, by omega, hP4, by omega, fun H5 r2 hr2' hP5 hc5 => ?_⟩
    refine ⟨_, _, rfl, ?_⟩
    have but5 : But p H H5 := fun a o n e => (hc5 a n).trans ((hc4 a n).trans (s3 _ _ e))
    have hc5 := but5 c _ (hP.ne hc).symm hc
    have hr5 := but5 r _ (hP.ne hr').symm hr'
    -- world 1
    refine ⟨_, rfl, _, rfl, r, _, rfl, SqL.of hr5, fun p1 n1 => ⟨line2, fun w1 m1 => ?_⟩⟩
    have e1' := same_upd (o := .lst (ys.map V.str).reverse) n1
    have k1 := wok (xs := xs) (xs' := xs) (ys' := ys.reverse) cat (e1' _ _ hc5) (by rw [upd_same, List.map_reverse]) m1 (.refl _) ((List.reverse_perm ys).trans pxy)
    have e1 := e1'.trans (same_upd (o := .lst [V.ref c, V.ref p1]) m1)
    generalize upd (upd H5 p1 (.lst (ys.map V.str).reverse)) w1 (.lst [V.ref c, V.ref p1]) = G1 at k1 e1 ⊢
    have hc_1 := e1 _ _ hc5
    have hr_1 := e1 _ _ hr5
    -- world 2
    refine ⟨_, rfl, c, _, rfl, SqL.of hc_1, fun p2 n2 => ⟨_, rfl, line2, fun w2 m2 => ?_⟩⟩
    have e2' := same_upd (o := .lst (xs.map V.str).reverse) n2
    have k2 := wok (xs := xs) (xs' := xs.reverse) (ys' := ys) cat (by rw [upd_same, List.map_reverse]) (e2' _ _ hr_1) m2 (List.reverse_perm xs) pxy
    have e2 := e2'.trans (same_upd (o := .lst [V.ref p2, V.ref r]) m2)
    generalize upd (upd G1 p2 (.lst (xs.map V.str).reverse)) w2 (.lst [V.ref p2, V.ref r]) = G2 at k2 e2 ⊢
    have hc_2 := e2 _ _ hc_1
    have hr_2 := e2 _ _ hr_1
    -- world 3
    refine ⟨_, rfl, _, rfl, line2, fun w3 m3 => ?_⟩
    have k3 := wok (xs := xs) (xs' := ys) (ys' := xs) cat hr_2 hc_2 m3 pxy (.refl _)
    have e3 := same_upd (o := .lst [V.ref r, V.ref c]) m3
    generalize upd G2 w3 (.lst [V.ref r, V.ref c]) = G3 at k3 e3 ⊢
    have hc_3 := e3 _ _ hc_2
    have hr_3 := e3 _ _ hr_2
    -- world 4
    refine ⟨_, rfl, _, rfl, line2, fun w4 m4 => ?_⟩
    have k4 := wok (xs := xs) (xs' := xs) (ys' := xs) cat hc_3 hc_3 m4 (.refl _) (.refl _)
    have e4 := same_upd (o := .lst [V.ref c, V.ref c]) m4
    generalize upd G3 w4 (.lst [V.ref c, V.ref c]) = G4 at k4 e4 ⊢
    have hc_4 := e4 _ _ hc_3
    have hr_4 := e4 _ _ hr_3
    -- world 5
    refine ⟨_, rfl, _, rfl, line2, fun w5 m5 => ?_⟩
    have k5 := wok (xs := xs) (xs' := ys) (ys' := ys) cat hr_4 hr_4 m5 pxy pxy
    have e5 := same_upd (o := .lst [V.ref r, V.ref r]) m5
    generalize upd G4 w5 (.lst [V.ref r, V.ref r]) = G5 at k5 e5 ⊢
    have hc_5 := e5 _ _ hc_4
    have hr_5 := e5 _ _ hr_4
    -- world 6
    refine ⟨_, rfl, c, xs, rfl, SqL.of hc_5, by omega, fun zs6 p6 pm6 _ n6 => ⟨_, rfl, line2, fun w6 m6 => ?_⟩⟩
    have e6' := same_upd (o := .lst (zs6.map V.str)) n6
    have k6 := wok (xs := xs) (xs' := zs6) (ys' := ys) cat upd_same (e6' _ _ hr_5) m6 pm6 pxy
    have e6 := e6'.trans (same_upd (o := .lst [V.ref p6, V.ref r]) m6)
    generalize upd (upd G5 p6 (.lst (zs6.map V.str))) w6 (.lst [V.ref p6, V.ref r]) = G6 at k6 e6 ⊢
    have hc_6 := e6 _ _ hc_5
    have hr_6 := e6 _ _ hr_5
    have ws6 : ∀ x ∈ [w1, w2, w3, w4, w5, w6], WOk G6 x := by
      intro x hx
      simp only [List.mem_cons, List.not_mem_nil, or_false] at hx
      rcases hx with rfl | rfl | rfl | rfl | rfl | rfl
      · exact ((((k1.mono e2).mono e3).mono e4).mono e5).mono e6
      · exact (((k2.mono e3).mono e4).mono e5).mono e6
      · exact ((k3.mono e4).mono e5).mono e6
      · exact (k4.mono e5).mono e6
      · exact k5.mono e6
      · exact k6
    have e06 : Same H5 G6 := ((((e1.trans e2).trans e3).trans e4).trans e5).trans e6
    have but6 : But p H G6 := but5.trans (But.same e06)
    have hP6 := (hP5.same e06)
    clear k1 k2 k3 k4 k5 k6 e1 e2 e3 e4 e5 e6
    refine ⟨by show 6 ≤ sizeLine; omega, fun f1 nf1 => ?_⟩
    have e7 := same_upd (o := .lst [V.ref w1, V.ref w2, V.ref w3, V.ref w4, V.ref w5, V.ref w6]) nf1
    have hf1 : (upd G6 f1 (.lst [V.ref w1, V.ref w2, V.ref w3, V.ref w4, V.ref w5, V.ref w6])) f1 = some (.lst ([w1, w2, w3, w4, w5, w6].map V.ref)) := upd_same
    generalize upd G6 f1 (.lst [V.ref w1, V.ref w2, V.ref w3, V.ref w4, V.ref w5, V.ref w6]) = G7 at e7 hf1 ⊢
    have ws7 := all_mono e7 ws6
    have hc7 := e7 _ _ hc_6
    have hr7 := e7 _ _ hr_6
    have but7 := but6.trans (But.same e7)
    have hP7 := hP6.same e7
    clear ws6 e7 hc_6 hr_6 but6 hP6
    have l7 : [w1, w2, w3, w4, w5, w6].length = 6 := rfl
    generalize [w1, w2, w3, w4, w5, w6] = ts7 at hf1 ws7 l7
    refine g_set (σ' := [some (.ref p), some (.ref w), some (.ref c), some (.ref r), some (.str fr), some (.int ((xs.length : Nat) : Int)), some (.int ((r1 : Nat) : Int)), some (.int ((r2 : Nat) : Int)), some (.ref f1), none, none]) rfl ?_
    -- world 7
    refine ⟨_, rfl, _, rfl, _, rfl, _, rfl, _, rfl, r, r1, r2, ys, rfl, hr7, by omega, by omega, by omega, fun G8 p7 zs7 e8 _ hp7 pm7 => ⟨line2, fun w7 m7 => ?_⟩⟩
    have k7 := wok (xs := xs) (xs' := xs) (ys' := zs7) cat (e8 _ _ hc7) hp7 m7 (.refl _) (pm7.trans pxy)
    have e9 := e8.trans (same_upd (o := .lst [V.ref c, V.ref p7]) m7)
    generalize upd G8 w7 (.lst [V.ref c, V.ref p7]) = G9 at k7 e9 ⊢
    have ws9 := all_mono e9 ws7
    have hc9 := e9 _ _ hc7
    have hr9 := e9 _ _ hr7
    have hf9 := e9 _ _ hf1
    have but9 := but7.trans (But.same e9)
    have hP9 := hP7.same e9
    clear ws7 hc7 hr7 hf1 but7 hP7 e8 e9 hp7 m7
    -- world 8
    refine ⟨_, rfl, _, rfl, _, rfl, c, r1, r2, xs, rfl, hc9, by omega, by omega, by omega, fun G10 p8 zs8 e10 _ hp8 pm8 => ⟨_, rfl, line2, fun w8 m8 => ?_⟩⟩
    have k8 := wok (xs := xs) (xs' := zs8) (ys' := ys) cat hp8 (e10 _ _ hr9) m8 pm8 pxy
    have e11 := e10.trans (same_upd (o := .lst [V.ref p8, V.ref r]) m8)
    generalize upd G10 w8 (.lst [V.ref p8, V.ref r]) = G11 at k8 e11 ⊢
    have ws11 := all_mono e11 ws9
    have k7 := k7.mono e11
    have hc11 := e11 _ _ hc9
    have hr11 := e11 _ _ hr9
    have hf11 := e11 _ _ hf9
    have but11 := but9.trans (But.same e11)
    have hP11 := hP9.same e11
    clear ws9 hc9 hr9 hf9 but9 hP9 e10 e11 hp8 m8
    -- world 9
    refine ⟨_, rfl, _, rfl, _, rfl, _, _, rfl, rfl, r, 0, xs.length - 1, ys, (by show [V.ref r, V.int 0, V.int ((xs.length : Int) - 1)] = _; rw [show ((xs.length : Nat) : Int) - 1 = ((xs.length - 1 : Nat) : Int) by omega]; rfl), hr11, by omega, by omega, by omega, fun G12 p9 zs9 e12 _ hp9 pm9 => ⟨line2, fun w9 m9 => ?_⟩⟩
    have k9 := wok (xs := xs) (xs' := xs) (ys' := zs9) cat (e12 _ _ hc11) hp9 m9 (.refl _) (pm9.trans pxy)
    have e13 := e12.trans (same_upd (o := .lst [V.ref c, V.ref p9]) m9)
    generalize upd G12 w9 (.lst [V.ref c, V.ref p9]) = G13 at k9 e13 ⊢
    have ws13 := all_mono e13 ws11
    have k7 := k7.mono e13
    have k8 := k8.mono e13
    have hc13 := e13 _ _ hc11
    have hr13 := e13 _ _ hr11
    have hf13 := e13 _ _ hf11
    have but13 := but11.trans (But.same e13)
    have hP13 := hP11.same e13
    clear ws11 hc11 hr11 hf11 but11 hP11 e12 e13 hp9 m9
    refine ⟨by show 3 ≤ sizeLine; omega, fun u nu => ?_⟩
    have e14' := same_upd (o := .lst [V.ref w7, V.ref w8, V.ref w9]) nu
    refine ⟨f1, u, _, _, rfl, rfl, e14' _ _ hf13, upd_same, by rw [List.length_map, l7]; show 9 ≤ sizeLine; omega, fun L nL => ?_⟩
    have e14 := e14'.trans (same_upd (o := .lst (ts7.map V.ref ++ [V.ref w7, V.ref w8, V.ref w9])) nL)
    have hL : (upd (upd G13 u (.lst [V.ref w7, V.ref w8, V.ref w9])) L (.lst (ts7.map V.ref ++ [V.ref w7, V.ref w8, V.ref w9]))) L = some (.lst ((ts7 ++ [w7, w8, w9]).map V.ref)) := by
      rw [upd_same, List.map_append]
      rfl
    have nLH : H L = none := by
      have z := none_under e14' nL
      exact but13.free hP.at z hP13.at
    generalize upd (upd G13 u (.lst [V.ref w7, V.ref w8, V.ref w9])) L (.lst (ts7.map V.ref ++ [V.ref w7, V.ref w8, V.ref w9])) = G14 at e14 hL ⊢
    have ws14 : ∀ x ∈ ts7 ++ [w7, w8, w9], WOk G14 x := by
      intro x hx
      rcases List.mem_append.1 hx with h | h
      · exact (ws13 x h).mono e14
      · simp only [List.mem_cons, List.not_mem_nil, or_false] at h
        rcases h with rfl | rfl | rfl
        · exact k7.mono e14
        · exact k8.mono e14
        · exact k9.mono e14
    have l9 : (ts7 ++ [w7, w8, w9]).length = 9 := by rw [List.length_append, l7]; rfl
    generalize ts7 ++ [w7, w8, w9] = ts9 at hL ws14 l9
    have hc14 := e14 _ _ hc13
    have hr14 := e14 _ _ hr13
    have but14 := but13.trans (But.same e14)
    have hP14 := hP13.same e14
    clear ws13 k7 k8 k9 hc13 hr13 hf13 but13 hP13 e14 e14' nu nL
    -- world 10
    refine g_set (σ' := [some (.ref p), some (.ref w), some (.ref c), some (.ref r), some (.str fr), some (.int ((xs.length : Nat) : Int)), some (.int ((r1 : Nat) : Int)), some (.int ((r2 : Nat) : Int)), some (.ref L), none, none]) rfl ?_
    obtain ⟨x0, ex0⟩ : ∃ x0, xs[0]? = some x0 := ⟨_, List.getElem?_eq_getElem (by omega)⟩
    have at0 : atI (xs.map V.str) 0 = some (.str x0) := atI_nat (j := 0) (by rw [List.getElem?_map, ex0]; rfl)
    have lts9 := l9
    have npL : p ≠ L := by
      obtain ⟨o, e⟩ := hP.at
      exact ne_of_none e nLH
    refine ⟨_, rfl, .inl ⟨rfl, _, SqL.of hL⟩, ?_⟩
    refine ⟨_, rfl, c, rfl, ⟨_, SqL.of hc14⟩, fun D10 hD10 => ?_⟩
    refine lc_map (K := K) (named x0 fr) hc14 hD10 (by omega) ?_ ?_
    · intro z H' hz s Qk k
      refine ⟨rfl, ?_⟩
      refine ⟨_, rfl, _, rfl, c, _, 0, .str x0, rfl, rfl, SqL.of (s _ _ hc14), at0, rfl, _, rfl, ?_⟩
      unfold named at k
      by_cases e : z = x0
      · rw [if_pos e] at k
        rw [decide_eq_true (congrArg V.str e)]
        exact iteT ⟨_, rfl, k⟩
      · rw [if_neg e] at k
        rw [decide_eq_false (fun q => e (V.str.inj q))]
        exact iteF ⟨_, rfl, k⟩
    intro A10 a10 hA10
    refine ⟨_, rfl, r, rfl, ⟨_, SqL.of (a10 _ _ hr14)⟩, fun E10 hE10 => ?_⟩
    refine lc_map (K := K) (named x0 fr) (a10 _ _ hr14) hE10 (by omega) ?_ ?_
    · intro z H' hz s Qk k
      refine ⟨rfl, ?_⟩
      refine ⟨_, rfl, _, rfl, c, _, 0, .str x0, rfl, rfl, SqL.of (s _ _ <| a10 _ _ hc14), at0, rfl, _, rfl, ?_⟩
      unfold named at k
      by_cases e : z = x0
      · rw [if_pos e] at k
        rw [decide_eq_true (congrArg V.str e)]
        exact iteT ⟨_, rfl, k⟩
      · rw [if_neg e] at k
        rw [decide_eq_false (fun q => e (V.str.inj q))]
        exact iteF ⟨_, rfl, k⟩
    intro B10 b10 hB10
    have catn10 := cat_named (z := x0) cat wfr nfr
    refine ⟨line2, fun w10 m10 => ?_⟩
    have k10 := wok (xs := xs.map (named x0 fr)) (xs' := xs.map (named x0 fr)) (ys' := ys.map (named x0 fr)) catn10 (b10 _ _ hA10) hB10 m10 (.refl _) (pxy.map _)
    have g10 := (a10.trans b10).trans (same_upd (o := .lst [V.ref D10, V.ref E10]) m10)
    generalize upd B10 w10 (.lst [V.ref D10, V.ref E10]) = F10 at k10 g10 ⊢
    have hLF10 := g10 _ _ hL
    refine ⟨L, _, _, rfl, rfl, hLF10, by rw [List.length_map, lts9]; exact Nat.lt_of_le_of_lt (by decide) line20, ?_⟩
    have wsF10 := all_mono g10 ws14
    have hcF10 := g10 _ _ hc14
    have hrF10 := g10 _ _ hr14
    have butF10 := but14.trans (But.same g10)
    have hPF10 := hP14.same g10
    have hLK10 : (upd F10 L (.lst (ts9.map V.ref ++ [V.ref w10]))) L = some (.lst ((ts9 ++ [w10]).map V.ref)) := by
      rw [upd_same, List.map_append]
      rfl
    have wsK10 : ∀ x ∈ ts9 ++ [w10], WOk (upd F10 L (.lst (ts9.map V.ref ++ [V.ref w10]))) x := all_snoc (fun x hx => (wsF10 x hx).put hLF10 (by omega)) (k10.put hLF10 (by omega))
    have hcK10 : (upd F10 L (.lst (ts9.map V.ref ++ [V.ref w10]))) c = some (.lst (xs.map V.str)) := by
      rw [upd_ne (strs_refs hLF10 (by omega) hcF10)]
      exact hcF10
    have hrK10 : (upd F10 L (.lst (ts9.map V.ref ++ [V.ref w10]))) r = some (.lst (ys.map V.str)) := by
      rw [upd_ne (strs_refs hLF10 (by omega) hrF10)]
      exact hrF10
    have butK10 : But p H (upd F10 L (.lst (ts9.map V.ref ++ [V.ref w10]))) := fun a o n e => by
      rw [upd_ne (ne_of_none e nLH)]
      exact butF10 a o n e
    have hPK10 : PurseAt (upd F10 L (.lst (ts9.map V.ref ++ [V.ref w10]))) p (b + 1 + 1) := hPF10.put npL
    have lK10 : (ts9 ++ [w10]).length = 9 + 1 := by rw [List.length_append, lts9]; rfl
    generalize upd F10 L (.lst (ts9.map V.ref ++ [V.ref w10])) = K10 at hLK10 wsK10 hcK10 hrK10 butK10 hPK10 ⊢
    generalize ts9 ++ [w10] = ts10 at hLK10 wsK10 lK10
    have lts10 := lK10
    clear ws14 hc14 hr14 but14 hP14 wsF10 hcF10 hrF10 butF10 hPF10 hLF10 k10 g10 a10 b10 hA10 hB10 m10
    -- world 11
    obtain ⟨ys0, zl, eys⟩ : ∃ ys0 zl, ys = ys0 ++ [zl] := by
      rcases List.eq_nil_or_concat ys with e | ⟨a, z, e⟩
      · rw [e] at lyx; simp at lyx; omega
      · exact ⟨a, z, by rw [e]; simp⟩
    have atl : atI (ys.map V.str) (-1) = some (.str zl) := by
      rw [eys, List.map_append]
      exact atI_last _ _
    refine ⟨_, rfl, .inl ⟨rfl, _, SqL.of hLK10⟩, ?_⟩
    refine ⟨_, rfl, c, rfl, ⟨_, SqL.of hcK10⟩, fun D11 hD11 => ?_⟩
    refine lc_map (K := K) (named zl fr) hcK10 hD11 (by omega) ?_ ?_
    · intro z H' hz s Qk k
      refine ⟨rfl, ?_⟩
      refine ⟨_, rfl, _, rfl, _, rfl, r, _, _, .str zl, rfl, rfl, SqL.of (s _ _ hrK10), atl, rfl, _, rfl, ?_⟩
      unfold named at k
      by_cases e : z = zl
      · rw [if_pos e] at k
        rw [decide_eq_true (congrArg V.str e)]
        exact iteT ⟨_, rfl, k⟩
      · rw [if_neg e] at k
        rw [decide_eq_false (fun q => e (V.str.inj q))]
        exact iteF ⟨_, rfl, k⟩
    intro A11 a11 hA11
    refine ⟨_, rfl, r, rfl, ⟨_, SqL.of (a11 _ _ hrK10)⟩, fun E11 hE11 => ?_⟩
    refine lc_map (K := K) (named zl fr) (a11 _ _ hrK10) hE11 (by omega) ?_ ?_
    · intro z H' hz s Qk k
      refine ⟨rfl, ?_⟩
      refine ⟨_, rfl, _, rfl, _, rfl, r, _, _, .str zl, rfl, rfl, SqL.of (s _ _ <| a11 _ _ hrK10), atl, rfl, _, rfl, ?_⟩
      unfold named at k
      by_cases e : z = zl
      · rw [if_pos e] at k
        rw [decide_eq_true (congrArg V.str e)]
        exact iteT ⟨_, rfl, k⟩
      · rw [if_neg e] at k
        rw [decide_eq_false (fun q => e (V.str.inj q))]
        exact iteF ⟨_, rfl, k⟩
    intro B11 b11 hB11
    have catn11 := cat_named (z := zl) cat wfr nfr
    refine ⟨line2, fun w11 m11 => ?_⟩
    have k11 := wok (xs := xs.map (named zl fr)) (xs' := xs.map (named zl fr)) (ys' := ys.map (named zl fr)) catn11 (b11 _ _ hA11) hB11 m11 (.refl _) (pxy.map _)
    have g11 := (a11.trans b11).trans (same_upd (o := .lst [V.ref D11, V.ref E11]) m11)
    generalize upd B11 w11 (.lst [V.ref D11, V.ref E11]) = F11 at k11 g11 ⊢
    have hLF11 := g11 _ _ hLK10
    refine ⟨L, _, _, rfl, rfl, hLF11, by rw [List.length_map, lts10]; exact Nat.lt_of_le_of_lt (by decide) line20, ?_⟩
    have wsF11 := all_mono g11 wsK10
    have hcF11 := g11 _ _ hcK10
    have hrF11 := g11 _ _ hrK10
    have butF11 := butK10.trans (But.same g11)
    have hPF11 := hPK10.same g11
    have hLK11 : (upd F11 L (.lst (ts10.map V.ref ++ [V.ref w11]))) L = some (.lst ((ts10 ++ [w11]).map V.ref)) := by
      rw [upd_same, List.map_append]
      rfl
    have wsK11 : ∀ x ∈ ts10 ++ [w11], WOk (upd F11 L (.lst (ts10.map V.ref ++ [V.ref w11]))) x := all_snoc (fun x hx => (wsF11 x hx).put hLF11 (by omega)) (k11.put hLF11 (by omega))
    have hcK11 : (upd F11 L (.lst (ts10.map V.ref ++ [V.ref w11]))) c = some (.lst (xs.map V.str)) := by
      rw [upd_ne (strs_refs hLF11 (by omega) hcF11)]
      exact hcF11
    have hrK11 : (upd F11 L (.lst (ts10.map V.ref ++ [V.ref w11]))) r = some (.lst (ys.map V.str)) := by
      rw [upd_ne (strs_refs hLF11 (by omega) hrF11)]
      exact hrF11
    have butK11 : But p H (upd F11 L (.lst (ts10.map V.ref ++ [V.ref w11]))) := fun a o n e => by
      rw [upd_ne (ne_of_none e nLH)]
      exact butF11 a o n e
    have hPK11 : PurseAt (upd F11 L (.lst (ts10.map V.ref ++ [V.ref w11]))) p (b + 1 + 1) := hPF11.put npL
    have lK11 : (ts10 ++ [w11]).length = 10 + 1 := by rw [List.length_append, lts10]; rfl
    generalize upd F11 L (.lst (ts10.map V.ref ++ [V.ref w11])) = K11 at hLK11 wsK11 hcK11 hrK11 butK11 hPK11 ⊢
    generalize ts10 ++ [w11] = ts11 at hLK11 wsK11 lK11
    have lts11 := lK11
    clear wsK10 hcK10 hrK10 butK10 hPK10 wsF11 hcF11 hrF11 butF11 hPF11 hLF11 k11 g11 a11 b11 hA11 hB11 m11
    refine ⟨_, rfl, _, _, rfl, rfl, _, rfl, ?_⟩
    have catm : Cat (xs ++ [fr]) := cat.more (by omega) wfr nfr
    have line1 : (1 : Nat) ≤ sizeLine := by omega
    by_cases big : 1 < xs.length
    · rw [decide_eq_true (show (1 : Int) < ((xs.length : Nat) : Int) by omega)]
      refine iteT ?_
      refine ⟨_, rfl, .inl ⟨rfl, _, SqL.of hLK11⟩, ?_⟩
      refine ⟨_, rfl, 1, rfl, c, _, rfl, SqL.of hcK11, fun D12 hD12 => ?_⟩
      have a12 := same_upd (o := .lst (cutV (xs.map V.str) (some (1 : Int)) none)) hD12
      have hA12 : (upd K11 D12 (.lst (cutV (xs.map V.str) (some (1 : Int)) none))) D12 = some (.lst ((xs.drop 1).map V.str)) := by rw [upd_same, cut_rest l1]
      generalize upd K11 D12 (.lst (cutV (xs.map V.str) (some (1 : Int)) none)) = A12 at a12 hA12 ⊢
      refine ⟨_, rfl, r, rfl, ⟨_, SqL.of (a12 _ _ hrK11)⟩, fun E12 hE12 => ?_⟩
      refine lc_keep (K := K) (fun y => decide (y ≠ x0)) (a12 _ _ hrK11) hE12 (by omega) ?_ ?_
      · intro z H' hz s Qk N k1 k2
        refine ⟨rfl, ?_⟩
        refine ⟨_, rfl, _, rfl, c, _, 0, .str x0, rfl, rfl, SqL.of (s _ _ <| a12 _ _ hcK11), at0, rfl, _, rfl, ?_⟩
        by_cases e : z = x0
        · rw [decide_eq_true (congrArg V.str e)]
          exact iteF (k2 (by simp [e]))
        · rw [decide_eq_false (fun q => e (V.str.inj q))]
          exact iteT ⟨_, rfl, k1 (by simp [e])⟩
      intro B12 b12 hB12
      refine ⟨line2, fun w12 m12 => ?_⟩
      have k12 := wok (xs := xs.drop 1) (xs' := xs.drop 1) (ys' := ys.filter fun y => decide (y ≠ x0)) (cat.drop big) (b12 _ _ hA12) hB12 m12 (.refl _) (by rw [← drop_filter cat.2.2.2 ex0]; exact pxy.filter _)
      have g12 := (a12.trans b12).trans (same_upd (o := .lst [V.ref D12, V.ref E12]) m12)
      generalize upd B12 w12 (.lst [V.ref D12, V.ref E12]) = F12 at k12 g12 ⊢
      have hLF12 := g12 _ _ hLK11
      refine ⟨L, _, _, rfl, rfl, hLF12, by rw [List.length_map, lts11]; exact Nat.lt_of_le_of_lt (by decide) line20, ?_⟩
      have wsF12 := all_mono g12 wsK11
      have hcF12 := g12 _ _ hcK11
      have hrF12 := g12 _ _ hrK11
      have butF12 := butK11.trans (But.same g12)
      have hPF12 := hPK11.same g12
      have hLK12 : (upd F12 L (.lst (ts11.map V.ref ++ [V.ref w12]))) L = some (.lst ((ts11 ++ [w12]).map V.ref)) := by
        rw [upd_same, List.map_append]
        rfl
      have wsK12 : ∀ x ∈ ts11 ++ [w12], WOk (upd F12 L (.lst (ts11.map V.ref ++ [V.ref w12]))) x := all_snoc (fun x hx => (wsF12 x hx).put hLF12 (by omega)) (k12.put hLF12 (by omega))
      have hcK12 : (upd F12 L (.lst (ts11.map V.ref ++ [V.ref w12]))) c = some (.lst (xs.map V.str)) := by
        rw [upd_ne (strs_refs hLF12 (by omega) hcF12)]
        exact hcF12
      have hrK12 : (upd F12 L (.lst (ts11.map V.ref ++ [V.ref w12]))) r = some (.lst (ys.map V.str)) := by
        rw [upd_ne (strs_refs hLF12 (by omega) hrF12)]
        exact hrF12
      have butK12 : But p H (upd F12 L (.lst (ts11.map V.ref ++ [V.ref w12]))) := fun a o n e => by
        rw [upd_ne (ne_of_none e nLH)]
        exact butF12 a o n e
      have hPK12 : PurseAt (upd F12 L (.lst (ts11.map V.ref ++ [V.ref w12]))) p (b + 1 + 1) := hPF12.put npL
      have lK12 : (ts11 ++ [w12]).length = 11 + 1 := by rw [List.length_append, lts11]; rfl
      generalize upd F12 L (.lst (ts11.map V.ref ++ [V.ref w12])) = K12 at hLK12 wsK12 hcK12 hrK12 butK12 hPK12 ⊢
      generalize ts11 ++ [w12] = ts12 at hLK12 wsK12 lK12
      have lts12 := lK12
      refine ⟨_, rfl, _, _, rfl, rfl, _, rfl, ?_⟩
      by_cases small : xs.length < 12
      · rw [decide_eq_true (show ((xs.length : Nat) : Int) < 12 by omega)]
        refine iteT ?_
        refine ⟨_, rfl, ?_⟩
        -- the new one at the end of both
        refine ⟨_, rfl, _, rfl, line1, fun u1 v1 => ?_⟩
        refine ⟨c, u1, _, _, rfl, rfl, same_upd v1 _ _ hcK12, upd_same, by rw [List.length_map]; show xs.length + 1 ≤ sizeLine; omega, fun n1 o1 => ?_⟩
        have a1 := (same_upd (o := .lst [V.str fr]) v1).trans (same_upd (o := .lst (xs.map V.str ++ [V.str fr])) o1)
        have hn1 : (upd (upd K12 u1 (.lst [V.str fr])) n1 (.lst (xs.map V.str ++ [V.str fr]))) n1 = some (.lst ((xs ++ [fr]).map V.str)) := by
          rw [upd_same, List.map_append]
          rfl
        generalize upd (upd K12 u1 (.lst [V.str fr])) n1 (.lst (xs.map V.str ++ [V.str fr])) = A1 at a1 hn1 ⊢
        refine ⟨_, rfl, _, rfl, line1, fun u2 v2 => ?_⟩
        refine ⟨r, u2, _, _, rfl, rfl, same_upd v2 _ _ (a1 _ _ hrK12), upd_same, by rw [List.length_map]; show ys.length + 1 ≤ sizeLine; omega, fun n2 o2 => ?_⟩
        have a2 := (same_upd (o := .lst [V.str fr]) v2).trans (same_upd (o := .lst (ys.map V.str ++ [V.str fr])) o2)
        have hn2 : (upd (upd A1 u2 (.lst [V.str fr])) n2 (.lst (ys.map V.str ++ [V.str fr]))) n2 = some (.lst ((ys ++ [fr]).map V.str)) := by
          rw [upd_same, List.map_append]
          rfl
        generalize upd (upd A1 u2 (.lst [V.str fr])) n2 (.lst (ys.map V.str ++ [V.str fr])) = A2 at a2 hn2 ⊢
        refine ⟨line2, fun w13 m13 => ?_⟩
        have k13 := wok (xs := xs ++ [fr]) (xs' := xs ++ [fr]) (ys' := ys ++ [fr]) catm (a2 _ _ hn1) hn2 m13 (.refl _) (pxy.append_right _)
        have a3 := (a1.trans a2).trans (same_upd (o := .lst [V.ref n1, V.ref n2]) m13)
        generalize upd A2 w13 (.lst [V.ref n1, V.ref n2]) = A3 at a3 k13 ⊢
        -- ahead of the catalogue
        refine ⟨_, rfl, line1, fun u3 v3 => ⟨_, rfl, ?_⟩⟩
        refine ⟨u3, c, _, _, rfl, rfl, upd_same, same_upd v3 _ _ (a3 _ _ hcK12), by rw [List.length_map]; show 1 + xs.length ≤ sizeLine; omega, fun n3 o3 => ?_⟩
        have a4 := (same_upd (o := .lst [V.str fr]) v3).trans (same_upd (o := .lst ([V.str fr] ++ xs.map V.str)) o3)
        have hn3 : (upd (upd A3 u3 (.lst [V.str fr])) n3 (.lst ([V.str fr] ++ xs.map V.str))) n3 = some (.lst (([fr] ++ xs).map V.str)) := by
          rw [upd_same]
          rfl
        generalize upd (upd A3 u3 (.lst [V.str fr])) n3 (.lst ([V.str fr] ++ xs.map V.str)) = A4 at a4 hn3 ⊢
        refine ⟨_, rfl, _, rfl, line1, fun u4 v4 => ?_⟩
        refine ⟨r, u4, _, _, rfl, rfl, same_upd v4 _ _ (a4 _ _ (a3 _ _ hrK12)), upd_same, by rw [List.length_map]; show ys.length + 1 ≤ sizeLine; omega, fun n4 o4 => ?_⟩
        have a5 := (same_upd (o := .lst [V.str fr]) v4).trans (same_upd (o := .lst (ys.map V.str ++ [V.str fr])) o4)
        have hn4 : (upd (upd A4 u4 (.lst [V.str fr])) n4 (.lst (ys.map V.str ++ [V.str fr]))) n4 = some (.lst ((ys ++ [fr]).map V.str)) := by
          rw [upd_same, List.map_append]
          rfl
        generalize upd (upd A4 u4 (.lst [V.str fr])) n4 (.lst (ys.map V.str ++ [V.str fr])) = A5 at a5 hn4 ⊢
        refine ⟨line2, fun w14 m14 => ?_⟩
        have k14 := wok (xs := xs ++ [fr]) (xs' := [fr] ++ xs) (ys' := ys ++ [fr]) catm (a5 _ _ hn3) hn4 m14 List.perm_append_comm (pxy.append_right _)
        have a6 := (a4.trans a5).trans (same_upd (o := .lst [V.ref n3, V.ref n4]) m14)
        generalize upd A5 w14 (.lst [V.ref n3, V.ref n4]) = A6 at a6 k14 ⊢
        refine ⟨line2, fun u5 v5 => ?_⟩
        have a7 := (a3.trans a6).trans (same_upd (o := .lst [V.ref w13, V.ref w14]) v5)
        refine ⟨L, u5, _, _, rfl, rfl, a7 _ _ hLK12, upd_same, by rw [List.length_map, lts12]; show 12 + 2 ≤ sizeLine; omega, fun M1 nM1 => ?_⟩
        have a8 := a7.trans (same_upd (o := .lst (ts12.map V.ref ++ [V.ref w13, V.ref w14])) nM1)
        have hM1 : (upd (upd A6 u5 (.lst [V.ref w13, V.ref w14])) M1 (.lst (ts12.map V.ref ++ [V.ref w13, V.ref w14]))) M1 = some (.lst ((ts12 ++ [w13, w14]).map V.ref)) := by
          rw [upd_same, List.map_append]
          rfl
        have k13 := (k13.mono a6).mono ((same_upd (o := .lst [V.ref w13, V.ref w14]) v5).trans (same_upd (o := .lst (ts12.map V.ref ++ [V.ref w13, V.ref w14])) nM1))
        have k14 := k14.mono ((same_upd (o := .lst [V.ref w13, V.ref w14]) v5).trans (same_upd (o := .lst (ts12.map V.ref ++ [V.ref w13, V.ref w14])) nM1))
        have nMH : H M1 = none := butK12.free hP.at (none_under a7 nM1) hPK12.at
        refine ⟨_, rfl, q _ M1 (butK12.trans (But.same a8)) ((hPK12.same a8).le (by omega)) nMH ⟨ts12 ++ [w13, w14], hM1, by rw [List.length_append, lts12]; show 12 + 2 ≤ 20; omega, fun x hx => ?_⟩⟩
        rcases List.mem_append.1 hx with h | h
        · exact (wsK12 x h).mono a8
        · simp only [List.mem_cons, List.not_mem_nil, or_false] at h
          rcases h with rfl | rfl
          · exact k13
          · exact k14
      · rw [decide_eq_false (show ¬ ((xs.length : Nat) : Int) < 12 by omega)]
        refine iteF ?_
        exact ⟨_, rfl, q _ L butK12 (hPK12.le (by omega)) nLH ⟨ts12, hLK12, by rw [lts12]; decide, wsK12⟩⟩
    · rw [decide_eq_false (show ¬ (1 : Int) < ((xs.length : Nat) : Int) by omega)]
      refine iteF ?_
      refine ⟨_, rfl, _, _, rfl, rfl, _, rfl, ?_⟩
      by_cases small : xs.length < 12
      · rw [decide_eq_true (show ((xs.length : Nat) : Int) < 12 by omega)]
        refine iteT ?_
        refine ⟨_, rfl, ?_⟩
        -- the new one at the end of both
        refine ⟨_, rfl, _, rfl, line1, fun u1 v1 => ?_⟩
        refine ⟨c, u1, _, _, rfl, rfl, same_upd v1 _ _ hcK11, upd_same, by rw [List.length_map]; show xs.length + 1 ≤ sizeLine; omega, fun n1 o1 => ?_⟩
        have a1 := (same_upd (o := .lst [V.str fr]) v1).trans (same_upd (o := .lst (xs.map V.str ++ [V.str fr])) o1)
        have hn1 : (upd (upd K11 u1 (.lst [V.str fr])) n1 (.lst (xs.map V.str ++ [V.str fr]))) n1 = some (.lst ((xs ++ [fr]).map V.str)) := by
          rw [upd_same, List.map_append]
          rfl
        generalize upd (upd K11 u1 (.lst [V.str fr])) n1 (.lst (xs.map V.str ++ [V.str fr])) = A1 at a1 hn1 ⊢
        refine ⟨_, rfl, _, rfl, line1, fun u2 v2 => ?_⟩
        refine ⟨r, u2, _, _, rfl, rfl, same_upd v2 _ _ (a1 _ _ hrK11), upd_same, by rw [List.length_map]; show ys.length + 1 ≤ sizeLine; omega, fun n2 o2 => ?_⟩
        have a2 := (same_upd (o := .lst [V.str fr]) v2).trans (same_upd (o := .lst (ys.map V.str ++ [V.str fr])) o2)
        have hn2 : (upd (upd A1 u2 (.lst [V.str fr])) n2 (.lst (ys.map V.str ++ [V.str fr]))) n2 = some (.lst ((ys ++ [fr]).map V.str)) := by
          rw [upd_same, List.map_append]
          rfl
        generalize upd (upd A1 u2 (.lst [V.str fr])) n2 (.lst (ys.map V.str ++ [V.str fr])) = A2 at a2 hn2 ⊢
        refine ⟨line2, fun w13 m13 => ?_⟩
        have k13 := wok (xs := xs ++ [fr]) (xs' := xs ++ [fr]) (ys' := ys ++ [fr]) catm (a2 _ _ hn1) hn2 m13 (.refl _) (pxy.append_right _)
        have a3 := (a1.trans a2).trans (same_upd (o := .lst [V.ref n1, V.ref n2]) m13)
        generalize upd A2 w13 (.lst [V.ref n1, V.ref n2]) = A3 at a3 k13 ⊢
        -- ahead of the catalogue
        refine ⟨_, rfl, line1, fun u3 v3 => ⟨_, rfl, ?_⟩⟩
        refine ⟨u3, c, _, _, rfl, rfl, upd_same, same_upd v3 _ _ (a3 _ _ hcK11), by rw [List.length_map]; show 1 + xs.length ≤ sizeLine; omega, fun n3 o3 => ?_⟩
        have a4 := (same_upd (o := .lst [V.str fr]) v3).trans (same_upd (o := .lst ([V.str fr] ++ xs.map V.str)) o3)
        have hn3 : (upd (upd A3 u3 (.lst [V.str fr])) n3 (.lst ([V.str fr] ++ xs.map V.str))) n3 = some (.lst (([fr] ++ xs).map V.str)) := by
          rw [upd_same]
          rfl
        generalize upd (upd A3 u3 (.lst [V.str fr])) n3 (.lst ([V.str fr] ++ xs.map V.str)) = A4 at a4 hn3 ⊢
        refine ⟨_, rfl, _, rfl, line1, fun u4 v4 => ?_⟩
        refine ⟨r, u4, _, _, rfl, rfl, same_upd v4 _ _ (a4 _ _ (a3 _ _ hrK11)), upd_same, by rw [List.length_map]; show ys.length + 1 ≤ sizeLine; omega, fun n4 o4 => ?_⟩
        have a5 := (same_upd (o := .lst [V.str fr]) v4).trans (same_upd (o := .lst (ys.map V.str ++ [V.str fr])) o4)
        have hn4 : (upd (upd A4 u4 (.lst [V.str fr])) n4 (.lst (ys.map V.str ++ [V.str fr]))) n4 = some (.lst ((ys ++ [fr]).map V.str)) := by
          rw [upd_same, List.map_append]
          rfl
        generalize upd (upd A4 u4 (.lst [V.str fr])) n4 (.lst (ys.map V.str ++ [V.str fr])) = A5 at a5 hn4 ⊢
        refine ⟨line2, fun w14 m14 => ?_⟩
        have k14 := wok (xs := xs ++ [fr]) (xs' := [fr] ++ xs) (ys' := ys ++ [fr]) catm (a5 _ _ hn3) hn4 m14 List.perm_append_comm (pxy.append_right _)
        have a6 := (a4.trans a5).trans (same_upd (o := .lst [V.ref n3, V.ref n4]) m14)
        generalize upd A5 w14 (.lst [V.ref n3, V.ref n4]) = A6 at a6 k14 ⊢
        refine ⟨line2, fun u5 v5 => ?_⟩
        have a7 := (a3.trans a6).trans (same_upd (o := .lst [V.ref w13, V.ref w14]) v5)
        refine ⟨L, u5, _, _, rfl, rfl, a7 _ _ hLK11, upd_same, by rw [List.length_map, lts11]; show 11 + 2 ≤ sizeLine; omega, fun M1 nM1 => ?_⟩
        have a8 := a7.trans (same_upd (o := .lst (ts11.map V.ref ++ [V.ref w13, V.ref w14])) nM1)
        have hM1 : (upd (upd A6 u5 (.lst [V.ref w13, V.ref w14])) M1 (.lst (ts11.map V.ref ++ [V.ref w13, V.ref w14]))) M1 = some (.lst ((ts11 ++ [w13, w14]).map V.ref)) := by
          rw [upd_same, List.map_append]
          rfl
        have k13 := (k13.mono a6).mono ((same_upd (o := .lst [V.ref w13, V.ref w14]) v5).trans (same_upd (o := .lst (ts11.map V.ref ++ [V.ref w13, V.ref w14])) nM1))
        have k14 := k14.mono ((same_upd (o := .lst [V.ref w13, V.ref w14]) v5).trans (same_upd (o := .lst (ts11.map V.ref ++ [V.ref w13, V.ref w14])) nM1))
        have nMH : H M1 = none := butK11.free hP.at (none_under a7 nM1) hPK11.at
        refine ⟨_, rfl, q _ M1 (butK11.trans (But.same a8)) ((hPK11.same a8).le (by omega)) nMH ⟨ts11 ++ [w13, w14], hM1, by rw [List.length_append, lts11]; show 11 + 2 ≤ 20; omega, fun x hx => ?_⟩⟩
        rcases List.mem_append.1 hx with h | h
        · exact (wsK11 x h).mono a8
        · simp only [List.mem_cons, List.not_mem_nil, or_false] at h
          rcases h with rfl | rfl
          · exact k13
          · exact k14
      · rw [decide_eq_false (show ¬ ((xs.length : Nat) : Int) < 12 by omega)]
        refine iteF ?_
        exact ⟨_, rfl, q _ L butK11 (hPK11.le (by omega)) nLH ⟨ts11, hLK11, by rw [lts11]; decide, wsK11⟩⟩
end
end K2

end
-- K2C
section
set_option Elab.async false
set_option linter.all false
set_option maxRecDepth 100000
set_option maxHeartbeats 4100000
/-! ### the law's own: compared_right -/
namespace K2
open L2 PyProof.Rows PySem PySem.Spec TS
abbrev sComp : Stmt := top 38
theorem PurseAt.neIns {H : Hp} {p a C dx : Addr} {b : Int} {fs : List (Str × V)} (h : PurseAt H p b) (ha : H a = some (.ins C dx fs)) : a ≠ p := by
  rintro rfl
  obtain ⟨_, _, _, _, hp, _⟩ := h
  rw [hp] at ha
  cases ha
theorem PurseAt.neRef {H : Hp} {p a c : Addr} {b : Int} {r : List V} (h : PurseAt H p b) (ha : H a = some (.lst (.ref c :: r))) : a ≠ p := by
  rintro rfl
  obtain ⟨_, _, _, _, hp, _⟩ := h
  rw [hp] at ha
  injection ha with ha
  injection ha with ha
  injection ha with ha
  cases ha
theorem ShAt.but {H H' : Hp} {p C a : Addr} {b : Int} {xs ys : List Str} (h : PurseAt H p b) (e : But p H H') : ShAt H C a xs ys → ShAt H' C a xs ys := fun ⟨dx, c, r, h1, h2, h3⟩ => ⟨dx, c, r, e _ _ (h.neIns h1) h1, e _ _ (h.ne h2).symm h2, e _ _ (h.ne h3).symm h3⟩
theorem WorldAt.but {H H' : Hp} {p q : Addr} {b : Int} {xs ys : List Str} (h : PurseAt H p b) (e : But p H H') : WorldAt H q xs ys → WorldAt H' q xs ys := fun ⟨c, r, h1, h2, h3⟩ => ⟨c, r, e _ _ (h.neRef h1) h1, e _ _ (h.ne h2).symm h2, e _ _ (h.ne h3).symm h3⟩
/-- what is asked of the classes once -/
def plainB (K : PySem.W.Frag) (C : Addr) : Bool := OE.farB K C && OE.plainTs.all fun T => decide (PySem.W.kitOne K (.type T) (.ref C) = some false) && PySem.W.notFirst K C (.type T)
section
variable {base : Heap} {mg : Str → Option Value} {K : PySem.W.Frag} {w : World} {P : Program} {C fi fq fc fr : Addr}
abbrev nComp : List Str := ["_law_purse_here", "_law_made", "_law_world", "_law_other", "_law_due", "_law_late", "_law_told"]
theorem scComp : FnScope nComp ["_law_purse_here", "_law_made", "_law_world"] (defScope sComp) := ⟨rfl, rfl, rfl, by decide +kernel, rfl, by decide +kernel, by decide +kernel⟩
def spComp (C : Addr) : Sp := fun vs H Q _ => ∃ (p a w : Addr) (b : Int) (xs ys : List Str), vs = [.ref p, .ref a, .ref w] ∧ PurseAt H p b ∧ b ≤ 2 ^ 36 ∧ ShAt H C a xs ys ∧ WorldAt H w xs ys ∧ Cat xs ∧ Row xs ys ∧ xs.length ≤ 12 ∧
  ∀ H', But p H H' → PurseAt H' p (b + 10) → Q (.bl true) H'
theorem eqd_scal {x : V} {H : Hp} (h : ∃ b, x = .bl b) : Eqd H 0 x x := ⟨rfl, .inr (.inr h)⟩
theorem ok_comp {f g1 g2 : Addr} {fd gd1 gd2 : FuncData} (F : Fun K "_law_compared_right" "_law_compared_right" sComp f fd) (M : Mx mg) (D : Pk P w K mg base C fi fq fc fr) (pB : plainB K C = true)
    (G1 : FnOk P w K mg base CX0 3 g1 gd1 ["_law_purse_here", "_law_world"] spOthers) (m1 : mg "_law_others" = some (.ref g1)) (k1 : PySem.W.keepIn K (.ref g1) = true) (b1 : Binds K gd1 ["_law_purse_here", "_law_world"] [])
    (G2 : FnOk P w K mg base CX0 1 g2 gd2 ["_law_mine", "_law_theirs"] (spExact 0)) (m2 : mg "_law_exact" = some (.ref g2)) (k2 : PySem.W.keepIn K (.ref g2) = true) (b2 : Binds K gd2 ["_law_mine", "_law_theirs"] []) :
    FnOk P w K mg base CX0 5 f fd ["_law_purse_here", "_law_made", "_law_world"] (spComp C) := by
  obtain ⟨fdi, Gi, bi⟩ := D.init
  obtain ⟨fdq, Gq, bq⟩ := D.eqs
  have T := D.T
  have far : OE.farB K C = true := (Bool.and_eq_true_iff.1 pB).1
  have kinds : ∀ U ∈ OE.plainTs, PySem.W.kitOne K (.type U) (.ref C) = some false ∧ PySem.W.notFirst K C (.type U) = true := fun U h => by
    have := List.all_eq_true.1 (Bool.and_eq_true_iff.1 pB).2 U h
    simp only [Bool.and_eq_true, decide_eq_true_eq] at this
    exact this
  refine F.ok scComp (fun vs H Q E h => ?_) (fun cdv A outer s H vs Q E hr h => ?_)
  · obtain ⟨p, a, w, b, xs, ys, rfl, _⟩ := h
    rfl
  · obtain ⟨p, a, w, b, xs, ys, rfl, hP, hb, sh, wd, cat, row, n12, q⟩ := h
    have hr3 := hr.mono (show 3 ≤ 4 by decide)
    have hr2 := hr.mono (show 2 ≤ 4 by decide)
    have hr1 := hr.mono (show 1 ≤ 4 by decide)
    refine ⟨_, pss_cons (ps_for PassesOwn.never rfl (pi_list (pe_call G1 hr3 rfl m1 k1 b1 .nil pass0 (pa_cons (pv 0) (pa_cons (pv 2) pa_nil)))) (pg_name (i := 3) scComp.nd rfl (Or.inl rfl))
        (pss_cons (ps_par (i := 4) (j := 5) rfl scComp.nd rfl rfl (by decide) rfl rfl (pa_cons (pe_and (pe_cmpR (op_eqD hr.units) (pe_ix (ix_listK (K := K) rfl) (pv 3) pe_int (fun _ _ => rfl)) (pe_ix (ix_listK (K := K) rfl) (pv 2) pe_int (fun _ _ => rfl)) (nomark _))
              (pe_one (pe_cmpR (op_eqD hr.units) (pe_ix (ix_listK (K := K) rfl) (pv 3) pe_int (fun _ _ => rfl)) (pe_ix (ix_listK (K := K) rfl) (pv 2) pe_int (fun _ _ => rfl)) (nomark _))))
            (pa_cons (pe_make T.makes Gi hr rfl D.gS bi .nil pass0 (pa_cons (pe_callTy call_list_of (by rfl) M.list boot_listT (pa_cons (pe_ix (ix_listK (K := K) rfl) (pv 3) pe_int (fun _ _ => rfl)) pa_nil))
              (pa_cons (pe_callTy call_list_of (by rfl) M.list boot_listT (pa_cons (pe_ix (ix_listK (K := K) rfl) (pv 3) pe_int (fun _ _ => rfl)) pa_nil)) pa_nil))) pa_nil)) rfl)
        (pss_one (ps_for PassesOwn.never rfl (pi_tup (pe_tup (pa_cons (pe_cmpR (OE.op_eq (K := K) (hK := rfl) Gq T.eq hr1 bq pass0) (pv 1) (pv 5) (nomark _)) (pa_cons (pe_cmpR (OE.op_eq (K := K) (hK := rfl) Gq T.eq hr1 bq pass0) (pv 5) (pv 1) (nomark _))
            (pa_cons (pe_not (pe_cmpR (OE.op_ne (K := K) (hK := rfl) Gq T.eq hr2 bq pass0) (pv 1) (pv 5) (nomark _))) (pa_cons (pe_not (pe_cmpR (OE.op_ne (K := K) (hK := rfl) Gq T.eq hr2 bq pass0) (pv 5) (pv 1) (nomark _))) pa_nil)))))) (pg_name (i := 6) scComp.nd rfl (Or.inl rfl))
          (pss_one (ps_if (pt_not (pt_val (pe_call G2 hr1 rfl m2 k2 b2 .nil pass0 (pa_cons (pv 6) (pa_cons (pv 4) pa_nil))))) pss_never pss_nil))))))
      (pss_cons (ps_for PassesOwn.never rfl (pi_tup (pe_tup (pa_cons pe_non (pa_cons pe_int (pa_cons pe_bl (pa_cons pe_str (pa_cons (pe_lst pa_nil) (pa_cons (pe_tup pa_nil) (pa_cons pe_dnewK
            (pa_cons (pe_callTy call_list_of (by rfl) M.list boot_listT (pa_cons (pe_ix (ix_listK (K := K) rfl) (pv 2) pe_int (fun _ _ => rfl)) pa_nil))
            (pa_cons (pe_lst (pa_cons (pe_ix (ix_listK (K := K) rfl) (pv 2) pe_int (fun _ _ => rfl)) (pa_cons (pe_ix (ix_listK (K := K) rfl) (pv 2) pe_int (fun _ _ => rfl)) pa_nil)))
            (pa_cons (pe_tup (pa_cons (pe_ix (ix_listK (K := K) rfl) (pv 2) pe_int (fun _ _ => rfl)) (pa_cons (pe_ix (ix_listK (K := K) rfl) (pv 2) pe_int (fun _ _ => rfl)) pa_nil)))
            (pa_cons (pe_ix (ix_listK (K := K) rfl) (pe_ix (ix_listK (K := K) rfl) (pv 2) pe_int (fun _ _ => rfl)) pe_int (fun _ _ => rfl)) pa_nil))))))))))))) (pg_name (i := 3) scComp.nd rfl (Or.inl rfl))
          (pss_one (ps_if (PW.pt (pw_or (pt_cmpR (OE.op_eq (K := K) (hK := rfl) Gq T.eq hr1 bq pass0) (pv 1) (pv 3) (nomark _)) (pw_or (pt_not (pt_cmpR (OE.op_ne (K := K) (hK := rfl) Gq T.eq hr2 bq pass0) (pv 1) (pv 3) (nomark _)))
            (pw_or1 (pt_cmpR (OE.op_eqR (K := K) Gq T.eq far hr1 bq pass0) (pv 3) (pv 1) (nomark _)))))) pss_never pss_nil)))
      (pss_one (ps_ret pe_bl))), ?_⟩
    have few := cat.2.1
    have nf : PySem.W.notFirst K C (.ref C) = true := by simp [PySem.W.notFirst]
    have line4 : (4 : Nat) ≤ sizeLine := by decide +kernel
    have w1 := cat.2.2.1
    have w2 := (row.flip cat).1.2.2.1
    refine ⟨_, rfl, _, rfl, p, w, b, xs, ys, rfl, hP, hb, wd, cat, row, n12, fun H1 L but1 hP1 nL ⟨ts, hL, few20, ws⟩ => ?_⟩
    refine ⟨L, rfl, ⟨_, SqL.of hL⟩, ?_⟩
    have sh1 := sh.but hP but1
    have wd1 := wd.but hP but1
    refine for_list (K := K) (xs := ts.map V.ref) (fun i σ H' => (∃ o1 o2 o3 o4 : Option V, σ = [some (.ref p), some (.ref a), some (.ref w), o1, o2, o3, o4]) ∧ Same H1 H') ?_ ?_ ?_ ?_
    · exact ⟨⟨_, _, _, _, rfl⟩, fun _ _ e => e⟩
    · rintro i σ H' _ ⟨_, s⟩
      exact SqL.of (s _ _ hL)
    · rintro i x σ H2 hx ⟨⟨o1, o2, o3, o4, rfl⟩, s2⟩
      rw [List.getElem?_map] at hx
      obtain ⟨t, ht, rfl⟩ := Option.map_eq_some_iff.1 hx
      obtain ⟨xs', ys', wt, cat', row'⟩ := (ws t (List.mem_of_getElem? ht)).mono s2
      have few' := cat'.2.1
      have w3 := cat'.2.2.1
      have w4 := (row'.flip cat').1.2.2.1
      obtain ⟨c', r', ht2, hc2, hr2⟩ := id wt
      have sh2 := sh1.mono s2
      obtain ⟨c, r, hw, hc, hr0⟩ := wd1.mono s2
      refine g_set (σ' := [some (.ref p), some (.ref a), some (.ref w), some (.ref t), o2, o3, o4]) rfl ?_
      refine ⟨_, rfl, t, _, 0, .ref c', rfl, rfl, SqL.of ht2, (show atI [V.ref c', V.ref r'] ((0 : Nat) : Int) = _ from atI_nat rfl), ?_⟩
      refine ⟨_, rfl, w, _, 0, .ref c, rfl, rfl, SqL.of hw, (show atI [V.ref c, V.ref r] ((0 : Nat) : Int) = _ from atI_nat rfl), ?_⟩
      refine ⟨_, _, .lst (SqL.of hc2) (dp_strs xs'), .lst (SqL.of hc) (dp_strs xs), shaped_strs w3, shaped_strs w1, ?_⟩
      refine ⟨_, rfl, ?_⟩
      change (if PyData.eqvAll (xs'.map PyData.str) (xs.map PyData.str) = true then _ else _)
      rw [eqv_strs]
      have at0' : atI [V.ref c', V.ref r'] 0 = some (.ref c') := atI_nat (j := 0) rfl
      have at1' : atI [V.ref c', V.ref r'] 1 = some (.ref r') := atI_nat (j := 1) rfl
      have at1 : atI [V.ref c, V.ref r] 1 = some (.ref r) := atI_nat (j := 1) rfl
      obtain ⟨D, hD⟩ : ∃ D, D = (decide (xs' = xs) && decide (ys' = ys)) := ⟨_, rfl⟩
      by_cases e : xs' = xs
      · rw [decide_eq_true e]
        refine iteT ?_
        refine ⟨_, rfl, t, _, _, .ref r', rfl, rfl, SqL.of ht2, at1', ?_⟩
        refine ⟨_, rfl, w, _, _, .ref r, rfl, rfl, SqL.of hw, at1, ?_⟩
        refine ⟨_, _, .lst (SqL.of hr2) (dp_strs ys'), .lst (SqL.of hr0) (dp_strs ys), shaped_strs w4, shaped_strs w2, ?_⟩
        have eV : PyData.eqv (.list (ys'.map PyData.str)) (.list (ys.map PyData.str)) = decide (ys' = ys) := eqv_strs ys' ys
        rw [eV]
        have hV : D = decide (ys' = ys) := by rw [hD, decide_eq_true e, Bool.true_and]
        -- the shelf made of it
        refine ⟨_, rfl, t, _, 0, .ref c', rfl, rfl, SqL.of ht2, at0', c', _, rfl, .inl (SqL.of hc2), fun p1 n1 => ?_⟩
        have t1 := same_upd (o := .lst (xs'.map V.str)) n1
        refine ⟨_, rfl, t, _, 1, .ref r', rfl, rfl, SqL.of (t1 _ _ ht2), at1', r', _, rfl, .inl (SqL.of (t1 _ _ hr2)), fun p2 n2 => ?_⟩
        have t2 := same_upd (o := .lst (ys'.map V.str)) n2
        have k1 := t2 p1 _ upd_same
        have k2 : (upd (upd H2 p1 (.lst (xs'.map V.str))) p2 (.lst (ys'.map V.str))) p2 = some (.lst (ys'.map V.str)) := upd_same
        have s23 := t1.trans t2
        generalize upd (upd H2 p1 (.lst (xs'.map V.str))) p2 (.lst (ys'.map V.str)) = H3 at k1 k2 s23 ⊢
        intro y dy ny ndy ney
        refine made_use k1 k2 cat' row' ny ndy ney fun H4 s4 sh4 => ⟨rfl, ?_⟩
        refine ⟨_, _, rfl, ?_⟩
        have s24 := s23.trans s4
        have sha := sh2.mono s24
        have shy := sh4.at
        obtain ⟨ea, eac, ear, ha4, _, _⟩ := id sha
        obtain ⟨ey, eyc, eyr, hy4, _, _⟩ := id shy
        have tya : TyX K H4 (.ref a) (.ref C) := .base (.ins ha4 T.cl T.ha T.hn T.ht T.eq.ob)
        have tyy : TyX K H4 (.ref y) (.ref C) := .base (.ins hy4 T.cl T.ha T.hn T.ht T.eq.ob)
        have R1 : EqR K C a (.ref y) H4 D := ⟨xs, ys, sha, w1, w2, .inl ⟨y, xs', ys', rfl, shy, w3, w4, by rw [hD, decide_eq_decide.2 (eq_comm (a := xs)), decide_eq_decide.2 (eq_comm (a := ys))]⟩⟩
        have R2 : EqR K C y (.ref a) H4 D := ⟨xs', ys', shy, w3, w4, .inl ⟨a, xs, ys, rfl, sha, w1, w2, hD⟩⟩
        refine ⟨_, rfl, _, rfl, a, ea, _, .ref C, D, rfl, ha4, tyy, nf, R1, ?_⟩
        refine ⟨_, rfl, _, rfl, y, ey, _, .ref C, D, rfl, hy4, tya, nf, R2, ?_⟩
        refine ⟨_, rfl, _, rfl, a, ea, _, .ref C, D, rfl, ha4, tyy, nf, R1, _, rfl, ?_⟩
        refine ⟨_, rfl, _, rfl, y, ey, _, .ref C, D, rfl, hy4, tya, nf, R2, _, rfl, ?_⟩
        refine ⟨line4, fun tq ntq => ?_⟩
        have s5 := same_upd (o := .tup [V.bl (id D), V.bl (id D), V.bl (!(!D)), V.bl (!(!D))]) ntq
        have hq : (upd H4 tq (.tup [V.bl (id D), V.bl (id D), V.bl (!(!D)), V.bl (!(!D))])) tq = some (.tup [V.bl D, V.bl D, V.bl D, V.bl D]) := by
          rw [upd_same, Bool.not_not]; rfl
        refine ⟨tq, rfl, ⟨_, SqT.of hq⟩, ?_⟩
        have s25 := s24.trans s5
        generalize upd H4 tq (.tup [V.bl (id D), V.bl (id D), V.bl (!(!D)), V.bl (!(!D))]) = H5 at hq s25 ⊢
        refine for_tup (K := K) (xs := [V.bl D, V.bl D, V.bl D, V.bl D]) (fun i σ H' => (∃ u, σ = [some (.ref p), some (.ref a), some (.ref w), some (.ref t), some (.bl (decide (ys' = ys))), some (.ref y), u]) ∧ Same H5 H') ⟨⟨_, rfl⟩, fun _ _ e => e⟩ ?_ ?_ ?_
        · rintro j σ H6 _ ⟨_, s⟩
          exact SqT.of (s _ _ hq)
        · rintro j v σ H6 hv ⟨⟨u, rfl⟩, s6⟩
          obtain rfl : v = .bl D := by
            have m := List.mem_of_getElem? hv
            simp only [List.mem_cons, List.not_mem_nil, or_false, or_self] at m
            exact m
          refine g_set (σ' := [some (.ref p), some (.ref a), some (.ref w), some (.ref t), some (.bl (decide (ys' = ys))), some (.ref y), some (.bl D)]) rfl ?_
          refine ⟨_, rfl, _, rfl, .bl D, .bl (decide (ys' = ys)), rfl, ⟨by rw [hV], .inr (.inr ⟨_, rfl⟩)⟩, fun H7 s7 => ⟨true, rfl, iteF ?_⟩⟩
          exact ⟨⟨_, rfl⟩, s6.trans s7⟩
        · rintro σ H6 ⟨⟨u, rfl⟩, s6⟩
          exact ⟨⟨_, _, _, _, rfl⟩, (s2.trans s25).trans s6⟩
      · rw [decide_eq_false e]
        refine iteF ?_
        have hV : D = false := by rw [hD, decide_eq_false e, Bool.false_and]
        -- the shelf made of it
        refine ⟨_, rfl, t, _, 0, .ref c', rfl, rfl, SqL.of ht2, at0', c', _, rfl, .inl (SqL.of hc2), fun p1 n1 => ?_⟩
        have t1 := same_upd (o := .lst (xs'.map V.str)) n1
        refine ⟨_, rfl, t, _, 1, .ref r', rfl, rfl, SqL.of (t1 _ _ ht2), at1', r', _, rfl, .inl (SqL.of (t1 _ _ hr2)), fun p2 n2 => ?_⟩
        have t2 := same_upd (o := .lst (ys'.map V.str)) n2
        have k1 := t2 p1 _ upd_same
        have k2 : (upd (upd H2 p1 (.lst (xs'.map V.str))) p2 (.lst (ys'.map V.str))) p2 = some (.lst (ys'.map V.str)) := upd_same
        have s23 := t1.trans t2
        generalize upd (upd H2 p1 (.lst (xs'.map V.str))) p2 (.lst (ys'.map V.str)) = H3 at k1 k2 s23 ⊢
        intro y dy ny ndy ney
        refine made_use k1 k2 cat' row' ny ndy ney fun H4 s4 sh4 => ⟨rfl, ?_⟩
        refine ⟨_, _, rfl, ?_⟩
        have s24 := s23.trans s4
        have sha := sh2.mono s24
        have shy := sh4.at
        obtain ⟨ea, eac, ear, ha4, _, _⟩ := id sha
        obtain ⟨ey, eyc, eyr, hy4, _, _⟩ := id shy
        have tya : TyX K H4 (.ref a) (.ref C) := .base (.ins ha4 T.cl T.ha T.hn T.ht T.eq.ob)
        have tyy : TyX K H4 (.ref y) (.ref C) := .base (.ins hy4 T.cl T.ha T.hn T.ht T.eq.ob)
        have R1 : EqR K C a (.ref y) H4 D := ⟨xs, ys, sha, w1, w2, .inl ⟨y, xs', ys', rfl, shy, w3, w4, by rw [hD, decide_eq_decide.2 (eq_comm (a := xs)), decide_eq_decide.2 (eq_comm (a := ys))]⟩⟩
        have R2 : EqR K C y (.ref a) H4 D := ⟨xs', ys', shy, w3, w4, .inl ⟨a, xs, ys, rfl, sha, w1, w2, hD⟩⟩
        refine ⟨_, rfl, _, rfl, a, ea, _, .ref C, D, rfl, ha4, tyy, nf, R1, ?_⟩
        refine ⟨_, rfl, _, rfl, y, ey, _, .ref C, D, rfl, hy4, tya, nf, R2, ?_⟩
        refine ⟨_, rfl, _, rfl, a, ea, _, .ref C, D, rfl, ha4, tyy, nf, R1, _, rfl, ?_⟩
        refine ⟨_, rfl, _, rfl, y, ey, _, .ref C, D, rfl, hy4, tya, nf, R2, _, rfl, ?_⟩
        refine ⟨line4, fun tq ntq => ?_⟩
        have s5 := same_upd (o := .tup [V.bl (id D), V.bl (id D), V.bl (!(!D)), V.bl (!(!D))]) ntq
        have hq : (upd H4 tq (.tup [V.bl (id D), V.bl (id D), V.bl (!(!D)), V.bl (!(!D))])) tq = some (.tup [V.bl D, V.bl D, V.bl D, V.bl D]) := by
          rw [upd_same, Bool.not_not]; rfl
        refine ⟨tq, rfl, ⟨_, SqT.of hq⟩, ?_⟩
        have s25 := s24.trans s5
        generalize upd H4 tq (.tup [V.bl (id D), V.bl (id D), V.bl (!(!D)), V.bl (!(!D))]) = H5 at hq s25 ⊢
        refine for_tup (K := K) (xs := [V.bl D, V.bl D, V.bl D, V.bl D]) (fun i σ H' => (∃ u, σ = [some (.ref p), some (.ref a), some (.ref w), some (.ref t), some (.bl false), some (.ref y), u]) ∧ Same H5 H') ⟨⟨_, rfl⟩, fun _ _ e => e⟩ ?_ ?_ ?_
        · rintro j σ H6 _ ⟨_, s⟩
          exact SqT.of (s _ _ hq)
        · rintro j v σ H6 hv ⟨⟨u, rfl⟩, s6⟩
          obtain rfl : v = .bl D := by
            have m := List.mem_of_getElem? hv
            simp only [List.mem_cons, List.not_mem_nil, or_false, or_self] at m
            exact m
          refine g_set (σ' := [some (.ref p), some (.ref a), some (.ref w), some (.ref t), some (.bl false), some (.ref y), some (.bl D)]) rfl ?_
          refine ⟨_, rfl, _, rfl, .bl D, .bl false, rfl, ⟨by rw [hV], .inr (.inr ⟨_, rfl⟩)⟩, fun H7 s7 => ⟨true, rfl, iteF ?_⟩⟩
          exact ⟨⟨_, rfl⟩, s6.trans s7⟩
        · rintro σ H6 ⟨⟨u, rfl⟩, s6⟩
          exact ⟨⟨_, _, _, _, rfl⟩, (s2.trans s25).trans s6⟩
    · rintro σ H2 ⟨⟨o1, o2, o3, o4, rfl⟩, s2⟩
      have sh2 := sh1.mono s2
      have wd2 := wd1.mono s2
      have l1 := cat.head
      obtain ⟨c, r, hw, hc, hr0⟩ := id wd2
      have at0 : atI [V.ref c, V.ref r] 0 = some (.ref c) := atI_nat (j := 0) rfl
      have at1 : atI [V.ref c, V.ref r] 1 = some (.ref r) := atI_nat (j := 1) rfl
      obtain ⟨x0, ex0⟩ : ∃ x0, xs[0]? = some x0 := ⟨_, List.getElem?_eq_getElem (by omega)⟩
      have at00 : atI (xs.map V.str) 0 = some (.str x0) := atI_nat (j := 0) (by rw [List.getElem?_map, ex0]; rfl)
      have line0 : (0 : Nat) ≤ sizeLine := by omega
      have line11 : (11 : Nat) ≤ sizeLine := by decide +kernel
      refine ⟨line0, fun l0 n0 => ⟨line0, fun t0 m0 => fun d0 e0 => ?_⟩⟩
      have p1 : OE.Plain (upd (upd (upd H2 l0 (.lst [])) t0 (.tup [])) d0 (.dK [])) (.ref l0) "list" := .lst (same_upd e0 _ _ (same_upd m0 _ _ upd_same))
      have p2 : OE.Plain (upd (upd (upd H2 l0 (.lst [])) t0 (.tup [])) d0 (.dK [])) (.ref t0) "tuple" := .tup (same_upd e0 _ _ upd_same)
      have p3 : OE.Plain (upd (upd (upd H2 l0 (.lst [])) t0 (.tup [])) d0 (.dK [])) (.ref d0) "dict" := .dct upd_same
      have s3 := ((same_upd (o := .lst []) n0).trans (same_upd (o := .tup []) m0)).trans (same_upd (o := .dK []) e0)
      generalize upd (upd (upd H2 l0 (.lst [])) t0 (.tup [])) d0 (.dK []) = H3 at p1 p2 p3 s3 ⊢
      have hw := s3 _ _ hw
      have hc := s3 _ _ hc
      have hr0 := s3 _ _ hr0
      refine ⟨_, rfl, w, _, _, .ref c, rfl, rfl, SqL.of hw, at0, c, _, rfl, .inl (SqL.of hc), fun q1 m1 => ?_⟩
      have s4 := same_upd (o := .lst (xs.map V.str)) m1
      have p4 : OE.Plain (upd H3 q1 (.lst (xs.map V.str))) (.ref q1) "list" := .lst upd_same
      generalize upd H3 q1 (.lst (xs.map V.str)) = H4 at s4 p4 ⊢
      have hw := s4 _ _ hw
      have hc := s4 _ _ hc
      have hr0 := s4 _ _ hr0
      refine ⟨_, rfl, w, _, _, .ref c, rfl, rfl, SqL.of hw, at0, _, rfl, w, _, _, .ref r, rfl, rfl, SqL.of hw, at1, Nat.le_trans (show 2 ≤ 4 by decide) line4, fun q2 m2 => ?_⟩
      have s5 := same_upd (o := .lst [V.ref c, V.ref r]) m2
      have p5 : OE.Plain (upd H4 q2 (.lst [V.ref c, V.ref r])) (.ref q2) "list" := .lst upd_same
      generalize upd H4 q2 (.lst [V.ref c, V.ref r]) = H5 at s5 p5 ⊢
      have hw := s5 _ _ hw
      have hc := s5 _ _ hc
      have hr0 := s5 _ _ hr0
      refine ⟨_, rfl, w, _, _, .ref c, rfl, rfl, SqL.of hw, at0, _, rfl, w, _, _, .ref r, rfl, rfl, SqL.of hw, at1, Nat.le_trans (show 2 ≤ 4 by decide) line4, fun q3 m3 => ?_⟩
      have s6 := same_upd (o := .tup [V.ref c, V.ref r]) m3
      have p6 : OE.Plain (upd H5 q3 (.tup [V.ref c, V.ref r])) (.ref q3) "tuple" := .tup upd_same
      generalize upd H5 q3 (.tup [V.ref c, V.ref r]) = H6 at s6 p6 ⊢
      have hw := s6 _ _ hw
      have hc := s6 _ _ hc
      refine ⟨_, rfl, w, _, _, .ref c, rfl, rfl, SqL.of hw, at0, c, _, _, .str x0, rfl, rfl, SqL.of hc, at00, line11, fun q4 m4 => ?_⟩
      have hq : (upd H6 q4 (.tup [V.non, V.int 0, V.bl true, V.str "", V.ref l0, V.ref t0, V.ref d0, V.ref q1, V.ref q2, V.ref q3, V.str x0])) q4 = some (.tup [V.non, V.int 0, V.bl true, V.str "", V.ref l0, V.ref t0, V.ref d0, V.ref q1, V.ref q2, V.ref q3, V.str x0]) := upd_same
      have s7 := same_upd (o := .tup [V.non, V.int 0, V.bl true, V.str "", V.ref l0, V.ref t0, V.ref d0, V.ref q1, V.ref q2, V.ref q3, V.str x0]) m4
      refine ⟨q4, rfl, ⟨_, SqT.of hq⟩, ?_⟩
      generalize upd H6 q4 (.tup [V.non, V.int 0, V.bl true, V.str "", V.ref l0, V.ref t0, V.ref d0, V.ref q1, V.ref q2, V.ref q3, V.str x0]) = H7 at hq s7 ⊢
      have s27 := (((s3.trans s4).trans s5).trans s6).trans s7
      have all : ∀ v ∈ [V.non, V.int 0, V.bl true, V.str "", V.ref l0, V.ref t0, V.ref d0, V.ref q1, V.ref q2, V.ref q3, V.str x0], ∃ U, OE.Plain H7 v U := by
        intro v hv
        simp only [List.mem_cons, List.not_mem_nil, or_false] at hv
        rcases hv with rfl | rfl | rfl | rfl | rfl | rfl | rfl | rfl | rfl | rfl | rfl
        · exact ⟨_, .non⟩
        · exact ⟨_, .int _⟩
        · exact ⟨_, .bl _⟩
        · exact ⟨_, .str _⟩
        · exact ⟨_, p1.mono (((s4.trans s5).trans s6).trans s7)⟩
        · exact ⟨_, p2.mono (((s4.trans s5).trans s6).trans s7)⟩
        · exact ⟨_, p3.mono (((s4.trans s5).trans s6).trans s7)⟩
        · exact ⟨_, p4.mono ((s5.trans s6).trans s7)⟩
        · exact ⟨_, p5.mono (s6.trans s7)⟩
        · exact ⟨_, p6.mono s7⟩
        · exact ⟨_, .str _⟩
      have sh7 := sh2.mono s27
      obtain ⟨ea, eac, ear, ha7, _, _⟩ := id sh7
      have fin : ∀ H', Same H7 H' → Q (.bl true) H' := fun H' s => q H' (but1.trans (But.same ((s2.trans s27).trans s))) (hP1.same ((s2.trans s27).trans s))
      generalize [V.non, V.int 0, V.bl true, V.str "", V.ref l0, V.ref t0, V.ref d0, V.ref q1, V.ref q2, V.ref q3, V.str x0] = els at hq all
      refine for_tup (K := K) (xs := els) (fun i σ H' => (∃ o1 o2 o3 o4 : Option V, σ = [some (.ref p), some (.ref a), some (.ref w), o1, o2, o3, o4]) ∧ H' = H7) ⟨⟨_, _, _, _, rfl⟩, rfl⟩ ?_ ?_ ?_
      · rintro j σ H' _ ⟨_, rfl⟩
        exact SqT.of hq
      · rintro j v σ H' hv ⟨⟨u1, u2, u3, u4, rfl⟩, rfl⟩
        obtain ⟨U, pl⟩ := all v (List.mem_of_getElem? hv)
        obtain ⟨kk, nn⟩ := kinds U pl.mem
        have R1 : EqR K C a v H' false := ⟨xs, ys, sh7, w1, w2, .inr ⟨_, pl.tyX, kk, rfl⟩⟩
        refine g_set (σ' := [some (.ref p), some (.ref a), some (.ref w), some v, u2, u3, u4]) rfl ?_
        refine ⟨_, rfl, _, rfl, a, ea, _, _, false, rfl, ha7, pl.tyX, nn, R1, false, rfl, iteF ?_⟩
        refine ⟨_, rfl, _, rfl, a, ea, _, _, false, rfl, ha7, pl.tyX, nn, R1, true, rfl, iteF ?_⟩
        refine ⟨_, rfl, _, rfl, a, ea, _, U, false, rfl, ha7, pl, R1, false, rfl, iteF ?_⟩
        exact ⟨⟨_, _, _, _, rfl⟩, rfl⟩
      · rintro σ H' ⟨⟨u1, u2, u3, u4, rfl⟩, rfl⟩
        exact fin _ fun _ _ e => e
end
end K2

end
-- K2L
section
set_option Elab.async false
set_option linter.all false
set_option maxRecDepth 100000
set_option maxHeartbeats 4100000
/-! ### the law itself -/
namespace K2
open L2 PyProof.Rows PySem PySem.Spec TS
abbrev sLaw : Stmt := top 40
/-! calls with keywords alone -/
section
variable {X : Cx} {CX : CXT} {k : Nat} {f : Addr} {fd : FuncData} {ps ks : List Str} {sp : Sp} {E : XK} {x : Str} {p pos : Pos} {kws : List Keyword} {tk : TA} {g : List Value → List Value → List Value} {gV : List V → List V → List V}
theorem pe_callK0 (F : FnOk X.prog X.w X.K X.mg X.base CX k f fd ps sp) (hr : Room k X.A) (hg : Gl X x) (hm : X.mg x = some (.ref f)) (hk : PySem.W.keepIn X.K (.ref f) = true) (hb : KBn X.K fd ps 0 ks g gV) (hx : Passes CX X E) (hkw : PK X kws tk)
    (hall : (backToKw pos (keywordEach kws X.env)).all (·.1.isSome) = true := by rfl) (hks : (backToKw pos (keywordEach kws X.env)).filterMap (·.1) = ks := by rfl) (hdb : (x == ("__debug__" : Str)) = false := by decide)
    (hpl : ((backTo pos (starEach [] X.env)).any (·.1) || (backToKw pos (keywordEach kws X.env)).any (·.1.isNone)) = false := by rfl) :
    PE X (.Call (.Name x p) [] kws pos) (tCallN 0 ks.length sp gV E tNil tk) := by
  refine ⟨fun pins s σ H Q I h => ?_⟩
  refine wpAny_Call_Name_kw (ld_glob I hg hm ?_ hdb)
  refine PySem.W.callWith_KW0 (h₀ := X.base) I.ok.mod.kin hk hall ?_ hpl
  refine thn (hkw.run pos pins s σ H _ I h) fun ws s2 ⟨zs, H2, I2, rz, l1, l2, q2⟩ => ⟨I2.kIn, ?_⟩
  rw [hks]
  exact run_fnN (us := []) (vs := []) F hr hb hx I2 .nil rz rfl l2 q2
end
/-- what f(k = v, ..) binds where f has no defaults -/
theorem kbn_of {K : PySem.W.Frag} {x q : Str} {st : Stmt} {f : Addr} {fd : FuncData} (F : Fun K x q st f fd) {ps ks : List Str} {n : Nat} (g : {α : Type} → List α → List α → List α)
    (rel : ∀ {vs zs : List V} {us ws : List Value}, Vals vs us → Vals zs ws → Vals (g vs zs) (g us ws))
    (h : ∀ (kV doc pm : Value) (an : Option Addr) (cdv ct : Value) (us ws : List Value), us.length = n → ws.length = ks.length → bindArgs (PySem.W.fnOf x q (defArgs st) (defBody st) (defScope st) .none kV doc pm an cdv ct) ⟨us, ks.zip ws⟩ = pure (ps.zip (g us ws))) :
    KBn K fd ps n ks g g := by
  obtain ⟨oc, od, kV, doc, pm, an, cdv, ct, osl, rfl, _⟩ := F.ex
  exact ⟨fun s us ws _ l1 l2 => .of_eq (h kV doc pm an cdv ct us ws l1 l2), rel⟩
def gW {α : Type} (_ ws : List α) : List α := ws
def gR {α : Type} (us ws : List α) : List α := us ++ ws.reverse
theorem Vals.reverse : ∀ {zs : List V} {ws : List Value}, Vals zs ws → Vals zs.reverse ws.reverse
  | _, _, .nil => .nil
  | _, _, .cons a r => by
    rw [List.reverse_cons, List.reverse_cons]
    exact (Vals.reverse r).append (.cons a .nil)
theorem gW_rel {vs zs : List V} {us ws : List Value} (_ : Vals vs us) (r : Vals zs ws) : Vals (gW vs zs) (gW us ws) := r
theorem gR_rel {vs zs : List V} {us ws : List Value} (a : Vals vs us) (r : Vals zs ws) : Vals (gR vs zs) (gR us ws) := a.append (Vals.reverse r)
/-- lists that are alike, one after the other -/
inductive Alike (H : Hp) (n : Nat) : List V → List V → Prop
  | nil : Alike H n [] []
  | cons {x y : V} {xs ys : List V} : Eqd H n x y → Alike H n xs ys → Alike H n (x :: xs) (y :: ys)
theorem Alike.len {H : Hp} {n : Nat} : ∀ {xs ys : List V}, Alike H n xs ys → xs.length = ys.length
  | _, _, .nil => rfl
  | _, _, .cons _ h => congrArg Nat.succ h.len
theorem Alike.get {H : Hp} {n : Nat} : ∀ {xs ys : List V}, Alike H n xs ys → ∀ (i : Nat) (u v : V), xs[i]? = some u → ys[i]? = some v → Eqd H n u v
  | _, _, .nil, i, u, v, hu, _ => by simp at hu
  | _, _, .cons h _, 0, u, v, hu, hv => by
    obtain rfl := Option.some.inj hu
    obtain rfl := Option.some.inj hv
    exact h
  | _, _, .cons _ r, i + 1, u, v, hu, hv => r.get i u v hu hv
theorem Eqd.all {H : Hp} {n : Nat} {a b : Addr} {us vs : List V} (ha : H a = some (.lst us)) (hb : H b = some (.lst vs)) (few : us.length ≤ 100) (h : Alike H n us vs) : Eqd H (n + 1) (.ref a) (.ref b) := Eqd.list ha hb h.len few h.get
end K2

end
-- K2M
section
set_option Elab.async false
set_option linter.all false
set_option maxRecDepth 100000
set_option maxHeartbeats 4100000
namespace K2
open L2 PyProof.Rows PySem PySem.Spec TS
theorem Cat.of {xs : List Str} (h : decide (xs ≠ [] ∧ xs.length ≤ 100 ∧ (∀ x ∈ xs, 1 ≤ x.length ∧ x.length ≤ 8 ∧ ∀ c ∈ x.cps.toList, 97 ≤ c ∧ c ≤ 122) ∧ xs.Nodup) = true) : Cat xs := by
  unfold Cat isWord
  exact of_decide_eq_true h
theorem Row.of {xs ys : List Str} (h : decide ((∀ y ∈ ys, y ∈ xs) ∧ ys.Nodup ∧ ys.length = xs.length) = true) : Row xs ys := by
  unfold Row
  exact of_decide_eq_true h
theorem shaped2 {xs ys : List Str} (h : ∀ x ∈ xs, isWord x) (h2 : ∀ x ∈ ys, isWord x) : SeqAt.shaped (.list [.list (xs.map PyData.str), .list (ys.map PyData.str)]) = true := by
  have d := deep_strs xs
  have d2 := deep_strs ys
  simp only [SeqAt.shaped, PyData.canLay0, PyData.canLayAll0, lay_strs xs h, lay_strs ys h2, PyData.depth, PyData.depthAll, Bool.true_and, Bool.and_true]
  exact decide_eq_true (by omega)
theorem eqv2 {xs ys : List Str} : PyData.eqv (.list [.list (xs.map PyData.str), .list (ys.map PyData.str)]) (.list [.list (xs.map PyData.str), .list (ys.map PyData.str)]) = true := by
  simp [PyData.eqv, PyData.eqvAll, eqv_strs]
theorem wAll (xs : List Str) (h : decide (∀ x ∈ xs, 1 ≤ x.length ∧ x.length ≤ 8 ∧ ∀ c ∈ x.cps.toList, 97 ≤ c ∧ c ≤ 122) = true) : ∀ x ∈ xs, isWord x := by
  unfold isWord
  exact of_decide_eq_true h
def rowsS : List (List Str) := [["a", "aa"], ["aa", "a"], ["ab", "c"], ["a", "bc"], ["c", "ab"], ["bc", "a"], ["aaa"], ["b", "ac"], ["acb"]]
theorem rows_cat : ∀ z ∈ rowsS, Cat z := by
  intro z hz
  simp only [rowsS, List.mem_cons, List.not_mem_nil, or_false] at hz
  rcases hz with rfl | rfl | rfl | rfl | rfl | rfl | rfl | rfl | rfl <;> exact Cat.of (by decide +kernel)
theorem rows_nodup : rowsS.Nodup := by decide +kernel
/-- lists of texts that stand somewhere, one after the other -/
def StandAt (H : Hp) : List Addr → List (List Str) → Prop
  | [], [] => True
  | a :: as, z :: zs => H a = some (.lst (z.map V.str)) ∧ StandAt H as zs
  | _, _ => False
theorem StandAt.mono {H H' : Hp} (e : Same H H') : ∀ {as : List Addr} {zs : List (List Str)}, StandAt H as zs → StandAt H' as zs
  | [], [], _ => trivial
  | _ :: _, _ :: _, h => ⟨e _ _ h.1, h.2.mono e⟩
  | [], _ :: _, h => h.elim
  | _ :: _, [], h => h.elim
theorem StandAt.get {H : Hp} : ∀ {as : List Addr} {zs : List (List Str)} {i : Nat} {z : List Str}, StandAt H as zs → zs[i]? = some z → ∃ a, as[i]? = some a ∧ H a = some (.lst (z.map V.str))
  | [], [], i, z, _, h => by simp at h
  | a :: _, z :: _, 0, z', s, h => by
    obtain rfl := Option.some.inj h
    exact ⟨a, rfl, s.1⟩
  | _ :: _, _ :: _, i + 1, z', s, h => by
    obtain ⟨a, h1, h2⟩ := StandAt.get (i := i) s.2 h
    exact ⟨a, h1, h2⟩
  | [], _ :: _, _, _, h, _ => h.elim
  | _ :: _, [], _, _, h, _ => h.elim
section
variable (P : Program) (w : World) (K : PySem.W.Frag) (mg : Str → Option Value) (base : Heap)
/-- a def of the module's that keeps its promise -/
def Has (k : Nat) (x : Str) (ps : List Str) (sp : Sp) : Prop := ∃ f fd, FnOk P w K mg base CX0 k f fd ps sp ∧ mg x = some (.ref f) ∧ PySem.W.keepIn K (.ref f) = true ∧ Binds K fd ps []
/-- the same, called with keywords alone -/
def HasK (k : Nat) (x : Str) (ps ks : List Str) (g : {α : Type} → List α → List α → List α) (sp : Sp) : Prop := ∃ f fd, FnOk P w K mg base CX0 k f fd ps sp ∧ mg x = some (.ref f) ∧ PySem.W.keepIn K (.ref f) = true ∧ KBn K fd ps 0 ks g g
end
section
variable {base : Heap} {mg : Str → Option Value} {K : PySem.W.Frag} {w : World} {P : Program} {C fi fq fc fr : Addr}
abbrev nLaw : List Str := ["_law_script", "_law_purse_here", "_law_world", "_law_handed", "_law_made", "_law_other", "_law_told", "_law_twin", "_law_book", "_law_some", "_law_whole", "_law_rows", "_law_at", "_law_spot"]
theorem scLaw : FnScope nLaw ["_law_script"] (defScope sLaw) := ⟨rfl, rfl, rfl, by decide +kernel, rfl, by decide +kernel, by decide +kernel⟩
def spLaw (K : PySem.W.Frag) : Sp := fun vs H Q _ => ∃ (a : Addr) (zs : List Int), vs = [.ref a] ∧ SqL K H a (zs.map V.int) ∧ zs.length ≤ 63 ∧ ∀ H', Q (.bl true) H'
theorem ok_law {f : Addr} {fd : FuncData} (F : Fun K "law" "law" sLaw f fd) (M : Mx mg) (B : Bl mg) (D : Pk P w K mg base C fi fq fc fr)
    (hDraw : Has P w K mg base 2 "_law_draw" ["_law_purse_here", "_law_many"] spDraw) (hPurses : Has P w K mg base 2 "_law_purses" ["_law_script", "_law_few"] (spPurses K))
    (hFree : Has P w K mg base 6 "_law_free" ["_law_purse_here", "_law_many"] spFree) (hShR : Has P w K mg base 4 "_law_shelf_right" ["_law_made", "_law_world"] (spShR C))
    (hEx : Has P w K mg base 3 "_law_exact" ["_law_mine", "_law_theirs"] (spExact 2)) (hPl : Has P w K mg base 1 "_law_places" ["_law_books", "_law_row"] spPlaces)
    (hSpoil : Has P w K mg base 3 "_law_spoil" ["_law_made"] (spSpoil C)) (hExch : Has P w K mg base 5 "exchanged" ["shelf"] (spExch C)) (hLent : Has P w K mg base 6 "_law_lent_right" ["_law_world"] spLent)
    (hComp : Has P w K mg base 5 "_law_compared_right" ["_law_purse_here", "_law_made", "_law_world"] (spComp C)) (hGrown : Has P w K mg base 6 "_law_grown_right" ["_law_world"] spLent)
    (hSort : Has P w K mg base 5 "sorted_shelf" ["catalogue"] (spSorted C))
    (kInit : ∃ fd, FnOk P w K mg base CX0 3 fi fd ["self", "catalogue", "row"] (spInit C) ∧ KBn K fd ["self", "catalogue", "row"] 1 ["row", "catalogue"] gR gR)
    (kRanks : HasK P w K mg base 2 "ranks" ["shelf"] ["shelf"] gW (spRanks C)) (kPlace : HasK P w K mg base 3 "place_of" ["shelf", "book"] ["book", "shelf"] gR (spWhere C fun _ ys => ys))
    (kEntry : HasK P w K mg base 3 "entry_of" ["shelf", "book"] ["book", "shelf"] gR (spWhere C fun xs _ => xs)) (kSort : HasK P w K mg base 5 "sorted_shelf" ["catalogue"] ["catalogue"] gW (spSorted C)) :
    FnOk P w K mg base CX0 7 f fd ["_law_script"] (spLaw K) := by
  obtain ⟨fdi, Gi, bi⟩ := D.init
  obtain ⟨fdq, Gq, bq⟩ := D.eqs
  obtain ⟨fdc, Gc, bc⟩ := D.cats
  obtain ⟨fdr, Gr, br⟩ := D.row
  obtain ⟨fk, fdk, Gk, mk_, kk, bk⟩ := D.ranks
  obtain ⟨x1, d1, G1, m1, k1, b1⟩ := hDraw
  obtain ⟨x2, d2, G2, m2, k2, b2⟩ := hPurses
  obtain ⟨x3, d3, G3, m3, k3, b3⟩ := hFree
  obtain ⟨x4, d4, G4, m4, k4, b4⟩ := hShR
  obtain ⟨x5, d5, G5, m5, k5, b5⟩ := hEx
  obtain ⟨x6, d6, G6, m6, k6, b6⟩ := hPl
  obtain ⟨x7, d7, G7, m7, k7, b7⟩ := hSpoil
  obtain ⟨x8, d8, G8, m8, k8, b8⟩ := hExch
  obtain ⟨x9, d9, G9, m9, k9, b9⟩ := hLent
  obtain ⟨x10, d10, G10, m10, k10, b10⟩ := hComp
  obtain ⟨x11, d11, G11, m11, k11, b11⟩ := hGrown
  obtain ⟨x12, d12, G12, m12, k12, b12⟩ := hSort
  obtain ⟨d13, G13, b13⟩ := kInit
  obtain ⟨x14, d14, G14, m14, k14, b14⟩ := kRanks
  obtain ⟨x15, d15, G15, m15, k15, b15⟩ := kPlace
  obtain ⟨x16, d16, G16, m16, k16, b16⟩ := kEntry
  obtain ⟨x17, d17, G17, m17, k17, b17⟩ := kSort
  have T := D.T
  refine F.ok scLaw (fun vs H Q E h => ?_) (fun cdv A outer s H vs Q E hr h => ?_)
  · obtain ⟨a, zs, rfl, _⟩ := h
    rfl
  · obtain ⟨a, zs, rfl, hS, hlen, q⟩ := h
    have hr5 := hr.mono (show 5 ≤ 6 by decide)
    have hr4 := hr.mono (show 4 ≤ 6 by decide)
    have hr3 := hr.mono (show 3 ≤ 6 by decide)
    have hr2 := hr.mono (show 2 ≤ 6 by decide)
    have hr1 := hr.mono (show 1 ≤ 6 by decide)
    refine ⟨_, pss_cons (ps_for PassesOwn.never rfl (pi_list (pe_call G2 hr2 rfl m2 k2 b2 .nil pass0 (pa_cons (pv 0) (pa_cons pe_int pa_nil)))) (pg_name (i := 1) scLaw.nd rfl (Or.inl rfl))
        (pss_cons (ps_set (i := 2) scLaw.nd rfl (Or.inl rfl) (pe_call G3 hr rfl m3 k3 b3 .nil pass0 (pa_cons (pv 1) (pa_cons (pe_op op_add pe_int (pe_call G1 hr2 rfl m1 k1 b1 .nil pass0 (pa_cons (pv 1) (pa_cons pe_int pa_nil)))) pa_nil))))
        (pss_cons (ps_set (i := 3) scLaw.nd rfl (Or.inl rfl) (pe_lst (pa_cons (pe_callTy call_list_of (by rfl) M.list boot_listT (pa_cons (pe_ix (ix_listK (K := K) rfl) (pv 2) pe_int (fun _ _ => rfl)) pa_nil)) (pa_cons (pe_callTy call_list_of (by rfl) M.list boot_listT (pa_cons (pe_ix (ix_listK (K := K) rfl) (pv 2) pe_int (fun _ _ => rfl)) pa_nil)) pa_nil))))
        (pss_cons (ps_set (i := 4) scLaw.nd rfl (Or.inl rfl) (pe_make T.makes Gi hr4 rfl D.gS bi .nil pass0 (pa_cons (pe_ix (ix_listK (K := K) rfl) (pv 3) pe_int (fun _ _ => rfl)) (pa_cons (pe_ix (ix_listK (K := K) rfl) (pv 3) pe_int (fun _ _ => rfl)) pa_nil))))
        (pss_cons (ps_if (PW.pt (pw_or (pt_cmpR (op_neD hr.units) (pv 3) (pv 2) (nomark _)) (pw_or1 (pt_not (pt_val (pe_call G4 hr4 rfl m4 k4 b4 .nil pass0 (pa_cons (pv 4) (pa_cons (pv 2) pa_nil)))))))) pss_never pss_nil)
        (pss_cons (ps_set (i := 5) scLaw.nd rfl (Or.inl rfl) (pe_make T.makes Gi hr4 rfl D.gS bi .nil pass0 (pa_cons (pe_lst (pa_cons pe_str (pa_cons pe_str pa_nil))) (pa_cons (pe_lst (pa_cons pe_str (pa_cons pe_str pa_nil))) pa_nil))))
        (pss_cons (ps_set (i := 6) scLaw.nd rfl (Or.inl rfl) (pe_lst (pa_cons (pe_meth0 (pv 4) T.cl T.mc Gc hr1 bc .nil pass0) (pa_cons (pe_meth0 (pv 4) T.cl T.mr Gr hr1 br .nil pass0) (pa_cons (pe_call Gk hr2 rfl mk_ kk bk .nil pass0 (pa_cons (pv 4) pa_nil))
            (pa_cons (pe_meth0 (pv 5) T.cl T.mc Gc hr1 bc .nil pass0) (pa_cons (pe_meth0 (pv 5) T.cl T.mr Gr hr1 br .nil pass0) (pa_cons (pe_call Gk hr2 rfl mk_ kk bk .nil pass0 (pa_cons (pv 5) pa_nil)) pa_nil))))))))
        (pss_cons (ps_if (pt_not (pt_val (pe_call G5 hr3 rfl m5 k5 b5 .nil pass0 (pa_cons (pv 6) (pa_cons (pe_lst (pa_cons (pe_ix (ix_listK (K := K) rfl) (pv 2) pe_int (fun _ _ => rfl)) (pa_cons (pe_ix (ix_listK (K := K) rfl) (pv 2) pe_int (fun _ _ => rfl))
            (pa_cons (pe_call G6 hr1 rfl m6 k6 b6 .nil pass0 (pa_cons (pe_ix (ix_listK (K := K) rfl) (pv 2) pe_int (fun _ _ => rfl)) (pa_cons (pe_ix (ix_listK (K := K) rfl) (pv 2) pe_int (fun _ _ => rfl)) pa_nil)))
            (pa_cons (pe_lst (pa_cons pe_str (pa_cons pe_str pa_nil))) (pa_cons (pe_lst (pa_cons pe_str (pa_cons pe_str pa_nil))) (pa_cons (pe_lst (pa_cons pe_int (pa_cons pe_int pa_nil))) pa_nil))))))) pa_nil))))) pss_never pss_nil)
        (pss_cons (ps_expr (pe_call G7 hr3 rfl m7 k7 b7 .nil pass0 (pa_cons (pv 4) pa_nil)))
        (pss_cons (ps_set (i := 7) scLaw.nd rfl (Or.inl rfl) (pe_makeK0 T.makes G13 hr4 rfl D.gS b13 pass0 (pk_cons (pe_callTy call_list_of (by rfl) M.list boot_listT (pa_cons (pe_ix (ix_listK (K := K) rfl) (pv 2) pe_int (fun _ _ => rfl)) pa_nil)) (pk_cons (pe_callTy call_list_of (by rfl) M.list boot_listT (pa_cons (pe_ix (ix_listK (K := K) rfl) (pv 2) pe_int (fun _ _ => rfl)) pa_nil)) pk_nil))))
        (pss_cons (ps_if (PW.pt (pw_or (pt_not (pt_val (pe_call G4 hr4 rfl m4 k4 b4 .nil pass0 (pa_cons (pv 4) (pa_cons (pv 2) pa_nil))))) (pw_or (pt_not (pt_cmpR (OE.op_eq (K := K) (hK := rfl) Gq T.eq hr1 bq pass0) (pv 4) (pv 7) (nomark _)))
            (pw_or (pt_cmpR (OE.op_ne (K := K) (hK := rfl) Gq T.eq hr2 bq pass0) (pv 4) (pv 7) (nomark _)) (pw_or1 (pt_cmpR (OE.op_ne (K := K) (hK := rfl) Gq T.eq hr2 bq pass0) (pe_call G8 hr5 rfl m8 k8 b8 .nil pass0 (pa_cons (pe_call G8 hr5 rfl m8 k8 b8 .nil pass0 (pa_cons (pv 4) pa_nil)) pa_nil)) (pv 7) (nomark _))))))) pss_never pss_nil)
        (pss_cons (ps_par (i := 8) (j := 9) rfl scLaw.nd rfl rfl (by decide) rfl rfl (pa_cons (pe_ix (ix_listK (K := K) rfl) (pe_ix (ix_listK (K := K) rfl) (pv 2) pe_int (fun _ _ => rfl)) (pe_un un_neg pe_int) (fun _ _ => rfl)) (pa_cons (pe_callTy call_list_of (by rfl) M.list boot_listT (pa_cons (pe_ix (ix_listK (K := K) rfl) (pv 2) pe_int (fun _ _ => rfl)) pa_nil)) pa_nil)) rfl)
        (pss_cons (ps_set (i := 6) scLaw.nd rfl (Or.inl rfl) (pe_lst (pa_cons (pe_callK0 G14 hr2 rfl m14 k14 b14 pass0 (pk_cons (pv 7) pk_nil)) (pa_cons (pe_callK0 G15 hr3 rfl m15 k15 b15 pass0 (pk_cons (pv 8) (pk_cons (pv 7) pk_nil))) (pa_cons (pe_callK0 G16 hr3 rfl m16 k16 b16 pass0 (pk_cons (pv 8) (pk_cons (pv 7) pk_nil))) pa_nil)))))
        (pss_cons (ps_if (pt_not (pt_val (pe_call G5 hr3 rfl m5 k5 b5 .nil pass0 (pa_cons (pv 6) (pa_cons (pe_lst (pa_cons (pe_call G6 hr1 rfl m6 k6 b6 .nil pass0 (pa_cons (pe_ix (ix_listK (K := K) rfl) (pv 2) pe_int (fun _ _ => rfl)) (pa_cons (pe_ix (ix_listK (K := K) rfl) (pv 2) pe_int (fun _ _ => rfl)) pa_nil)))
            (pa_cons (pe_op op_sub (pe_callB call_len_seq (by rfl) M.len PySem.boot_len (pa_cons (pe_ix (ix_listK (K := K) rfl) (pv 2) pe_int (fun _ _ => rfl)) pa_nil)) pe_int)
            (pa_cons (pe_ix (ix_listK (K := K) rfl) (pe_call G6 hr1 rfl m6 k6 b6 .nil pass0 (pa_cons (pe_ix (ix_listK (K := K) rfl) (pv 2) pe_int (fun _ _ => rfl)) (pa_cons (pe_lst (pa_cons (pv 8) pa_nil)) pa_nil))) pe_int (fun _ _ => rfl)) pa_nil)))) pa_nil))))) pss_never pss_nil)
        (pss_cons (ps_set (i := 10) scLaw.nd rfl (Or.inl rfl) (pe_callK0 G17 hr5 rfl m17 k17 b17 pass0 (pk_cons (pv 9) pk_nil)))
        (pss_cons (ps_expr (pe_bm0 PySem.F.plainAttrs_list PySem.F.slot_list_reverse PySem.F.type_list_reverse mt_reverse (pv 9)))
        (pss_cons (ps_if (PW.pt (pw_or (pt_not (pt_val (pe_call G4 hr4 rfl m4 k4 b4 .nil pass0 (pa_cons (pv 10) (pa_cons (pe_lst (pa_cons (pe_ix (ix_listK (K := K) rfl) (pv 2) pe_int (fun _ _ => rfl)) (pa_cons (pe_ix (ix_listK (K := K) rfl) (pv 2) pe_int (fun _ _ => rfl)) pa_nil))) pa_nil)))))
            (pw_or1 (pt_not (pt_val (pe_call G9 hr rfl m9 k9 b9 .nil pass0 (pa_cons (pv 2) pa_nil))))))) pss_never pss_nil)
        (pss_one (ps_if (PW.pt (pw_or (pt_not (pt_val (pe_call G10 hr5 rfl m10 k10 b10 .nil pass0 (pa_cons (pv 1) (pa_cons (pv 4) (pa_cons (pv 2) pa_nil))))))
            (pw_or1 (pt_not (pt_val (pe_call G11 hr rfl m11 k11 b11 .nil pass0 (pa_cons (pv 2) pa_nil))))))) pss_never pss_nil)))))))))))))))))))
      (pss_cons (ps_set (i := 11) scLaw.nd rfl (Or.inl rfl) (pe_lst (pa_cons (pe_lst (pa_cons pe_str (pa_cons pe_str pa_nil))) (pa_cons (pe_lst (pa_cons pe_str (pa_cons pe_str pa_nil))) (pa_cons (pe_lst (pa_cons pe_str (pa_cons pe_str pa_nil))) (pa_cons (pe_lst (pa_cons pe_str (pa_cons pe_str pa_nil)))
          (pa_cons (pe_lst (pa_cons pe_str (pa_cons pe_str pa_nil))) (pa_cons (pe_lst (pa_cons pe_str (pa_cons pe_str pa_nil))) (pa_cons (pe_lst (pa_cons pe_str pa_nil)) (pa_cons (pe_lst (pa_cons pe_str (pa_cons pe_str pa_nil))) (pa_cons (pe_lst (pa_cons pe_str pa_nil)) pa_nil)))))))))))
      (pss_cons (ps_for PassesOwn.never rfl (pi_range1 rfl B.range (pa_cons (pe_callB call_len_seq (by rfl) M.len PySem.boot_len (pa_cons (pv 11) pa_nil)) pa_nil)) (pg_name (i := 12) scLaw.nd rfl (Or.inl rfl))
        (pss_one (ps_for PassesOwn.never rfl (pi_range1 rfl B.range (pa_cons (pe_callB call_len_seq (by rfl) M.len PySem.boot_len (pa_cons (pv 11) pa_nil)) pa_nil)) (pg_name (i := 13) scLaw.nd rfl (Or.inl rfl))
          (pss_one (ps_if (pt_cmpR op_ne (pe_cmpR (OE.op_eq (K := K) (hK := rfl) Gq T.eq hr1 bq pass0) (pe_call G12 hr5 rfl m12 k12 b12 .nil pass0 (pa_cons (pe_ix (ix_listK (K := K) rfl) (pv 11) (pv 12) (fun _ _ => rfl)) pa_nil)) (pe_call G12 hr5 rfl m12 k12 b12 .nil pass0 (pa_cons (pe_ix (ix_listK (K := K) rfl) (pv 11) (pv 13) (fun _ _ => rfl)) pa_nil)) (nomark _))
            (pe_cmpR op_eq (pv 12) (pv 13) (nomark _)) (nomark _)) pss_never pss_nil)))))
      (pss_cons (ps_if (PW.pt (pw_or (pt_cmpR (OE.op_eq (K := K) (hK := rfl) Gq T.eq hr1 bq pass0) (pe_make T.makes Gi hr4 rfl D.gS bi .nil pass0 (pa_cons (pe_lst (pa_cons pe_str (pa_cons pe_str pa_nil))) (pa_cons (pe_lst (pa_cons pe_str (pa_cons pe_str pa_nil))) pa_nil))) (pe_make T.makes Gi hr4 rfl D.gS bi .nil pass0 (pa_cons (pe_lst (pa_cons pe_str (pa_cons pe_str pa_nil))) (pa_cons (pe_lst (pa_cons pe_str (pa_cons pe_str pa_nil))) pa_nil))) (nomark _))
          (pw_or1 (pt_cmpR (OE.op_eq (K := K) (hK := rfl) Gq T.eq hr1 bq pass0) (pe_make T.makes Gi hr4 rfl D.gS bi .nil pass0 (pa_cons (pe_lst (pa_cons pe_str (pa_cons pe_str pa_nil))) (pa_cons (pe_lst (pa_cons pe_str (pa_cons pe_str pa_nil))) pa_nil))) (pe_make T.makes Gi hr4 rfl D.gS bi .nil pass0 (pa_cons (pe_lst (pa_cons pe_str (pa_cons pe_str pa_nil))) (pa_cons (pe_lst (pa_cons pe_str (pa_cons pe_str pa_nil))) pa_nil))) (nomark _))))) pss_never pss_nil)
      (pss_one (ps_ret (pe_and (pe_cmpR (op_eqD hr.units) (pe_call Gk hr2 rfl mk_ kk bk .nil pass0 (pa_cons (pe_make T.makes Gi hr4 rfl D.gS bi .nil pass0 (pa_cons (pe_lst (pa_cons pe_str (pa_cons pe_str pa_nil))) (pa_cons (pe_lst (pa_cons pe_str (pa_cons pe_str pa_nil))) pa_nil))) pa_nil)) (pe_lst (pa_cons pe_int (pa_cons pe_int pa_nil))) (nomark _))
          (pe_one (pe_cmpR (op_eqD hr.units) (pe_meth0 (pe_call G12 hr5 rfl m12 k12 b12 .nil pass0 (pa_cons (pe_lst (pa_cons pe_str pa_nil)) pa_nil)) T.cl T.mr Gr hr1 br .nil pass0) (pe_lst (pa_cons pe_str pa_nil)) (nomark _))))))))), ?_⟩
    have line2 : (2 : Nat) ≤ sizeLine := by decide +kernel
    have line6 : (6 : Nat) ≤ sizeLine := by decide +kernel
    have line9 : (9 : Nat) ≤ sizeLine := by decide +kernel
    have nf : PySem.W.notFirst K C (.ref C) = true := by simp [PySem.W.notFirst]
    refine ⟨_, rfl, a, zs, 2, rfl, hS, hlen, by decide, fun H0 L ps _ _ hL few0 purses => ?_⟩
    refine ⟨L, rfl, ⟨_, SqL.of hL⟩, ?_⟩
    refine for_list (K := K) (xs := ps.map V.ref) (fun i σ H' => (∃ o1 o2 o3 o4 o5 o6 o7 o8 o9 o10 o11 o12 o13 : Option V, σ = [some (.ref a), o1, o2, o3, o4, o5, o6, o7, o8, o9, o10, o11, o12, o13]) ∧ H' L = some (.lst (ps.map V.ref)) ∧ ∀ x ∈ ps, PurseAt H' x (3000 * (i : Int))) ?_ ?_ ?_ ?_
    · exact ⟨⟨_, _, _, _, _, _, _, _, _, _, _, _, _, rfl⟩, hL, fun x hx => (purses x hx).le (by omega)⟩
    · rintro i σ H' _ ⟨_, h, _⟩
      exact SqL.of h
    · rintro i v σ H hv ⟨⟨o1, o2, o3, o4, o5, o6, o7, o8, o9, o10, o11, o12, o13, rfl⟩, hL, purses⟩
      rw [List.getElem?_map] at hv
      obtain ⟨p, hp, rfl⟩ := Option.map_eq_some_iff.1 hv
      have lti := (List.getElem?_eq_some_iff.1 hp).1
      have hP := purses p (List.mem_of_getElem? hp)
      have nLp : L ≠ p := by
        cases ps with
        | nil => simp at hp
        | cons y r => exact hP.neRef hL
      refine g_set (σ' := [some (.ref a), some (.ref p), o2, o3, o4, o5, o6, o7, o8, o9, o10, o11, o12, o13]) rfl ?_
      generalize hb : 3000 * (i : Int) = b at hP purses
      have hb0 : b ≤ 300000 := by omega
      -- a world
      refine ⟨_, rfl, _, rfl, p, 12, b, rfl, by decide, by decide, hP, by omega, fun H1 r hr1' hP1 hc1 => ⟨_, _, rfl, rfl, ?_⟩⟩
      refine ⟨p, b + 1, 1 + r, (show [V.ref p, V.int (1 + (r : Int))] = _ by rw [show (1 : Int) + (r : Int) = ((1 + r : Nat) : Int) by omega]), by omega, by omega, hP1, by omega, fun H2 w xs ys but2 hP2 nw wd lx cat row => ?_⟩
      have but2 : But p H H2 := (But.of hc1).trans but2
      have few := cat.2.1
      have l1 := cat.head
      have rowl := row.2.2
      have wx := cat.2.2.1
      have wy := (row.flip cat).1.2.2.1
      refine g_set (σ' := [some (.ref a), some (.ref p), some (.ref w), o3, o4, o5, o6, o7, o8, o9, o10, o11, o12, o13]) rfl ?_
      obtain ⟨c, rr, hw, hc, hr0⟩ := id wd
      have at0 : atI [V.ref c, V.ref rr] 0 = some (.ref c) := atI_nat (j := 0) rfl
      have at1 : atI [V.ref c, V.ref rr] 1 = some (.ref rr) := atI_nat (j := 1) rfl
      -- handed
      refine ⟨_, rfl, w, _, _, .ref c, rfl, rfl, SqL.of hw, at0, c, _, rfl, .inl (SqL.of hc), fun p1 n1 => ?_⟩
      have e1 := same_upd (o := .lst (xs.map V.str)) n1
      refine ⟨_, rfl, w, _, _, .ref rr, rfl, rfl, SqL.of (e1 _ _ hw), at1, rr, _, rfl, .inl (SqL.of (e1 _ _ hr0)), fun p2 n2 => ⟨line2, fun hd nhd => ?_⟩⟩
      have e2 := same_upd (o := .lst (ys.map V.str)) n2
      have e3 := same_upd (o := .lst [V.ref p1, V.ref p2]) nhd
      have h1 := e3 _ _ (e2 p1 _ upd_same)
      have h2 := e3 p2 _ (upd_same (o := .lst (ys.map V.str)))
      have h3 : (upd (upd (upd H2 p1 (.lst (xs.map V.str))) p2 (.lst (ys.map V.str))) hd (.lst [V.ref p1, V.ref p2])) hd = some (.lst [V.ref p1, V.ref p2]) := upd_same
      have s3 := (e1.trans e2).trans e3
      generalize upd (upd (upd H2 p1 (.lst (xs.map V.str))) p2 (.lst (ys.map V.str))) hd (.lst [V.ref p1, V.ref p2]) = H3 at h1 h2 h3 s3 ⊢
      refine g_set (σ' := [some (.ref a), some (.ref p), some (.ref w), some (.ref hd), o4, o5, o6, o7, o8, o9, o10, o11, o12, o13]) rfl ?_
      have ap0 : atI [V.ref p1, V.ref p2] 0 = some (.ref p1) := atI_nat (j := 0) rfl
      have ap1 : atI [V.ref p1, V.ref p2] 1 = some (.ref p2) := atI_nat (j := 1) rfl
      -- made
      refine ⟨_, rfl, hd, _, _, .ref p1, rfl, rfl, SqL.of h3, ap0, _, rfl, hd, _, _, .ref p2, rfl, rfl, SqL.of h3, ap1, ?_⟩
      intro ma da na nda nea
      refine made_use h1 h2 cat row na nda nea fun H4 s4 sh4 => ⟨rfl, ?_⟩
      refine g_set (σ' := [some (.ref a), some (.ref p), some (.ref w), some (.ref hd), some (.ref ma), o5, o6, o7, o8, o9, o10, o11, o12, o13]) rfl ?_
      have sh4 := sh4.at
      have s24 := s3.trans s4
      have w4 := s24 _ _ hw
      refine ⟨_, rfl, _, rfl, .list [.list (xs.map PyData.str), .list (ys.map PyData.str)], .list [.list (xs.map PyData.str), .list (ys.map PyData.str)],
        .lst (SqL.of (s4 _ _ h3)) (.cons (.lst (SqL.of (s4 _ _ h1)) (dp_strs xs)) (.cons (.lst (SqL.of (s4 _ _ h2)) (dp_strs ys)) .nil)),
        .lst (SqL.of w4) (.cons (.lst (SqL.of (s24 _ _ hc)) (dp_strs xs)) (.cons (.lst (SqL.of (s24 _ _ hr0)) (dp_strs ys)) .nil)), shaped2 wx wy, shaped2 wx wy, _, rfl, ?_⟩
      rw [eqv2]
      refine iteF ?_
      refine ⟨_, rfl, _, rfl, ma, w, xs, ys, rfl, sh4, wd.mono s24, cat, row, fun H5 s5 => ⟨true, rfl, iteF ?_⟩⟩
      have sh5 := sh4.mono s5
      have s25 := s24.trans s5
      have wd5 := wd.mono s25
      have hP5 := hP2.same s25
      have but5 := but2.trans (But.same s25)
      have hw5 := s25 _ _ hw
      have hc5 := s25 _ _ hc
      have hr5 := s25 _ _ hr0
      clear h1 h2 h3 s3 s4 w4 sh4 s24 s5 s25 e1 e2 e3 n1 n2 nhd na nda nea hw hc hr0 wd hP2 but2 hP1 hc1
      -- another shelf
      refine ⟨line2, fun z1 f1 => ⟨line2, fun z2 f2 => ?_⟩⟩
      have e1 := same_upd (o := .lst [V.str "zz", V.str "y"]) f1
      have e2 := same_upd (o := .lst [V.str "y", V.str "zz"]) f2
      have h1 := e2 z1 _ upd_same
      have h2 : (upd (upd H5 z1 (.lst [V.str "zz", V.str "y"])) z2 (.lst [V.str "y", V.str "zz"])) z2 = some (.lst [V.str "y", V.str "zz"]) := upd_same
      have e3 := e1.trans e2
      generalize upd (upd H5 z1 (.lst [V.str "zz", V.str "y"])) z2 (.lst [V.str "y", V.str "zz"]) = A0 at h1 h2 e3 ⊢
      intro ot dob nob ndob neob
      have catZ : Cat ["zz", "y"] := Cat.of (by decide +kernel)
      have rowZ : Row ["zz", "y"] ["y", "zz"] := Row.of (by decide +kernel)
      refine made_use (xs := ["zz", "y"]) (ys := ["y", "zz"]) (l := z1) (m := z2) h1 h2 catZ rowZ nob ndob neob fun H6 s6' shZ => ⟨rfl, ?_⟩
      have s6 := e3.trans s6'
      have shZ := shZ.at
      clear e1 e2 e3 h1 h2 s6' nob ndob neob f1 f2
      refine g_set (σ' := [some (.ref a), some (.ref p), some (.ref w), some (.ref hd), some (.ref ma), some (.ref ot), o6, o7, o8, o9, o10, o11, o12, o13]) rfl ?_
      -- what both tell
      obtain ⟨dm, cm, rm, ham, _, _⟩ := id (sh5.mono s6)
      obtain ⟨dz, cz, rz, haz, _, _⟩ := id shZ
      refine ⟨_, rfl, ma, dm, _, rfl, ham, rfl, ma, xs, ys, rfl, sh5.mono s6, fun q1 g1 => ?_⟩
      have t1 := same_upd (o := .lst (xs.map V.str)) g1
      have v1 : (upd H6 q1 (.lst (xs.map V.str))) q1 = some (.lst (xs.map V.str)) := upd_same
      dsimp only
      generalize upd H6 q1 (.lst (xs.map V.str)) = A1 at t1 v1 ⊢
      refine ⟨_, rfl, ma, dm, _, rfl, t1 _ _ ham, rfl, ma, xs, ys, rfl, (sh5.mono s6).mono t1, fun q2 g2 => ?_⟩
      have t2 := same_upd (o := .lst (ys.map V.str)) g2
      have v2 : (upd A1 q2 (.lst (ys.map V.str))) q2 = some (.lst (ys.map V.str)) := upd_same
      dsimp only
      generalize upd A1 q2 (.lst (ys.map V.str)) = A2 at t2 v2 ⊢
      have t12 := t1.trans t2
      refine ⟨_, rfl, ma, xs, ys, rfl, (sh5.mono s6).mono t12, cat, row, fun A3 q3 t3 g3 v3 => ?_⟩
      have t13 := t12.trans t3
      refine ⟨_, rfl, ot, dz, _, rfl, t13 _ _ haz, rfl, ot, ["zz", "y"], ["y", "zz"], rfl, shZ.mono t13, fun q4 g4 => ?_⟩
      have t4 := same_upd (o := .lst (List.map V.str ["zz", "y"])) g4
      have v4 : (upd A3 q4 (.lst (List.map V.str ["zz", "y"]))) q4 = some (.lst (List.map V.str ["zz", "y"])) := upd_same
      dsimp only
      generalize upd A3 q4 (.lst (List.map V.str ["zz", "y"])) = A4 at t4 v4 ⊢
      have t14 := t13.trans t4
      refine ⟨_, rfl, ot, dz, _, rfl, t14 _ _ haz, rfl, ot, ["zz", "y"], ["y", "zz"], rfl, shZ.mono t14, fun q5 g5 => ?_⟩
      have t5 := same_upd (o := .lst (List.map V.str ["y", "zz"])) g5
      have v5 : (upd A4 q5 (.lst (List.map V.str ["y", "zz"]))) q5 = some (.lst (List.map V.str ["y", "zz"])) := upd_same
      dsimp only
      generalize upd A4 q5 (.lst (List.map V.str ["y", "zz"])) = A5 at t5 v5 ⊢
      have t15 := t14.trans t5
      refine ⟨_, rfl, ot, ["zz", "y"], ["y", "zz"], rfl, shZ.mono t15, catZ, rowZ, fun A6 q6 t6 g6 v6 => ⟨line6, fun tl ftl => ?_⟩⟩
      have t7 := same_upd (o := .lst [V.ref q1, V.ref q2, V.ref q3, V.ref q4, V.ref q5, V.ref q6]) ftl
      have v7 : (upd A6 tl (.lst [V.ref q1, V.ref q2, V.ref q3, V.ref q4, V.ref q5, V.ref q6])) tl = some (.lst [V.ref q1, V.ref q2, V.ref q3, V.ref q4, V.ref q5, V.ref q6]) := upd_same
      generalize upd A6 tl (.lst [V.ref q1, V.ref q2, V.ref q3, V.ref q4, V.ref q5, V.ref q6]) = A7 at t7 v7 ⊢
      have v6 := t7 _ _ v6
      have v5 := t7 _ _ (t6 _ _ v5)
      have v4 := t7 _ _ (t6 _ _ (t5 _ _ v4))
      have v3 := t7 _ _ (t6 _ _ (t5 _ _ (t4 _ _ v3)))
      have v2 := t7 _ _ (t6 _ _ (t5 _ _ (t4 _ _ (t3 _ _ v2))))
      have v1 := t7 _ _ (t6 _ _ (t5 _ _ (t4 _ _ (t3 _ _ (t2 _ _ v1)))))
      have s7 := s6.trans ((t15.trans t6).trans t7)
      clear t1 t2 t3 t4 t5 t6 t7 t12 t13 t14 t15 s6 ham haz shZ g1 g2 g3 g4 g5 g6 ftl
      refine g_set (σ' := [some (.ref a), some (.ref p), some (.ref w), some (.ref hd), some (.ref ma), some (.ref ot), some (.ref tl), o7, o8, o9, o10, o11, o12, o13]) rfl ?_
      -- what is due
      have hw7 := s7 _ _ hw5
      have hc7 := s7 _ _ hc5
      have hr7 := s7 _ _ hr5
      refine ⟨_, rfl, _, rfl, w, _, _, .ref c, rfl, rfl, SqL.of hw7, at0, _, rfl, w, _, _, .ref rr, rfl, rfl, SqL.of hw7, at1, ?_⟩
      refine ⟨_, rfl, w, _, _, .ref c, rfl, rfl, SqL.of hw7, at0, _, rfl, w, _, _, .ref rr, rfl, rfl, SqL.of hw7, at1, c, rr, xs, ys, rfl, hc7, hr7, few, by omega, row.1, cat.2.2.2, fun B1 pl u1 _ hpl => ?_⟩
      refine ⟨line2, fun z3 f3 => ⟨line2, fun z4 f4 => ⟨line2, fun z5 f5 => ⟨line6, fun z6 f6 => ?_⟩⟩⟩⟩
      have u2 := same_upd (o := .lst [V.str "zz", V.str "y"]) f3
      have u3 := same_upd (o := .lst [V.str "y", V.str "zz"]) f4
      have u4 := same_upd (o := .lst [V.int 1, V.int 0]) f5
      have u5 := same_upd (o := .lst [V.ref c, V.ref rr, V.ref pl, V.ref z3, V.ref z4, V.ref z5]) f6
      have y1 := u5 _ _ (u4 _ _ (u3 z3 _ upd_same))
      have y2 := u5 _ _ (u4 z4 _ upd_same)
      have y3 := u5 z5 _ upd_same
      have y4 : (upd (upd (upd (upd B1 z3 (.lst [V.str "zz", V.str "y"])) z4 (.lst [V.str "y", V.str "zz"])) z5 (.lst [V.int 1, V.int 0])) z6 (.lst [V.ref c, V.ref rr, V.ref pl, V.ref z3, V.ref z4, V.ref z5])) z6 = some (.lst [V.ref c, V.ref rr, V.ref pl, V.ref z3, V.ref z4, V.ref z5]) := upd_same
      have u15 := (((u1.trans u2).trans u3).trans u4).trans u5
      have hpl := (((u2.trans u3).trans u4).trans u5) _ _ hpl
      generalize upd (upd (upd (upd B1 z3 (.lst [V.str "zz", V.str "y"])) z4 (.lst [V.str "y", V.str "zz"])) z5 (.lst [V.int 1, V.int 0])) z6 (.lst [V.ref c, V.ref rr, V.ref pl, V.ref z3, V.ref z4, V.ref z5]) = B2 at y1 y2 y3 y4 u15 hpl ⊢
      have eZ : rnk ["zz", "y"] ["y", "zz"] = [1, 0] := by decide +kernel
      rw [eZ] at v6
      have lr : (rnk xs ys).length ≤ 100 := by rw [rnk, List.length_map]; omega
      refine ⟨.ref tl, .ref z6, rfl, Eqd.all (u15 _ _ v7) y4 (by simp) (.cons (Eqd.strs (u15 _ _ v1) (u15 _ _ hc7) few) (.cons (Eqd.strs (u15 _ _ v2) (u15 _ _ hr7) (by omega)) (.cons (Eqd.ints (u15 _ _ v3) hpl lr)
        (.cons (Eqd.strs (u15 _ _ v4) y1 (by simp)) (.cons (Eqd.strs (u15 _ _ v5) y2 (by simp)) (.cons (Eqd.ints (xs := [1, 0]) (u15 _ _ v6) y3 (by simp)) .nil)))))), fun H8 u6 => ⟨true, rfl, iteF ?_⟩⟩
      have s8 := s7.trans (u15.trans u6)
      clear v1 v2 v3 v4 v5 v6 v7 y1 y2 y3 y4 u1 u2 u3 u4 u5 u6 u15 s7 hw7 hc7 hr7 hpl f3 f4 f5 f6
      -- spoil
      refine ⟨_, rfl, ma, xs, ys, rfl, sh5.mono s8, cat, row, fun H9 u7 => ?_⟩
      have s9 := s8.trans u7
      clear s8 u7
      have hw9 := s9 _ _ hw5
      have hc9 := s9 _ _ hc5
      have hr9 := s9 _ _ hr5
      -- a twin
      refine ⟨_, rfl, w, _, _, .ref rr, rfl, rfl, SqL.of hw9, at1, rr, _, rfl, .inl (SqL.of hr9), fun p3 n3 => ?_⟩
      have e1 := same_upd (o := .lst (ys.map V.str)) n3
      refine ⟨_, rfl, w, _, _, .ref c, rfl, rfl, SqL.of (e1 _ _ hw9), at0, c, _, rfl, .inl (SqL.of (e1 _ _ hc9)), fun p4 n4 => ⟨rfl, rfl, ?_⟩⟩
      have e2 := same_upd (o := .lst (xs.map V.str)) n4
      have h1 := e2 p3 _ upd_same
      have h2 : (upd (upd H9 p3 (.lst (ys.map V.str))) p4 (.lst (xs.map V.str))) p4 = some (.lst (xs.map V.str)) := upd_same
      have e3 := e1.trans e2
      generalize upd (upd H9 p3 (.lst (ys.map V.str))) p4 (.lst (xs.map V.str)) = B3 at h1 h2 e3 ⊢
      intro tw dt nt ndt net
      refine made_use (l := p4) (m := p3) h2 h1 cat row nt ndt net fun H10 s10' sht => ⟨rfl, ?_⟩
      have s10 := s9.trans (e3.trans s10')
      have sht := sht.at
      clear e1 e2 e3 h1 h2 s10' s9 hw9 hc9 hr9 n3 n4 nt ndt net
      refine g_set (σ' := [some (.ref a), some (.ref p), some (.ref w), some (.ref hd), some (.ref ma), some (.ref ot), some (.ref tl), some (.ref tw), o8, o9, o10, o11, o12, o13]) rfl ?_
      refine ⟨_, rfl, _, rfl, ma, w, xs, ys, rfl, sh5.mono s10, wd5.mono s10, cat, row, fun H11 u11 => ⟨true, rfl, iteF ?_⟩⟩
      have s11 := s10.trans u11
      have sht := sht.mono u11
      clear u11 s10
      have shm := sh5.mono s11
      obtain ⟨dm, cm, rm, ham, _, _⟩ := id shm
      obtain ⟨dt, ct, rt, hat, _, _⟩ := id sht
      have tyt : TyX K H11 (.ref tw) (.ref C) := .base (.ins hat T.cl T.ha T.hn T.ht T.eq.ob)
      have R1 : EqR K C ma (.ref tw) H11 true := ⟨xs, ys, shm, wx, wy, .inl ⟨tw, xs, ys, rfl, sht, wx, wy, by simp⟩⟩
      refine ⟨_, rfl, _, rfl, ma, dm, _, .ref C, true, rfl, ham, tyt, nf, R1, true, rfl, iteF ?_⟩
      refine ⟨_, rfl, _, rfl, ma, dm, _, .ref C, true, rfl, ham, tyt, nf, R1, false, rfl, iteF ?_⟩
      have back := row.flip cat
      refine ⟨_, rfl, ma, xs, ys, rfl, shm, cat, row, fun H12 x1 u12 _ sx1 => ?_⟩
      refine ⟨x1, ys, xs, rfl, sx1, back.1, back.2, fun H13 x2 u13 _ sx2 => ?_⟩
      have s13 := s11.trans (u12.trans u13)
      have sht := sht.mono (u12.trans u13)
      clear R1 tyt hat ham shm u12 u13 sx1 s11
      obtain ⟨dt, ct, rt, hat, _, _⟩ := id sht
      obtain ⟨dx, cx, rx, hax, _, _⟩ := id sx2
      have tyt : TyX K H13 (.ref tw) (.ref C) := .base (.ins hat T.cl T.ha T.hn T.ht T.eq.ob)
      have R1 : EqR K C x2 (.ref tw) H13 true := ⟨xs, ys, sx2, wx, wy, .inl ⟨tw, xs, ys, rfl, sht, wx, wy, by simp⟩⟩
      refine ⟨_, rfl, x2, dx, _, .ref C, true, rfl, hax, tyt, nf, R1, false, rfl, iteF ?_⟩
      clear R1 tyt hat hax sx2
      -- the last book
      obtain ⟨ys0, zl, eys⟩ : ∃ ys0 zl, ys = ys0 ++ [zl] := by
        rcases List.eq_nil_or_concat ys with e | ⟨a, z, e⟩
        · rw [e] at rowl; simp at rowl; omega
        · exact ⟨a, z, by rw [e]; simp⟩
      have atl : atI (ys.map V.str) (-1) = some (.str zl) := by
        rw [eys, List.map_append]
        exact atI_last _ _
      have hzy : zl ∈ ys := by rw [eys]; simp
      have hzx : zl ∈ xs := row.1 zl hzy
      have hw13 := s13 _ _ hw5
      have hc13 := s13 _ _ hc5
      have hr13 := s13 _ _ hr5
      refine ⟨_, rfl, w, _, _, .ref rr, rfl, rfl, SqL.of hw13, at1, _, rfl, rr, _, _, .str zl, rfl, rfl, SqL.of hr13, atl, ?_⟩
      refine ⟨_, rfl, w, _, _, .ref rr, rfl, rfl, SqL.of hw13, at1, rr, _, rfl, .inl (SqL.of hr13), fun so nso => ⟨_, _, rfl, ?_⟩⟩
      have u14 := same_upd (o := .lst (ys.map V.str)) nso
      have hso : (upd H13 so (.lst (ys.map V.str))) so = some (.lst (ys.map V.str)) := upd_same
      generalize upd H13 so (.lst (ys.map V.str)) = H14 at u14 hso ⊢
      have sht := sht.mono u14
      -- asked by name
      refine ⟨_, rfl, rfl, rfl, tw, xs, ys, rfl, sht, cat, row, fun A1 q1 t1 _ v1 => ?_⟩
      refine ⟨_, rfl, _, rfl, rfl, rfl, tw, xs, ys, zl, rfl, sht.mono t1, hzx, hzy, fun A2 t2 => ?_⟩
      refine ⟨_, rfl, _, rfl, rfl, rfl, tw, xs, ys, zl, rfl, (sht.mono t1).mono t2, hzx, hzx, fun A3 t3 => ⟨Nat.le_trans (show 3 ≤ 6 by decide) line6, fun tl2 ftl => ?_⟩⟩
      have t4 := same_upd (o := .lst [V.ref q1, V.int ((ys.idxOf zl : Nat) : Int), V.int ((xs.idxOf zl : Nat) : Int)]) ftl
      have v4 : (upd A3 tl2 (.lst [V.ref q1, V.int ((ys.idxOf zl : Nat) : Int), V.int ((xs.idxOf zl : Nat) : Int)])) tl2 = some (.lst [V.ref q1, V.int ((ys.idxOf zl : Nat) : Int), V.int ((xs.idxOf zl : Nat) : Int)]) := upd_same
      generalize upd A3 tl2 (.lst [V.ref q1, V.int ((ys.idxOf zl : Nat) : Int), V.int ((xs.idxOf zl : Nat) : Int)]) = A4 at t4 v4 ⊢
      have v1 := t4 _ _ (t3 _ _ (t2 _ _ v1))
      have t14 := ((t1.trans t2).trans t3).trans t4
      clear t1 t2 t3 t4 ftl
      refine g_set (σ' := [some (.ref a), some (.ref p), some (.ref w), some (.ref hd), some (.ref ma), some (.ref ot), some (.ref tl2), some (.ref tw), some (.str zl), some (.ref so), o10, o11, o12, o13]) rfl ?_
      have hw4 := t14 _ _ (u14 _ _ hw13)
      have hc4 := t14 _ _ (u14 _ _ hc13)
      have hr4 := t14 _ _ (u14 _ _ hr13)
      refine ⟨_, rfl, _, rfl, w, _, _, .ref c, rfl, rfl, SqL.of hw4, at0, _, rfl, w, _, _, .ref rr, rfl, rfl, SqL.of hw4, at1, c, rr, xs, ys, rfl, hc4, hr4, few, by omega, row.1, cat.2.2.2, fun B1 pl u1 _ hpl => ?_⟩
      refine ⟨_, rfl, w, _, _, .ref rr, rfl, rfl, SqL.of (u1 _ _ hw4), at1, rr, _, rfl, .inl (SqL.of (u1 _ _ hr4)), _, _, rfl, rfl, ?_⟩
      refine ⟨_, rfl, w, _, _, .ref c, rfl, rfl, SqL.of (u1 _ _ hw4), at0, _, rfl, Nat.le_trans (show 1 ≤ 6 by decide) line6, fun z1 f1 => ?_⟩
      have u2 := same_upd (o := .lst [V.str zl]) f1
      refine ⟨c, z1, xs, [zl], rfl, u2 _ _ (u1 _ _ hc4), upd_same, few, by simp, by simpa using hzx, cat.2.2.2, fun B2 pl2 u3 _ hpl2 => ?_⟩
      refine ⟨pl2, _, _, .int ((xs.idxOf zl : Nat) : Int), rfl, rfl, SqL.of hpl2, (atI_nat (j := 0) rfl), Nat.le_trans (show 3 ≤ 6 by decide) line6, fun z2 f2 => ?_⟩
      have u4 := same_upd (o := .lst [V.ref pl, V.int ((((ys.map V.str).length : Nat) : Int) - 1), V.int ((xs.idxOf zl : Nat) : Int)]) f2
      have y4 : (upd B2 z2 (.lst [V.ref pl, V.int ((((ys.map V.str).length : Nat) : Int) - 1), V.int ((xs.idxOf zl : Nat) : Int)])) z2 = some (.lst [V.ref pl, V.int ((ys.idxOf zl : Nat) : Int), V.int ((xs.idxOf zl : Nat) : Int)]) := by
        have ei : ys.idxOf zl = ys.length - 1 := by
          refine idx_eq row.2.1 ?_
          rw [eys]
          simp
        rw [upd_same, List.length_map, ei, show ((ys.length : Nat) : Int) - 1 = ((ys.length - 1 : Nat) : Int) by omega]
      generalize upd B2 z2 (.lst [V.ref pl, V.int ((((ys.map V.str).length : Nat) : Int) - 1), V.int ((xs.idxOf zl : Nat) : Int)]) = B3 at u4 y4 ⊢
      have u14b := ((u1.trans u2).trans u3).trans u4
      have hpl := u4 _ _ (u3 _ _ (u2 _ _ hpl))
      have lr : (rnk xs ys).length ≤ 100 := by rw [rnk, List.length_map]; omega
      refine ⟨.ref tl2, .ref z2, rfl, Eqd.all (u14b _ _ v4) y4 (by simp) (.cons (Eqd.ints (u14b _ _ v1) hpl lr) (.cons (Eqd.scal (.inr (.inl ⟨_, rfl⟩))) (.cons (Eqd.scal (.inr (.inl ⟨_, rfl⟩))) .nil))), fun H15 u5 => ⟨true, rfl, iteF ?_⟩⟩
      have s14 := (t14.trans u14b).trans u5
      have hso := s14 _ _ hso
      have s15 := s13.trans (u14.trans s14)
      clear v1 v4 u1 u2 u3 u4 u14b u5 hpl hpl2 y4 f1 f2 t14 hw4 hc4 hr4 sht hw13 hc13 hr13
      -- the whole
      refine ⟨_, rfl, rfl, rfl, so, ys, rfl, hso, back.1, fun H16 wh u16 nwh shw => ?_⟩
      refine g_set (σ' := [some (.ref a), some (.ref p), some (.ref w), some (.ref hd), some (.ref ma), some (.ref ot), some (.ref tl2), some (.ref tw), some (.str zl), some (.ref so), some (.ref wh), o11, o12, o13]) rfl ?_
      have hso16 := u16 _ _ hso
      refine ⟨_, rfl, .inl ⟨rfl, _, SqL.of hso16⟩, so, _, rfl, rfl, hso16, ?_⟩
      have shw : ShAt (upd H16 so (.lst (ys.map V.str).reverse)) C wh ys ys := shw.kept nwh fun b o n e => by
        rw [upd_ne (fun z => by rw [z, hso] at n; cases n)]
        exact e
      have s16 : Same H5 (upd H16 so (.lst (ys.map V.str).reverse)) := fun b o e => by
        rw [upd_ne (ne_of_none (s13 _ _ e) nso)]
        exact u16 _ _ (s15 _ _ e)
      generalize upd H16 so (.lst (ys.map V.str).reverse) = H17 at shw s16 ⊢
      clear hso16 hso u16 s15 s14 u14 nso s13 nwh
      have hw17 := s16 _ _ hw5
      have hr17 := s16 _ _ hr5
      refine ⟨_, rfl, _, rfl, w, _, _, .ref rr, rfl, rfl, SqL.of hw17, at1, _, rfl, w, _, _, .ref rr, rfl, rfl, SqL.of hw17, at1, line2, fun z1 f1 => ?_⟩
      have u1 := same_upd (o := .lst [V.ref rr, V.ref rr]) f1
      have wdY : WorldAt (upd H17 z1 (.lst [V.ref rr, V.ref rr])) z1 ys ys := ⟨rr, rr, upd_same, u1 _ _ hr17, u1 _ _ hr17⟩
      refine ⟨wh, z1, ys, ys, rfl, shw.mono u1, wdY, back.1, back.1.row, fun H18 u2 => ⟨true, rfl, iteF ?_⟩⟩
      have s18 := s16.trans (u1.trans u2)
      refine ⟨_, rfl, w, xs, ys, rfl, wd5.mono s18, cat, row, fun H19 u3 => ⟨true, rfl, iteF ?_⟩⟩
      have s19 := s18.trans u3
      clear shw wdY u1 u2 u3 s18 s16 hw17 hr17 f1
      -- compared, grown
      refine ⟨_, rfl, _, rfl, _, rfl, p, ma, w, b + 1 + 1400, xs, ys, rfl, hP5.same s19, by omega, sh5.mono s19, wd5.mono s19, cat, row, by omega, fun H20 but20 hP20 => ⟨true, rfl, iteF ?_⟩⟩
      have wd20 := (wd5.mono s19).but (hP5.same s19) but20
      refine ⟨_, rfl, w, xs, ys, rfl, wd20, cat, row, fun H21 u21 => ⟨true, rfl, iteF ?_⟩⟩
      have but21 : But p H H21 := (but5.trans (But.same s19)).trans (but20.trans (But.same u21))
      refine ⟨⟨_, _, _, _, _, _, _, _, _, _, _, _, _, rfl⟩, but21 _ _ nLp hL, fun x hx => ?_⟩
      by_cases e : x = p
      · rw [e]
        exact (hP20.same u21).le (by omega)
      · obtain ⟨p0, p1, p2, p3, h, rest⟩ := purses x hx
        exact PurseAt.le ⟨p0, p1, p2, p3, but21 _ _ e h, rest⟩ (by omega)
    · rintro σ H ⟨⟨o1, o2, o3, o4, o5, o6, o7, o8, o9, o10, o11, o12, o13, rfl⟩, _, _⟩
      have line1 : (1 : Nat) ≤ sizeLine := by omega
      refine ⟨line2, fun y1 f1 => ⟨line2, fun y2 f2 => ⟨line2, fun y3 f3 => ⟨line2, fun y4 f4 => ⟨line2, fun y5 f5 => ⟨line2, fun y6 f6 => ⟨line1, fun y7 f7 => ⟨line2, fun y8 f8 => ⟨line1, fun y9 f9 => ⟨line9, fun rw frw => ?_⟩⟩⟩⟩⟩⟩⟩⟩⟩⟩
      have e1 := same_upd (o := .lst [V.str "a", V.str "aa"]) f1
      have e2 := same_upd (o := .lst [V.str "aa", V.str "a"]) f2
      have e3 := same_upd (o := .lst [V.str "ab", V.str "c"]) f3
      have e4 := same_upd (o := .lst [V.str "a", V.str "bc"]) f4
      have e5 := same_upd (o := .lst [V.str "c", V.str "ab"]) f5
      have e6 := same_upd (o := .lst [V.str "bc", V.str "a"]) f6
      have e7 := same_upd (o := .lst [V.str "aaa"]) f7
      have e8 := same_upd (o := .lst [V.str "b", V.str "ac"]) f8
      have e9 := same_upd (o := .lst [V.str "acb"]) f9
      have e10 := same_upd (o := .lst [V.ref y1, V.ref y2, V.ref y3, V.ref y4, V.ref y5, V.ref y6, V.ref y7, V.ref y8, V.ref y9]) frw
      have h1 := e10 y1 _ (e9 _ _ (e8 _ _ (e7 _ _ (e6 _ _ (e5 _ _ (e4 _ _ (e3 _ _ (e2 _ _ (upd_same (o := .lst [V.str "a", V.str "aa"]))))))))))
      have h2 := e10 y2 _ (e9 _ _ (e8 _ _ (e7 _ _ (e6 _ _ (e5 _ _ (e4 _ _ (e3 _ _ (upd_same (o := .lst [V.str "aa", V.str "a"])))))))))
      have h3 := e10 y3 _ (e9 _ _ (e8 _ _ (e7 _ _ (e6 _ _ (e5 _ _ (e4 _ _ (upd_same (o := .lst [V.str "ab", V.str "c"]))))))))
      have h4 := e10 y4 _ (e9 _ _ (e8 _ _ (e7 _ _ (e6 _ _ (e5 _ _ (upd_same (o := .lst [V.str "a", V.str "bc"])))))))
      have h5 := e10 y5 _ (e9 _ _ (e8 _ _ (e7 _ _ (e6 _ _ (upd_same (o := .lst [V.str "c", V.str "ab"]))))))
      have h6 := e10 y6 _ (e9 _ _ (e8 _ _ (e7 _ _ (upd_same (o := .lst [V.str "bc", V.str "a"])))))
      have h7 := e10 y7 _ (e9 _ _ (e8 _ _ (upd_same (o := .lst [V.str "aaa"]))))
      have h8 := e10 y8 _ (e9 _ _ (upd_same (o := .lst [V.str "b", V.str "ac"])))
      have h9 := e10 y9 _ (upd_same (o := .lst [V.str "acb"]))
      have hrw : (upd (upd (upd (upd (upd (upd (upd (upd (upd (upd H y1 (.lst [V.str "a", V.str "aa"])) y2 (.lst [V.str "aa", V.str "a"])) y3 (.lst [V.str "ab", V.str "c"])) y4 (.lst [V.str "a", V.str "bc"])) y5 (.lst [V.str "c", V.str "ab"])) y6 (.lst [V.str "bc", V.str "a"])) y7 (.lst [V.str "aaa"])) y8 (.lst [V.str "b", V.str "ac"])) y9 (.lst [V.str "acb"])) rw (.lst [V.ref y1, V.ref y2, V.ref y3, V.ref y4, V.ref y5, V.ref y6, V.ref y7, V.ref y8, V.ref y9])) rw = some (.lst ([y1, y2, y3, y4, y5, y6, y7, y8, y9].map V.ref)) := upd_same
      have st : StandAt (upd (upd (upd (upd (upd (upd (upd (upd (upd (upd H y1 (.lst [V.str "a", V.str "aa"])) y2 (.lst [V.str "aa", V.str "a"])) y3 (.lst [V.str "ab", V.str "c"])) y4 (.lst [V.str "a", V.str "bc"])) y5 (.lst [V.str "c", V.str "ab"])) y6 (.lst [V.str "bc", V.str "a"])) y7 (.lst [V.str "aaa"])) y8 (.lst [V.str "b", V.str "ac"])) y9 (.lst [V.str "acb"])) rw (.lst [V.ref y1, V.ref y2, V.ref y3, V.ref y4, V.ref y5, V.ref y6, V.ref y7, V.ref y8, V.ref y9])) [y1, y2, y3, y4, y5, y6, y7, y8, y9] rowsS := ⟨h1, h2, h3, h4, h5, h6, h7, h8, h9, trivial⟩
      have l9 : ([y1, y2, y3, y4, y5, y6, y7, y8, y9].map V.ref).length = 9 := rfl
      clear h1 h2 h3 h4 h5 h6 h7 h8 h9 e1 e2 e3 e4 e5 e6 e7 e8 e9 e10
      change gName 11 (.ref rw) _ (upd (upd (upd (upd (upd (upd (upd (upd (upd (upd H y1 (.lst [V.str "a", V.str "aa"])) y2 (.lst [V.str "aa", V.str "a"])) y3 (.lst [V.str "ab", V.str "c"])) y4 (.lst [V.str "a", V.str "bc"])) y5 (.lst [V.str "c", V.str "ab"])) y6 (.lst [V.str "bc", V.str "a"])) y7 (.lst [V.str "aaa"])) y8 (.lst [V.str "b", V.str "ac"])) y9 (.lst [V.str "acb"])) rw (.lst [V.ref y1, V.ref y2, V.ref y3, V.ref y4, V.ref y5, V.ref y6, V.ref y7, V.ref y8, V.ref y9])) _
      refine g_set (σ' := [some (.ref a), o1, o2, o3, o4, o5, o6, o7, o8, o9, o10, some (.ref rw), o12, o13]) rfl ?_
      generalize (upd (upd (upd (upd (upd (upd (upd (upd (upd (upd H y1 (.lst [V.str "a", V.str "aa"])) y2 (.lst [V.str "aa", V.str "a"])) y3 (.lst [V.str "ab", V.str "c"])) y4 (.lst [V.str "a", V.str "bc"])) y5 (.lst [V.str "c", V.str "ab"])) y6 (.lst [V.str "bc", V.str "a"])) y7 (.lst [V.str "aaa"])) y8 (.lst [V.str "b", V.str "ac"])) y9 (.lst [V.str "acb"])) rw (.lst [V.ref y1, V.ref y2, V.ref y3, V.ref y4, V.ref y5, V.ref y6, V.ref y7, V.ref y8, V.ref y9])) = H1 at hrw st ⊢
      generalize [y1, y2, y3, y4, y5, y6, y7, y8, y9] = ads at hrw st l9
      refine ⟨_, rfl, rw, _, rfl, .inl (SqL.of hrw), _, rfl, by omega, by rw [l9]; decide, ?_⟩
      rw [l9]
      refine for_range (n := 9) (fun i σ H' => (∃ u v : Option V, σ = [some (.ref a), o1, o2, o3, o4, o5, o6, o7, o8, o9, o10, some (.ref rw), u, v]) ∧ Same H1 H') ⟨⟨_, _, rfl⟩, fun _ _ e => e⟩ ?_ ?_
      · rintro i σ H2 hi ⟨⟨u, v, rfl⟩, s2⟩
        refine g_set (σ' := [some (.ref a), o1, o2, o3, o4, o5, o6, o7, o8, o9, o10, some (.ref rw), some (.int (0 + (i : Int))), v]) rfl ?_
        refine ⟨_, rfl, rw, _, rfl, .inl (SqL.of (s2 _ _ hrw)), _, rfl, by omega, by rw [l9]; decide, ?_⟩
        rw [l9]
        refine for_range (n := 9) (fun j σ H' => (∃ v : Option V, σ = [some (.ref a), o1, o2, o3, o4, o5, o6, o7, o8, o9, o10, some (.ref rw), some (.int (0 + (i : Int))), v]) ∧ Same H1 H') ⟨⟨_, rfl⟩, s2⟩ ?_ ?_
        · rintro j σ H3 hj ⟨⟨v, rfl⟩, s3⟩
          refine g_set (σ' := [some (.ref a), o1, o2, o3, o4, o5, o6, o7, o8, o9, o10, some (.ref rw), some (.int (0 + (i : Int))), some (.int (0 + (j : Int)))]) rfl ?_
          obtain ⟨zi, ei⟩ : ∃ z, rowsS[i]? = some z := ⟨_, List.getElem?_eq_getElem (show i < rowsS.length from hi)⟩
          obtain ⟨zj, ej⟩ : ∃ z, rowsS[j]? = some z := ⟨_, List.getElem?_eq_getElem (show j < rowsS.length from hj)⟩
          obtain ⟨ai, gi, ki⟩ := (st.mono s3).get ei
          obtain ⟨aj, gj, kj⟩ := (st.mono s3).get ej
          have ci := rows_cat zi (List.mem_of_getElem? ei)
          have cj := rows_cat zj (List.mem_of_getElem? ej)
          have ati : atI (ads.map V.ref) (0 + (i : Int)) = some (.ref ai) := by
            rw [Int.zero_add]
            exact atI_nat (by rw [List.getElem?_map, gi]; rfl)
          have atj : atI (ads.map V.ref) (0 + (j : Int)) = some (.ref aj) := by
            rw [Int.zero_add]
            exact atI_nat (by rw [List.getElem?_map, gj]; rfl)
          refine ⟨_, rfl, _, rfl, rw, _, _, .ref ai, rfl, rfl, SqL.of (s3 _ _ hrw), ati, ai, zi, rfl, ki, ci, fun H4 x1 s4 _ sh1 => ?_⟩
          refine ⟨_, rfl, _, rfl, rw, _, _, .ref aj, rfl, rfl, SqL.of (s4 _ _ (s3 _ _ hrw)), atj, aj, zj, rfl, s4 _ _ kj, cj, fun H5 x2 s5 _ sh2 => ?_⟩
          have sh1 := sh1.at.mono s5
          have sh2 := sh2.at
          obtain ⟨d1, _, _, g1, _, _⟩ := id sh1
          obtain ⟨d2, _, _, g2, _, _⟩ := id sh2
          have ty2 : TyX K H5 (.ref x2) (.ref C) := .base (.ins g2 T.cl T.ha T.hn T.ht T.eq.ob)
          have same : decide (zi = zj) = decide (V.int (0 + (i : Int)) = V.int (0 + (j : Int))) := by
            refine decide_eq_decide.2 ⟨fun e => ?_, fun e => ?_⟩
            · subst e
              have := (List.getElem?_inj (show i < rowsS.length from hi) rows_nodup).1 (ei.trans ej.symm)
              rw [this]
            · injection e with e
              have : i = j := by omega
              subst this
              exact Option.some.inj (ei.symm.trans ej)
          refine ⟨x1, d1, _, .ref C, decide (zi = zj), rfl, g1, ty2, nf, ⟨zi, zi, sh1, ci.2.2.1, ci.2.2.1, .inl ⟨x2, zj, zj, rfl, sh2, cj.2.2.1, cj.2.2.1, by simp⟩⟩, ?_⟩
          refine ⟨_, rfl, _, rfl, rfl, rfl, _, rfl, ?_⟩
          rw [decide_eq_true (show V.bl (id (decide (zi = zj))) = V.bl (decide (V.int (0 + (i : Int)) = V.int (0 + (j : Int)))) by rw [id, same])]
          refine iteF ?_
          exact ⟨⟨_, rfl⟩, s3.trans (s4.trans s5)⟩
        · rintro σ H3 ⟨⟨v, rfl⟩, s3⟩
          exact ⟨⟨_, _, rfl⟩, s3⟩
      · rintro σ H2 ⟨⟨u, v, rfl⟩, _⟩
        refine ⟨line2, fun b1 f1 => ⟨line2, fun c1 g1 => ?_⟩⟩
        have u1 := (same_upd (o := .lst [V.str "a", V.str "aa"]) f1).trans (same_upd (o := .lst [V.str "a", V.str "aa"]) g1)
        have p1 := same_upd (o := .lst [V.str "a", V.str "aa"]) g1 b1 _ upd_same
        have q1 : (upd (upd H2 b1 (.lst [V.str "a", V.str "aa"])) c1 (.lst [V.str "a", V.str "aa"])) c1 = some (.lst [V.str "a", V.str "aa"]) := upd_same
        generalize upd (upd H2 b1 (.lst [V.str "a", V.str "aa"])) c1 (.lst [V.str "a", V.str "aa"]) = M1 at u1 p1 q1 ⊢
        intro x1 dx1 nx1 ndx1 nex1
        refine made_use (xs := ["a", "aa"]) (ys := ["a", "aa"]) (l := b1) (m := c1) p1 q1 (Cat.of (by decide +kernel)) (Row.of (by decide +kernel)) nx1 ndx1 nex1 fun N1 s1 sh1 => ⟨rfl, ?_⟩
        have sh1 := sh1.at
        have s1 := u1.trans s1
        clear u1 p1 q1 f1 g1 nx1 ndx1 nex1
        refine ⟨line2, fun b2 f2 => ⟨line2, fun c2 g2 => ?_⟩⟩
        have u2 := (same_upd (o := .lst [V.str "a", V.str "aa"]) f2).trans (same_upd (o := .lst [V.str "aa", V.str "a"]) g2)
        have p2 := same_upd (o := .lst [V.str "aa", V.str "a"]) g2 b2 _ upd_same
        have q2 : (upd (upd N1 b2 (.lst [V.str "a", V.str "aa"])) c2 (.lst [V.str "aa", V.str "a"])) c2 = some (.lst [V.str "aa", V.str "a"]) := upd_same
        generalize upd (upd N1 b2 (.lst [V.str "a", V.str "aa"])) c2 (.lst [V.str "aa", V.str "a"]) = M2 at u2 p2 q2 ⊢
        intro x2 dx2 nx2 ndx2 nex2
        refine made_use (xs := ["a", "aa"]) (ys := ["aa", "a"]) (l := b2) (m := c2) p2 q2 (Cat.of (by decide +kernel)) (Row.of (by decide +kernel)) nx2 ndx2 nex2 fun N2 s2 sh2 => ⟨rfl, ?_⟩
        have sh2 := sh2.at
        have s2 := u2.trans s2
        clear u2 p2 q2 f2 g2 nx2 ndx2 nex2
        have sh1 := sh1.mono s2
        obtain ⟨d1, _, _, i1, _, _⟩ := id sh1
        obtain ⟨d2, _, _, i2, _, _⟩ := id sh2
        refine ⟨x1, d1, _, .ref C, false, rfl, i1, .base (.ins i2 T.cl T.ha T.hn T.ht T.eq.ob), nf, ⟨_, _, sh1, wAll ["a", "aa"] (by decide +kernel), wAll ["a", "aa"] (by decide +kernel), .inl ⟨x2, _, _, rfl, sh2, wAll ["a", "aa"] (by decide +kernel), wAll ["aa", "a"] (by decide +kernel), by decide +kernel⟩⟩, false, rfl, iteF ?_⟩
        refine ⟨line2, fun b3 f3 => ⟨line2, fun c3 g3 => ?_⟩⟩
        have u3 := (same_upd (o := .lst [V.str "aa", V.str "a"]) f3).trans (same_upd (o := .lst [V.str "a", V.str "aa"]) g3)
        have p3 := same_upd (o := .lst [V.str "a", V.str "aa"]) g3 b3 _ upd_same
        have q3 : (upd (upd N2 b3 (.lst [V.str "aa", V.str "a"])) c3 (.lst [V.str "a", V.str "aa"])) c3 = some (.lst [V.str "a", V.str "aa"]) := upd_same
        generalize upd (upd N2 b3 (.lst [V.str "aa", V.str "a"])) c3 (.lst [V.str "a", V.str "aa"]) = M3 at u3 p3 q3 ⊢
        intro x3 dx3 nx3 ndx3 nex3
        refine made_use (xs := ["aa", "a"]) (ys := ["a", "aa"]) (l := b3) (m := c3) p3 q3 (Cat.of (by decide +kernel)) (Row.of (by decide +kernel)) nx3 ndx3 nex3 fun N3 s3 sh3 => ⟨rfl, ?_⟩
        have sh3 := sh3.at
        have s3 := u3.trans s3
        clear u3 p3 q3 f3 g3 nx3 ndx3 nex3
        refine ⟨line2, fun b4 f4 => ⟨line2, fun c4 g4 => ?_⟩⟩
        have u4 := (same_upd (o := .lst [V.str "a", V.str "aa"]) f4).trans (same_upd (o := .lst [V.str "a", V.str "aa"]) g4)
        have p4 := same_upd (o := .lst [V.str "a", V.str "aa"]) g4 b4 _ upd_same
        have q4 : (upd (upd N3 b4 (.lst [V.str "a", V.str "aa"])) c4 (.lst [V.str "a", V.str "aa"])) c4 = some (.lst [V.str "a", V.str "aa"]) := upd_same
        generalize upd (upd N3 b4 (.lst [V.str "a", V.str "aa"])) c4 (.lst [V.str "a", V.str "aa"]) = M4 at u4 p4 q4 ⊢
        intro x4 dx4 nx4 ndx4 nex4
        refine made_use (xs := ["a", "aa"]) (ys := ["a", "aa"]) (l := b4) (m := c4) p4 q4 (Cat.of (by decide +kernel)) (Row.of (by decide +kernel)) nx4 ndx4 nex4 fun N4 s4 sh4 => ⟨rfl, ?_⟩
        have sh4 := sh4.at
        have s4 := u4.trans s4
        clear u4 p4 q4 f4 g4 nx4 ndx4 nex4
        have sh3 := sh3.mono s4
        obtain ⟨d3, _, _, i3, _, _⟩ := id sh3
        obtain ⟨d4, _, _, i4, _, _⟩ := id sh4
        refine ⟨x3, d3, _, .ref C, false, rfl, i3, .base (.ins i4 T.cl T.ha T.hn T.ht T.eq.ob), nf, ⟨_, _, sh3, wAll ["aa", "a"] (by decide +kernel), wAll ["a", "aa"] (by decide +kernel), .inl ⟨x4, _, _, rfl, sh4, wAll ["a", "aa"] (by decide +kernel), wAll ["a", "aa"] (by decide +kernel), by decide +kernel⟩⟩, false, rfl, iteF ?_⟩
        refine ⟨line2, fun b5 f5 => ⟨line2, fun c5 g5 => ?_⟩⟩
        have u5 := (same_upd (o := .lst [V.str "b", V.str "a"]) f5).trans (same_upd (o := .lst [V.str "a", V.str "b"]) g5)
        have p5 := same_upd (o := .lst [V.str "a", V.str "b"]) g5 b5 _ upd_same
        have q5 : (upd (upd N4 b5 (.lst [V.str "b", V.str "a"])) c5 (.lst [V.str "a", V.str "b"])) c5 = some (.lst [V.str "a", V.str "b"]) := upd_same
        generalize upd (upd N4 b5 (.lst [V.str "b", V.str "a"])) c5 (.lst [V.str "a", V.str "b"]) = M5 at u5 p5 q5 ⊢
        intro x5 dx5 nx5 ndx5 nex5
        refine made_use (xs := ["b", "a"]) (ys := ["a", "b"]) (l := b5) (m := c5) p5 q5 (Cat.of (by decide +kernel)) (Row.of (by decide +kernel)) nx5 ndx5 nex5 fun N5 s5 sh5 => ⟨rfl, ?_⟩
        have sh5 := sh5.at
        have s5 := u5.trans s5
        clear u5 p5 q5 f5 g5 nx5 ndx5 nex5
        refine ⟨x5, ["b", "a"], ["a", "b"], rfl, sh5, Cat.of (by decide +kernel), Row.of (by decide +kernel), fun N6 r6 s6 _ h6 => ?_⟩
        have e6 : rnk ["b", "a"] ["a", "b"] = [1, 0] := by decide +kernel
        rw [e6] at h6
        refine ⟨line2, fun r7 f7 => ?_⟩
        have h7 := same_upd (o := .lst [V.int 1, V.int 0]) f7 _ _ h6
        refine ⟨.list [.int 1, .int 0], .list [.int 1, .int 0], .lst (SqL.of h7) (.cons (.int _) (.cons (.int _) .nil)), .lst (SqL.of upd_same) (.cons (.int _) (.cons (.int _) .nil)), by decide +kernel, by decide +kernel, ?_⟩
        refine ⟨true, (by decide +kernel), iteT ?_⟩
        generalize upd N6 r7 (.lst [V.int 1, V.int 0]) = N7
        refine ⟨line1, fun b8 f8 => ?_⟩
        have h8 : (upd N7 b8 (.lst [V.str "z"])) b8 = some (.lst [V.str "z"]) := upd_same
        generalize upd N7 b8 (.lst [V.str "z"]) = N8 at h8 ⊢
        refine ⟨b8, ["z"], rfl, h8, Cat.of (by decide +kernel), fun N9 x9 s9 _ sh9 => ?_⟩
        have sh9 := sh9.at
        obtain ⟨d9, _, _, i9, _, _⟩ := id sh9
        refine ⟨x9, d9, _, rfl, i9, rfl, x9, ["z"], ["z"], rfl, sh9, fun r9 f9 => ?_⟩
        have h9 : (upd N9 r9 (.lst [V.str "z"])) r9 = some (.lst [V.str "z"]) := upd_same
        refine ⟨line1, fun r10 f10 => ?_⟩
        have h10 := same_upd (o := .lst [V.str "z"]) f10 _ _ h9
        refine ⟨.list [.str "z"], .list [.str "z"], .lst (SqL.of h10) (.cons (.str _) .nil), .lst (SqL.of upd_same) (.cons (.str _) .nil), by decide +kernel, by decide +kernel, ?_⟩
        have e10 : PyData.eqv (.list [.str "z"]) (.list [.str "z"]) = true := by decide +kernel
        rw [e10]
        exact q _
end
end K2

end
-- K2N
section
set_option Elab.async false
set_option linter.all false
set_option maxRecDepth 100000
set_option maxHeartbeats 4100000
/-! ### what the top has written -/
namespace K2
open L2 PyProof.Rows PySem PySem.Spec TS
/-- a def of the module's -/
def RawF (K : PySem.W.Frag) (x : Str) (st : Stmt) : Prop := ∃ f fd, PySem.W.nsIn K mainGlobals x = some (some (.ref f)) ∧ Fun K x x st f fd
theorem rawF_mk {K : PySem.W.Frag} {x : Str} {st : Stmt} {f : Addr} {oc : Value} {od an : Option Addr} {sl : Array (Option Value)} {kV dc pm cd ct : Value} (a : PySem.W.nsIn K mainGlobals x = some (some (.ref f)))
    (l : K.lookup f = some ⟨oc, od, .func (PySem.W.fnOf x x (defArgs st) (defBody st) (defScope st) .none kV dc pm an cd ct), sl⟩) (c : PySem.W.codeIn K cd x = true) (k : PySem.W.keepIn K (.ref f) = true) : RawF K x st :=
  ⟨f, _, a, fun_mk l c k⟩
/-- a method of the class at C -/
def RawM (K : PySem.W.Frag) (C : Addr) (x q : Str) (st : Stmt) (f : Addr) : Prop := ∃ fd, PySem.W.findIn K (.ref C) x = some (some (.ref f)) ∧ PySem.W.isFn K (.ref f) = true ∧ Fun K x q st f fd
theorem rawM_mk {K : PySem.W.Frag} {C : Addr} {x q : Str} {st : Stmt} {f : Addr} {oc : Value} {od an : Option Addr} {sl : Array (Option Value)} {kV dc pm cd ct : Value} (a : PySem.W.findIn K (.ref C) x = some (some (.ref f))) (i : PySem.W.isFn K (.ref f) = true)
    (l : K.lookup f = some ⟨oc, od, .func (PySem.W.fnOf x q (defArgs st) (defBody st) (defScope st) .none kV dc pm an cd ct), sl⟩) (c : PySem.W.codeIn K cd q = true) (k : PySem.W.keepIn K (.ref f) = true) : RawM K C x q st f :=
  ⟨_, a, i, fun_mk l c k⟩
/-- what is looked up of the class Shelf -/
def clsOk (K : PySem.W.Frag) (C : Addr) : Bool :=
  (PySem.W.plainGet K C Str.empty && PySem.W.hasDictIn K C && PySem.W.plainOver K C && PySem.W.makesIn K C && PySem.W.keepIn K (.ref C)) &&
  (decide (PySem.W.findIn K (.ref C) "__setattr__" = some (some (.builtin "object.__setattr__"))) && decide (PySem.W.findIn K (.ref C) "_catalogue" = some none) && decide (PySem.W.findIn K (.ref C) "_row" = some none)) &&
  (decide (PySem.W.findIn K (.ref C) "__ne__" = some (some (.builtin "object.__ne__"))) && decide (PySem.W.mroIn K C (.type "object") = some true)) &&
  (decide (PySem.W.findIn K (.ref C) "__class__" = some (some (Value.builtin "object.__class__"))) && decide (PySem.W.specialIn K (Value.builtin "object.__class__") "__get__" = some (some (.builtin "getset_descriptor.__get__"))) && decide (PySem.W.takesIn K (Value.builtin "object.__class__") = some true)) &&
  (decide (PySem.W.kitOne K (.ref C) (.ref C) = some true) && plainB K C)
theorem shC_of {K : PySem.W.Frag} {C fi fq fc fr : Addr} {fdi fdq fdc fdr : FuncData} (h : clsOk K C = true)
    (ai : PySem.W.findIn K (.ref C) "__init__" = some (some (.ref fi))) (ii : PySem.W.isFn K (.ref fi) = true) (aq : PySem.W.findIn K (.ref C) "__eq__" = some (some (.ref fq))) (iq : PySem.W.isFn K (.ref fq) = true)
    (ac : PySem.W.findIn K (.ref C) "catalogue" = some (some (.ref fc))) (ic : PySem.W.isFn K (.ref fc) = true) (kc : PySem.W.keepIn K (.ref fc) = true) (ar : PySem.W.findIn K (.ref C) "row" = some (some (.ref fr))) (ir : PySem.W.isFn K (.ref fr) = true) (kr : PySem.W.keepIn K (.ref fr) = true) :
    ShC K C fi fq fc fr ∧ plainB K C = true := by
  unfold clsOk at h
  simp only [Bool.and_eq_true, decide_eq_true_eq] at h
  obtain ⟨⟨⟨⟨⟨⟨⟨⟨h1, h2⟩, h3⟩, h4⟩, h5⟩, ⟨h6, h7⟩, h8⟩, h9, h10⟩, ⟨h11, h12⟩, h13⟩, h14, h15⟩ := h
  exact ⟨⟨⟨h4, ai, ii, h5⟩, ⟨h1, h2, h3, h6⟩, h7, h8, ⟨ac, ic, kc⟩, ⟨ar, ir, kr⟩, ⟨aq, h9, iq, h10⟩, h11, h12, h13, h14⟩, h15⟩
def freeNames : List Str := ["sum", "int", "max", "min", "len", "range", "isinstance", "repr", "all", "ValueError", "set", "str", "list", "tuple", "dict", "bool", "zip", "enumerate", "sorted"]
/-- these names stand for what is built in -/
def freeB (K : PySem.W.Frag) : Bool := freeNames.all fun x => decide (PySem.W.nsIn K mainGlobals x = some none)
theorem all_mk {l : PySem.W.OpenLaw} {w : World} {K : PySem.W.Frag} {h : Heap} {mg : Str → Option Value} {fa C fi fq fc fr : Addr} {t1 t2 : Tok} (X : K.In h) (G : h.Ns mainGlobals mg) (hfa : mg "law" = some (.ref fa))
    (aC : PySem.W.nsIn K mainGlobals "Shelf" = some (some (.ref C))) (aL : PySem.W.nsIn K mainGlobals "LETTERS" = some (some (.str "abcdefghijklmnopqrstuvwxyz" t1))) (aM : PySem.W.nsIn K mainGlobals "MOST_LETTERS" = some (some (.int 8 t2)))
    (ok : clsOk K C = true) (fr_ : freeB K = true)
    (r0 : RawF K "is_book" sIsBook)
    (r1 : RawF K "is_catalogue" sIsCat)
    (r2 : RawF K "are_unlike_of" sUnlike)
    (r3 : RawF K "check_shelf" sCheck)
    (r4 : RawF K "check_book_of" sCheckB)
    (r5 : RawF K "ranks" sRanks)
    (r6 : RawF K "place_of" sPlace)
    (r7 : RawF K "entry_of" sEntry)
    (r8 : RawF K "sorted_shelf" sSorted)
    (r9 : RawF K "exchanged" sExch)
    (r10 : RawF K "_law_purse" sPurse)
    (r11 : RawF K "_law_mixed" sMixed)
    (r12 : RawF K "_law_draw" sDraw)
    (r13 : RawF K "_law_purses" sPurses)
    (r14 : RawF K "_law_shuffled" sShuf)
    (r15 : RawF K "_law_exact" sExact)
    (r16 : RawF K "_law_word" sWord)
    (r17 : RawF K "_law_words" sWords)
    (r18 : RawF K "_law_catalogue" sCat)
    (r19 : RawF K "_law_free" sFree)
    (r20 : RawF K "_law_places" sPlaces)
    (r21 : RawF K "_law_shelf_right" sShR)
    (r22 : RawF K "_law_spoil" sSpoil)
    (r23 : RawF K "_law_lent_right" sLent)
    (r24 : RawF K "_law_swapped" sSwap)
    (r25 : RawF K "_law_others" sOthers)
    (r26 : RawF K "_law_compared_right" sComp)
    (r27 : RawF K "_law_grown_right" sGrown)
    (r28 : RawF K "law" sLaw)
    (r29 : RawF K "is_row_of" sRowOf)
    (n0 : RawM K C "__init__" "Shelf.__init__" sInit fi)
    (n1 : RawM K C "__eq__" "Shelf.__eq__" sEq fq)
    (n2 : RawM K C "catalogue" "Shelf.catalogue" sCats fc)
    (n3 : RawM K C "row" "Shelf.row" sRow fr)
    : ∃ fd : FuncData, (∀ (s : Shared) (v : Value), BindsTo s fd ⟨[v], []⟩ [("_law_script", v)]) ∧ ∀ base : Heap, K.In base → base.Ns mainGlobals mg → FnOk l.prog w K mg base CX0 7 fa fd ["_law_script"] (spLaw K) := by
  have at_ : ∀ {x : Str} {v : Value}, PySem.W.nsIn K mainGlobals x = some (some v) → mg x = some v := fun e => PySem.W.mg_of X G e
  have free : ∀ x ∈ freeNames, mg x = none := fun x hx => PySem.W.mg_none_of X G (of_decide_eq_true (List.all_eq_true.1 fr_ x hx))
  have B : Bl mg := ⟨free _ (by simp [freeNames]), free _ (by simp [freeNames]), free _ (by simp [freeNames]), free _ (by simp [freeNames]), free _ (by simp [freeNames]), free _ (by simp [freeNames]), free _ (by simp [freeNames]), free _ (by simp [freeNames]), free _ (by simp [freeNames]), free _ (by simp [freeNames])⟩
  have M : Mx mg := { isi := B.isi, all := B.all, len := B.len, set := free _ (by simp [freeNames]), str := free _ (by simp [freeNames]), list := free _ (by simp [freeNames]), letters := ⟨_, at_ aL⟩, most := ⟨_, at_ aM⟩, tuple := free _ (by simp [freeNames]), dict := free _ (by simp [freeNames]), bool := free _ (by simp [freeNames]), zip := free _ (by simp [freeNames]) }
  have en : mg "enumerate" = none := free _ (by simp [freeNames])
  have so : mg "sorted" = none := free _ (by simp [freeNames])
  obtain ⟨f0, d0, a0, F0⟩ := r0
  have B0 := F0.binds (ps := ["value"]) fun _ _ _ _ _ _ us hl => match us, hl with | [_], _ => rfl
  obtain ⟨f1, d1, a1, F1⟩ := r1
  have B1 := F1.binds (ps := ["value"]) fun _ _ _ _ _ _ us hl => match us, hl with | [_], _ => rfl
  obtain ⟨f2, d2, a2, F2⟩ := r2
  have B2 := F2.binds (ps := ["books", "value"]) fun _ _ _ _ _ _ us hl => match us, hl with | [_, _], _ => rfl
  obtain ⟨f29, d29, a29, F29⟩ := r29
  have B29 := F29.binds (ps := ["catalogue", "value"]) fun _ _ _ _ _ _ us hl => match us, hl with | [_, _], _ => rfl
  obtain ⟨f3, d3, a3, F3⟩ := r3
  have B3 := F3.binds (ps := ["shelf"]) fun _ _ _ _ _ _ us hl => match us, hl with | [_], _ => rfl
  obtain ⟨f4, d4, a4, F4⟩ := r4
  have B4 := F4.binds (ps := ["shelf", "book"]) fun _ _ _ _ _ _ us hl => match us, hl with | [_, _], _ => rfl
  obtain ⟨f5, d5, a5, F5⟩ := r5
  have B5 := F5.binds (ps := ["shelf"]) fun _ _ _ _ _ _ us hl => match us, hl with | [_], _ => rfl
  obtain ⟨f6, d6, a6, F6⟩ := r6
  have B6 := F6.binds (ps := ["shelf", "book"]) fun _ _ _ _ _ _ us hl => match us, hl with | [_, _], _ => rfl
  obtain ⟨f7, d7, a7, F7⟩ := r7
  have B7 := F7.binds (ps := ["shelf", "book"]) fun _ _ _ _ _ _ us hl => match us, hl with | [_, _], _ => rfl
  obtain ⟨f8, d8, a8, F8⟩ := r8
  have B8 := F8.binds (ps := ["catalogue"]) fun _ _ _ _ _ _ us hl => match us, hl with | [_], _ => rfl
  obtain ⟨f9, d9, a9, F9⟩ := r9
  have B9 := F9.binds (ps := ["shelf"]) fun _ _ _ _ _ _ us hl => match us, hl with | [_], _ => rfl
  obtain ⟨f10, d10, a10, F10⟩ := r10
  have B10 := F10.binds (ps := ["_law_script", "_law_at"]) fun _ _ _ _ _ _ us hl => match us, hl with | [_, _], _ => rfl
  obtain ⟨f11, d11, a11, F11⟩ := r11
  have B11 := F11.binds (ps := ["_law_seed", "_law_turn", "_law_at"]) fun _ _ _ _ _ _ us hl => match us, hl with | [_, _, _], _ => rfl
  obtain ⟨f12, d12, a12, F12⟩ := r12
  have B12 := F12.binds (ps := ["_law_purse_here", "_law_many"]) fun _ _ _ _ _ _ us hl => match us, hl with | [_, _], _ => rfl
  obtain ⟨f13, d13, a13, F13⟩ := r13
  have B13 := F13.binds (ps := ["_law_script", "_law_few"]) fun _ _ _ _ _ _ us hl => match us, hl with | [_, _], _ => rfl
  obtain ⟨f14, d14, a14, F14⟩ := r14
  have B14 := F14.binds (ps := ["_law_purse_here", "_law_some"]) fun _ _ _ _ _ _ us hl => match us, hl with | [_, _], _ => rfl
  obtain ⟨f15, d15, a15, F15⟩ := r15
  have B15 := F15.binds (ps := ["_law_mine", "_law_theirs"]) fun _ _ _ _ _ _ us hl => match us, hl with | [_, _], _ => rfl
  obtain ⟨f16, d16, a16, F16⟩ := r16
  have B16 := F16.binds (ps := ["_law_purse_here"]) fun _ _ _ _ _ _ us hl => match us, hl with | [_], _ => rfl
  obtain ⟨f17, d17, a17, F17⟩ := r17
  have B17 := F17.binds (ps := ["_law_purse_here", "_law_many"]) fun _ _ _ _ _ _ us hl => match us, hl with | [_, _], _ => rfl
  obtain ⟨f18, d18, a18, F18⟩ := r18
  have B18 := F18.binds (ps := ["_law_purse_here", "_law_many"]) fun _ _ _ _ _ _ us hl => match us, hl with | [_, _], _ => rfl
  obtain ⟨f19, d19, a19, F19⟩ := r19
  have B19 := F19.binds (ps := ["_law_purse_here", "_law_many"]) fun _ _ _ _ _ _ us hl => match us, hl with | [_, _], _ => rfl
  obtain ⟨f20, d20, a20, F20⟩ := r20
  have B20 := F20.binds (ps := ["_law_books", "_law_row"]) fun _ _ _ _ _ _ us hl => match us, hl with | [_, _], _ => rfl
  obtain ⟨f21, d21, a21, F21⟩ := r21
  have B21 := F21.binds (ps := ["_law_made", "_law_world"]) fun _ _ _ _ _ _ us hl => match us, hl with | [_, _], _ => rfl
  obtain ⟨f22, d22, a22, F22⟩ := r22
  have B22 := F22.binds (ps := ["_law_made"]) fun _ _ _ _ _ _ us hl => match us, hl with | [_], _ => rfl
  obtain ⟨f23, d23, a23, F23⟩ := r23
  have B23 := F23.binds (ps := ["_law_world"]) fun _ _ _ _ _ _ us hl => match us, hl with | [_], _ => rfl
  obtain ⟨f24, d24, a24, F24⟩ := r24
  have B24 := F24.binds (ps := ["_law_some", "_law_first", "_law_second"]) fun _ _ _ _ _ _ us hl => match us, hl with | [_, _, _], _ => rfl
  obtain ⟨f25, d25, a25, F25⟩ := r25
  have B25 := F25.binds (ps := ["_law_purse_here", "_law_world"]) fun _ _ _ _ _ _ us hl => match us, hl with | [_, _], _ => rfl
  obtain ⟨f26, d26, a26, F26⟩ := r26
  have B26 := F26.binds (ps := ["_law_purse_here", "_law_made", "_law_world"]) fun _ _ _ _ _ _ us hl => match us, hl with | [_, _, _], _ => rfl
  obtain ⟨f27, d27, a27, F27⟩ := r27
  have B27 := F27.binds (ps := ["_law_world"]) fun _ _ _ _ _ _ us hl => match us, hl with | [_], _ => rfl
  obtain ⟨f28, d28, a28, F28⟩ := r28
  have B28 := F28.binds (ps := ["_law_script"]) fun _ _ _ _ _ _ us hl => match us, hl with | [_], _ => rfl
  obtain ⟨e0, h0, i0, M0⟩ := n0
  have N0 := M0.binds (ps := ["self", "catalogue", "row"]) fun _ _ _ _ _ _ us hl => match us, hl with | [_, _, _], _ => rfl
  obtain ⟨e1, h1, i1, M1⟩ := n1
  have N1 := M1.binds (ps := ["self", "other"]) fun _ _ _ _ _ _ us hl => match us, hl with | [_, _], _ => rfl
  obtain ⟨e2, h2, i2, M2⟩ := n2
  have N2 := M2.binds (ps := ["self"]) fun _ _ _ _ _ _ us hl => match us, hl with | [_], _ => rfl
  obtain ⟨e3, h3, i3, M3⟩ := n3
  have N3 := M3.binds (ps := ["self"]) fun _ _ _ _ _ _ us hl => match us, hl with | [_], _ => rfl
  obtain ⟨T, pB⟩ := shC_of (fdi := e0) (fdq := e1) (fdc := e2) (fdr := e3) ok h0 i0 h1 i1 h2 i2 M2.kp h3 i3 M3.kp
  have e := hfa.symm.trans (at_ a28)
  cases e
  refine ⟨d28, ?_, fun base _ _ => ?_⟩
  · obtain ⟨oc, od, kV, doc, pm, an, cdv, ct, osl, rfl, _⟩ := F28.ex
    exact fun s v => .of_eq rfl
  have gS := at_ aC
  have g_mixed := ok_mixed (P := l.prog) (w := w) (base := base) F11 B
  have g_draw := ok_draw (P := l.prog) (w := w) (base := base) F12 B g_mixed (at_ a11) F11.kp B11
  have g_purse := ok_purse (P := l.prog) (w := w) (base := base) F10 B
  have g_purses := ok_purses (P := l.prog) (w := w) (base := base) F13 B g_purse (at_ a10) F10.kp B10
  have g_word := ok_word (P := l.prog) (w := w) (base := base) F16 B g_draw (at_ a12) F12.kp B12
  have g_shuf := ok_shuf (P := l.prog) (w := w) (base := base) F14 M.toMd g_draw (at_ a12) F12.kp B12
  have g_words := ok_words (P := l.prog) (w := w) (base := base) F17 M B g_draw (at_ a12) F12.kp B12 g_word (at_ a16) F16.kp B16
  have g_cat := ok_cat (P := l.prog) (w := w) (base := base) F18 so g_draw (at_ a12) F12.kp B12 g_words (at_ a17) F17.kp B17 g_shuf (at_ a14) F14.kp B14
  have g_free := ok_free (P := l.prog) (w := w) (base := base) F19 g_cat (at_ a18) F18.kp B18 g_shuf (at_ a14) F14.kp B14
  have g_exact := ok_exact (P := l.prog) (w := w) (base := base) F15 M (at_ a15) F15.kp B15
  have g_book := ok_isBook (P := l.prog) (w := w) (base := base) F0 M.toMd
  have g_isCat := ok_isCat (P := l.prog) (w := w) (base := base) F1 M.toMd g_book (at_ a0) F0.kp B0
  have g_unlike := ok_unlike (P := l.prog) (w := w) (base := base) F2 M.toMd
  have g_rowOf := ok_rowOf (P := l.prog) (w := w) (base := base) F29 M.toMd g_unlike (at_ a2) F2.kp B2
  have g_init := ok_init (P := l.prog) (w := w) (base := base) M0 M.toMd T g_isCat (at_ a1) F1.kp B1 g_rowOf (at_ a29) F29.kp B29
  have g_eq := ok_eq (P := l.prog) (w := w) (base := base) M1 M.toMd gS T
  have g_cats := ok_cats (P := l.prog) (w := w) (base := base) M2 M.toMd T
  have g_row := ok_row (P := l.prog) (w := w) (base := base) M3 M.toMd T
  have g_check := ok_check (P := l.prog) (w := w) (base := base) F3 M.toMd gS T
  have g_checkB := ok_checkB (P := l.prog) (w := w) (base := base) F4 T g_check (at_ a3) F3.kp B3 g_cats N2
  have g_ranks := ok_ranks (P := l.prog) (w := w) (base := base) F5 M.toMd T en g_check (at_ a3) F3.kp B3 g_cats N2 g_row N3
  have g_place := ok_place (P := l.prog) (w := w) (base := base) F6 T g_checkB (at_ a4) F4.kp B4 g_row N3
  have g_entry := ok_entry (P := l.prog) (w := w) (base := base) F7 T g_checkB (at_ a4) F4.kp B4 g_cats N2
  have g_sorted := ok_sorted (P := l.prog) (w := w) (base := base) F8 T gS g_init N0
  have g_exch := ok_exch (P := l.prog) (w := w) (base := base) F9 T gS g_check (at_ a3) F3.kp B3 g_init N0 g_cats N2 g_row N3
  have D : Pk l.prog w K mg base C fi fq fc fr := ⟨T, gS, ⟨_, g_init, N0⟩, ⟨_, g_eq, N1⟩, ⟨_, g_cats, N2⟩, ⟨_, g_row, N3⟩, ⟨_, _, g_ranks, at_ a5, F5.kp, B5⟩, ⟨_, _, g_place, at_ a6, F6.kp, B6⟩, ⟨_, _, g_entry, at_ a7, F7.kp, B7⟩⟩
  have g_places := ok_places (P := l.prog) (w := w) (base := base) F20 M B
  have g_shR := ok_shR (P := l.prog) (w := w) (base := base) F21 M en D (g_exact 2) (at_ a15) F15.kp B15 g_places (at_ a20) F20.kp B20
  have g_spoil := ok_spoil (P := l.prog) (w := w) (base := base) F22 D
  have g_lent := ok_lent (P := l.prog) (w := w) (base := base) F23 M B D g_shR (at_ a21) F21.kp B21
  have g_swap := ok_swap (P := l.prog) (w := w) (base := base) F24 M
  have g_others := ok_others (P := l.prog) (w := w) (base := base) F25 M so g_draw (at_ a12) F12.kp B12 g_swap (at_ a24) F24.kp B24
  have g_comp := ok_comp (P := l.prog) (w := w) (base := base) F26 M D pB g_others (at_ a25) F25.kp B25 (g_exact 0) (at_ a15) F15.kp B15
  have g_grown := ok_grown (P := l.prog) (w := w) (base := base) F27 M D g_shR (at_ a21) F21.kp B21 g_sorted (at_ a8) F8.kp B8
  have has : ∀ {k : Nat} {x : Str} {ps : List Str} {sp : Sp} {f : Addr} {fd : FuncData}, FnOk l.prog w K mg base CX0 k f fd ps sp → mg x = some (.ref f) → PySem.W.keepIn K (.ref f) = true → Binds K fd ps [] → Has l.prog w K mg base k x ps sp := fun a b c d => ⟨_, _, a, b, c, d⟩
  have kI : KBn K e0 ["self", "catalogue", "row"] 1 ["row", "catalogue"] gR gR := kbn_of M0 gR gR_rel fun _ _ _ _ _ _ us ws h1 h2 => match us, ws, h1, h2 with | [_], [_, _], _, _ => rfl
  have kK : KBn K d5 ["shelf"] 0 ["shelf"] gW gW := kbn_of F5 gW gW_rel fun _ _ _ _ _ _ us ws h1 h2 => match us, ws, h1, h2 with | [], [_], _, _ => rfl
  have kP : KBn K d6 ["shelf", "book"] 0 ["book", "shelf"] gR gR := kbn_of F6 gR gR_rel fun _ _ _ _ _ _ us ws h1 h2 => match us, ws, h1, h2 with | [], [_, _], _, _ => rfl
  have kE : KBn K d7 ["shelf", "book"] 0 ["book", "shelf"] gR gR := kbn_of F7 gR gR_rel fun _ _ _ _ _ _ us ws h1 h2 => match us, ws, h1, h2 with | [], [_, _], _, _ => rfl
  have kS : KBn K d8 ["catalogue"] 0 ["catalogue"] gW gW := kbn_of F8 gW gW_rel fun _ _ _ _ _ _ us ws h1 h2 => match us, ws, h1, h2 with | [], [_], _, _ => rfl
  exact ok_law F28 M B D (has g_draw (at_ a12) F12.kp B12) (has g_purses (at_ a13) F13.kp B13) (has g_free (at_ a19) F19.kp B19) (has g_shR (at_ a21) F21.kp B21) (has (g_exact 2) (at_ a15) F15.kp B15) (has g_places (at_ a20) F20.kp B20) (has g_spoil (at_ a22) F22.kp B22) (has g_exch (at_ a9) F9.kp B9)
    (has g_lent (at_ a23) F23.kp B23) (has g_comp (at_ a26) F26.kp B26) (has g_grown (at_ a27) F27.kp B27) (has g_sorted (at_ a8) F8.kp B8) ⟨_, g_init, kI⟩ ⟨_, _, g_ranks, at_ a5, F5.kp, kK⟩ ⟨_, _, g_place, at_ a6, F6.kp, kP⟩
    ⟨_, _, g_entry, at_ a7, F7.kp, kE⟩ ⟨_, _, g_sorted, at_ a8, F8.kp, kS⟩
theorem walk {l : PySem.W.OpenLaw} {q : Program} {loose : List Str} {XP : (Str → Option Value) → Heap → Prop} {YP : World → Heap → Prop} {d : DefRec} {K : Params → PySem.W.Frag} (hn : l.most = some 63) (hdf : d.params.defaults = [])
    (hY : ∀ (w : World) (h : Heap), YP w h → (K w.params).In h)
    (F : ∀ (w : World) (mg : Str → Option Value) (fa : Addr) (h : Heap), (K w.params).In h → h.Ns mainGlobals mg → mg d.name = some (.ref fa) →
      ∃ fd : FuncData, (∀ (s : Shared) (u : Value), BindsTo s fd ⟨[u], []⟩ [("_law_script", u)]) ∧ ∀ base : Heap, (K w.params).In base → base.Ns mainGlobals mg → FnOk l.prog w (K w.params) mg base CX0 7 fa fd ["_law_script"] (spLaw (K w.params))) :
    PySem.W.WalkO q loose XP YP l.row.toRowW d [] (fun f vs => PySem.call f vs) :=
  L2.walk_of (n := 63) (k := 7) (x := "_law_script") (CX := fun _ => CX0) (sp := fun w => spLaw (K w.params)) hn (by decide) hdf ⟨rfl, by decide, by decide⟩ hY F (fun _ _ a ns hl _ hS => ⟨a, ns, rfl, hS, hl, fun _ => rfl⟩) fun _ _ _ _ _ z => z
end K2

end
-- K2Hd
section
set_option Elab.async false
set_option maxRecDepth 100000
open PyProof.Rows PySem PySem.W
set_option maxHeartbeats 0 in
open_top k02hd for PySem.Challenge.rw_runturns_k02_shelves_kept_and_compared

end
-- K2Z
section
set_option Elab.async false
set_option maxRecDepth 100000
open PyProof.Rows PySem PySem.W
set_option maxHeartbeats 0 in
theorem PySem.Challenge.cw_runturns_k02_shelves_kept_and_compared_holds : PySem.Challenge.rw_runturns_k02_shelves_kept_and_compared.Holds := by
  refine k02hd ?_
  k_fill
  refine K2.walk (l := PySem.Challenge.rw_runturns_k02_shelves_kept_and_compared) rfl rfl (fun w h Y => PySem.W.kIn_of Y) ?F
  case F =>
    intro w mg fa h KX G hmg
    refine' K2.all_mk KX G hmg ?aC ?aL ?aM ?ok ?fr ?r0 ?r1 ?r2 ?r3 ?r4 ?r5 ?r6 ?r7 ?r8 ?r9 ?r10 ?r11 ?r12 ?r13 ?r14 ?r15 ?r16 ?r17 ?r18 ?r19 ?r20 ?r21 ?r22 ?r23 ?r24 ?r25 ?r26 ?r27 ?r28 ?r29 ?n0 ?n1 ?n2 ?n3
    (case aC => k_is)
    (case aL => k_is)
    (case aM => k_is)
    (case fr => kernel_rfl)
    (case n0 => refine' K2.rawM_mk ?na0 ?ni0 ?nl0 ?nc0 ?nk0; (case na0 => k_is); (case ni0 => k_is); (case nl0 => k_is); (case nc0 => k_is); (case nk0 => k_is))
    (case n1 => refine' K2.rawM_mk ?na1 ?ni1 ?nl1 ?nc1 ?nk1; (case na1 => k_is); (case ni1 => k_is); (case nl1 => k_is); (case nc1 => k_is); (case nk1 => k_is))
    (case n2 => refine' K2.rawM_mk ?na2 ?ni2 ?nl2 ?nc2 ?nk2; (case na2 => k_is); (case ni2 => k_is); (case nl2 => k_is); (case nc2 => k_is); (case nk2 => k_is))
    (case n3 => refine' K2.rawM_mk ?na3 ?ni3 ?nl3 ?nc3 ?nk3; (case na3 => k_is); (case ni3 => k_is); (case nl3 => k_is); (case nc3 => k_is); (case nk3 => k_is))
    (case ok => kernel_rfl)
    (case r0 => refine' K2.rawF_mk ?ra0 ?rl0 ?rc0 ?rk0; (case ra0 => k_is); (case rl0 => k_is); (case rc0 => k_is); (case rk0 => k_is))
    (case r1 => refine' K2.rawF_mk ?ra1 ?rl1 ?rc1 ?rk1; (case ra1 => k_is); (case rl1 => k_is); (case rc1 => k_is); (case rk1 => k_is))
    (case r2 => refine' K2.rawF_mk ?ra2 ?rl2 ?rc2 ?rk2; (case ra2 => k_is); (case rl2 => k_is); (case rc2 => k_is); (case rk2 => k_is))
    (case r3 => refine' K2.rawF_mk ?ra3 ?rl3 ?rc3 ?rk3; (case ra3 => k_is); (case rl3 => k_is); (case rc3 => k_is); (case rk3 => k_is))
    (case r4 => refine' K2.rawF_mk ?ra4 ?rl4 ?rc4 ?rk4; (case ra4 => k_is); (case rl4 => k_is); (case rc4 => k_is); (case rk4 => k_is))
    (case r5 => refine' K2.rawF_mk ?ra5 ?rl5 ?rc5 ?rk5; (case ra5 => k_is); (case rl5 => k_is); (case rc5 => k_is); (case rk5 => k_is))
    (case r6 => refine' K2.rawF_mk ?ra6 ?rl6 ?rc6 ?rk6; (case ra6 => k_is); (case rl6 => k_is); (case rc6 => k_is); (case rk6 => k_is))
    (case r7 => refine' K2.rawF_mk ?ra7 ?rl7 ?rc7 ?rk7; (case ra7 => k_is); (case rl7 => k_is); (case rc7 => k_is); (case rk7 => k_is))
    (case r8 => refine' K2.rawF_mk ?ra8 ?rl8 ?rc8 ?rk8; (case ra8 => k_is); (case rl8 => k_is); (case rc8 => k_is); (case rk8 => k_is))
    (case r9 => refine' K2.rawF_mk ?ra9 ?rl9 ?rc9 ?rk9; (case ra9 => k_is); (case rl9 => k_is); (case rc9 => k_is); (case rk9 => k_is))
    (case r10 => refine' K2.rawF_mk ?ra10 ?rl10 ?rc10 ?rk10; (case ra10 => k_is); (case rl10 => k_is); (case rc10 => k_is); (case rk10 => k_is))
    (case r11 => refine' K2.rawF_mk ?ra11 ?rl11 ?rc11 ?rk11; (case ra11 => k_is); (case rl11 => k_is); (case rc11 => k_is); (case rk11 => k_is))
    (case r12 => refine' K2.rawF_mk ?ra12 ?rl12 ?rc12 ?rk12; (case ra12 => k_is); (case rl12 => k_is); (case rc12 => k_is); (case rk12 => k_is))
    (case r13 => refine' K2.rawF_mk ?ra13 ?rl13 ?rc13 ?rk13; (case ra13 => k_is); (case rl13 => k_is); (case rc13 => k_is); (case rk13 => k_is))
    (case r14 => refine' K2.rawF_mk ?ra14 ?rl14 ?rc14 ?rk14; (case ra14 => k_is); (case rl14 => k_is); (case rc14 => k_is); (case rk14 => k_is))
    (case r15 => refine' K2.rawF_mk ?ra15 ?rl15 ?rc15 ?rk15; (case ra15 => k_is); (case rl15 => k_is); (case rc15 => k_is); (case rk15 => k_is))
    (case r16 => refine' K2.rawF_mk ?ra16 ?rl16 ?rc16 ?rk16; (case ra16 => k_is); (case rl16 => k_is); (case rc16 => k_is); (case rk16 => k_is))
    (case r17 => refine' K2.rawF_mk ?ra17 ?rl17 ?rc17 ?rk17; (case ra17 => k_is); (case rl17 => k_is); (case rc17 => k_is); (case rk17 => k_is))
    (case r18 => refine' K2.rawF_mk ?ra18 ?rl18 ?rc18 ?rk18; (case ra18 => k_is); (case rl18 => k_is); (case rc18 => k_is); (case rk18 => k_is))
    (case r19 => refine' K2.rawF_mk ?ra19 ?rl19 ?rc19 ?rk19; (case ra19 => k_is); (case rl19 => k_is); (case rc19 => k_is); (case rk19 => k_is))
    (case r20 => refine' K2.rawF_mk ?ra20 ?rl20 ?rc20 ?rk20; (case ra20 => k_is); (case rl20 => k_is); (case rc20 => k_is); (case rk20 => k_is))
    (case r21 => refine' K2.rawF_mk ?ra21 ?rl21 ?rc21 ?rk21; (case ra21 => k_is); (case rl21 => k_is); (case rc21 => k_is); (case rk21 => k_is))
    (case r22 => refine' K2.rawF_mk ?ra22 ?rl22 ?rc22 ?rk22; (case ra22 => k_is); (case rl22 => k_is); (case rc22 => k_is); (case rk22 => k_is))
    (case r23 => refine' K2.rawF_mk ?ra23 ?rl23 ?rc23 ?rk23; (case ra23 => k_is); (case rl23 => k_is); (case rc23 => k_is); (case rk23 => k_is))
    (case r24 => refine' K2.rawF_mk ?ra24 ?rl24 ?rc24 ?rk24; (case ra24 => k_is); (case rl24 => k_is); (case rc24 => k_is); (case rk24 => k_is))
    (case r25 => refine' K2.rawF_mk ?ra25 ?rl25 ?rc25 ?rk25; (case ra25 => k_is); (case rl25 => k_is); (case rc25 => k_is); (case rk25 => k_is))
    (case r26 => refine' K2.rawF_mk ?ra26 ?rl26 ?rc26 ?rk26; (case ra26 => k_is); (case rl26 => k_is); (case rc26 => k_is); (case rk26 => k_is))
    (case r27 => refine' K2.rawF_mk ?ra27 ?rl27 ?rc27 ?rk27; (case ra27 => k_is); (case rl27 => k_is); (case rc27 => k_is); (case rk27 => k_is))
    (case r28 => refine' K2.rawF_mk ?ra28 ?rl28 ?rc28 ?rk28; (case ra28 => k_is); (case rl28 => k_is); (case rc28 => k_is); (case rk28 => k_is))
    (case r29 => refine' K2.rawF_mk ?ra29 ?rl29 ?rc29 ?rk29; (case ra29 => k_is); (case rl29 => k_is); (case rc29 => k_is); (case rk29 => k_is))

end
