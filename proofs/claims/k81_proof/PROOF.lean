import PyProof.Rows.All
import Wide.All
import OpenK.AllK
import Wide.FinOn
import HandS.ForMost
import HandS.Strs
import HandS.IsInst
import HandS.OwnEq
import PyProof.InstEq
import HandS.Sort
import HandS.SortOrd
import HandS.SortRule
import KE.KSortTupAny
import HandS.Wide
import HandS.WideBits
import HandS.Flow
import HandS.Text
import HandS.Style
import HandS.Walk
import HandS.Deep
import HandS.TupAny
import HandS.WordsDict
import KE.DataEq
import HandS.Conv
import PyProof.ListStr
import HandS.Zip
import HandS.NoneIn
import HandS.More
import HandS.SortKw
import KE.DataMinKey
import KE.SortData
import KE.DataMinMax
import HandS.Dict
import HandS.TupLe
import KE.KRevSl
import HandS.DictComp
import PySem.Challenge.RW_runturns_k81_whole_runs_that_stay
-- SetT
set_option Elab.async false
set_option linter.all false
set_option maxRecDepth 100000
set_option maxHeartbeats 6000000
/-! ### set(xs) of a list of texts, any number, doubled ones too; len of it -/
namespace TS
open L2 PyProof.Rows PySem PySem.Spec PySem.Calls
/-- how many unlike ones the first i are -/
def met (xs : List Str) : Nat → Nat
  | 0 => 0
  | i + 1 => if xs.getD i Str.empty ∈ xs.take i then met xs i else met xs i + 1
theorem met_le (xs : List Str) : ∀ i, met xs i ≤ i
  | 0 => Nat.le.refl
  | i + 1 => by
    have := met_le xs i
    simp only [met]
    split <;> omega
theorem take_one {xs : List Str} {i : Nat} (h : i < xs.length) : xs.take (i + 1) = xs.take i ++ [xs.getD i Str.empty] := by
  rw [List.take_succ, List.getD_eq_getElem?_getD, List.getElem?_eq_getElem h]
  rfl
theorem met_all {xs : List Str} (u : xs.Nodup) : ∀ i, i ≤ xs.length → met xs i = i
  | 0, _ => rfl
  | i + 1, h => by
    have new : xs.getD i Str.empty ∉ xs.take i := by
      have u' : (xs.take (i + 1)).Nodup := u.sublist (List.take_sublist _ _)
      rw [take_one (by omega), List.nodup_append] at u'
      intro z
      exact u'.2.2 _ z _ (List.mem_singleton_self _) rfl
    simp only [met, if_neg new, met_all u i (by omega)]
theorem met_less {xs : List Str} : ∀ i, i ≤ xs.length → met xs i = i → (xs.take i).Nodup
  | 0, _, _ => by simp
  | i + 1, h, e => by
    have le := met_le xs i
    simp only [met] at e
    split at e
    · omega
    · next new =>
      rw [take_one (by omega), List.nodup_append]
      refine ⟨met_less i (by omega) (by omega), by simp, fun a ha b hb => ?_⟩
      rw [List.mem_singleton] at hb
      rintro rfl
      exact new (hb ▸ ha)
/-- as many as there are, just if none is doubled -/
theorem met_iff (xs : List Str) : decide (((met xs xs.length : Nat) : Int) = (xs.length : Int)) = decide xs.Nodup := by
  rw [decide_eq_decide]
  constructor
  · intro e
    have := met_less xs.length Nat.le.refl (by omega)
    rwa [List.take_length] at this
  · intro u
    rw [met_all u xs.length Nat.le.refl]
section
variable {prog : Program} {w : World} {A : Around} {R : Result → Shared → Prop} {it l S : Addr} {items : Array Value} {xs : List Str}
abbrev Held (prog : Program) (w : World) (h : Heap) (S : Addr) (xs : List Str) (i : Nat) : Prop := h.SetOf (PySem.strKind prog w) S (fun y => decide (y ∈ xs.take i)) (met xs i)
theorem Held.but {h h' : Heap} {i : Nat} (k : ∀ o, h.get? S = some o → h'.get? S = some o) : Held prog w h S xs i → Held prog w h' S xs i := fun ⟨o, es, ep, t, at_, rest⟩ => ⟨o, es, ep, t, k _ at_, rest⟩
/-- the loop that puts them in, from the i-th on -/
theorem puts (hh : A.in1.handled = none) (apart : l ≠ it) (out : S ≠ it ∧ S ≠ l) (are : ∀ (i : Nat) (v : Value), items[i]? = some v → ∃ t, v = Value.str (xs.getD i Str.empty) t) (many : items.size = xs.length) (few : xs.length + 1 < scanBound) :
    ∀ (m i : Nat) (s : Shared), i + m = xs.length → s.heap.IsListIter it l i → s.heap.IsList l items → Held prog w s.heap S xs i →
      (∀ h' tk, (∀ b o, b ≠ S → b ≠ it → s.heap.get? b = some o → h'.get? b = some o) → Held prog w h' S xs xs.length → R (.ok (.ret .none)) { s with heap := h', toks := tk }) →
      codeAny (model prog w) A (.builtin "set.update.loop" ⟨[.ref S, .ref it], []⟩) R s := by
  have W := Walks.list (prog := prog) (w := w) hh it l apart items
  intro m
  induction m with
  | zero =>
    intro i s e a b c k
    obtain rfl : i = xs.length := by omega
    refine (codeAny_builtin PyProof.Rows.F.entry_set_update_loop ?_)
    rw [Around.under_plainId PyProof.Rows.F.plain_set_update_loop]
    change wpAny _ A.in1 (pyNext (.ref it) >>= _) _ _ s
    refine wpAny_bind (W.done s _ _ (many ▸ ⟨a, b⟩) fun h' tk same => ?_)
    change wpAny _ A.in1 (ret Value.none) _ _ _
    have same' : ∀ b o, b ≠ it → s.heap.get? b = some o → h'.get? b = some o := fun b o n => same b o (by simpa using n)
    exact wpAny_pure (k h' tk (fun b o _ n => same' b o n) (c.but fun o => same' S o out.1))
  | succ m more =>
    intro i s e a b c k
    refine (codeAny_builtin PyProof.Rows.F.entry_set_update_loop ?_)
    rw [Around.under_plainId PyProof.Rows.F.plain_set_update_loop]
    change wpAny _ A.in1 (pyNext (.ref it) >>= _) _ _ s
    refine wpAny_bind (W.item i s _ _ (by omega) ⟨a, b⟩ fun v h1 tk1 at_ next same => ?_)
    obtain ⟨t, rfl⟩ := are i v at_
    have same' : ∀ b o, b ≠ it → s.heap.get? b = some o → h1.get? b = some o := fun b o n => same b o (by simpa using n)
    have c1 : Held prog w h1 S xs i := c.but fun o => same' S o out.1
    change wpAny _ A.in1 (holding [Value.str (xs.getD i Str.empty) t] (setAdd S (.str (xs.getD i Str.empty) t)) >>= _) _ _ _
    refine wpAny_bind (wpAny_holding ?add)
    unfold setAdd
    refine wpAny_holding (wpAny_bind ((PySem.strKind prog w).pyHash (k := xs.getD i Str.empty) (strKind_is _ _ _ _) ?_))
    have lim := met_le xs i
    refine wpAny_setAddHashed_of (knd := PySem.strKind prog w) (strKind_is _ _ _ _) rfl c1 (by omega) fun h2 but c2 => ?_
    have c3 : Held prog w h2 S xs (i + 1) := by
      refine SetOf_congr c2 (fun y => ?_) ?_
      · rw [take_one (by omega)]
        simp [List.mem_append]
      · simp only [met, decide_eq_true_eq]
    have keep2 : ∀ b o, b ≠ S → h1.get? b = some o → h2.get? b = some o := fun b o n z => by
      rw [but.2 b n]
      exact z
    refine wpAny_pure ⟨plainId_quiet PyProof.Rows.F.plain_set_update_loop _, more (i + 1) _ (by omega) (next.1.at fun o z => keep2 it o (Ne.symm out.1) z) (next.2.at fun o z => keep2 l o (Ne.symm out.2) z) c3 fun h3 tk3 same3 c4 => ?_⟩
    exact k h3 tk3 (fun b o n1 n2 z => same3 b o n1 n2 (keep2 b o n1 (same' b o n2 z))) c4
end
section
variable {prog : Program} {w : World} {A : Around} {E : Value → Shared → Prop} {l : Addr} {items : Array Value} {xs : List Str} {s : Shared} {led : Bool}
/-- a new set, with nothing in it -/
abbrev bare (led : Bool) : Obj := { cls := .type "set", dict := none, data := .set #[] 0 (.fresh 0 0 led) }
/-- set.__init__(S, xs) of a new one -/
theorem fills (hh : A.handled = none) (hl : s.heap.IsList l items) (are : ∀ (i : Nat) (v : Value), items[i]? = some v → ∃ t, v = Value.str (xs.getD i Str.empty) t) (many : items.size = xs.length) (few : xs.length + 1 < scanBound) :
    codeAny (model prog w) A (.call (.builtin "set.__init__") ⟨[.ref s.heap.objs.size, .ref l], []⟩)
      (wants (fun r s₂ => r = .none ∧ ∃ h' tk, s₂ = { s with heap := h', toks := tk } ∧ Held prog w h' s.heap.objs.size xs xs.length ∧ ∀ b o, s.heap.get? b = some o → h'.get? b = some o) E)
      { s with heap := s.heap.push (bare led) } := by
  have at_ : (s.heap.push (bare led)).get? s.heap.objs.size = some (bare led) := Heap.get?_push_size _ rfl
  have ty : Shared.TypeIs { s with heap := s.heap.push (bare led) } (.ref s.heap.objs.size) "set" := ⟨_, at_, rfl⟩
  obtain ⟨⟨cl, dc, dt, sl⟩, ol, rfl, nl, rfl⟩ := hl
  have in_ := Heap.lt_size ol
  have there : (s.heap.push (bare led)).get? l = some { cls := .type "list", dict := dc, data := .seq items nl, slots := sl } := Heap.get?_push_of_some _ ol
  have isL : (s.heap.push (bare led)).IsList l items := ⟨_, there, rfl, nl, rfl⟩
  have no1 := PySem.F.sub_list_set
  have no2 := PySem.F.sub_list_frozenset
  have no3 : (Value.type "list" == Value.type "dict") = false := by decide
  refine codeAny_call_builtin PySem.F.called_set.init.plain PySem.F.entry_set_init (check_set_init_1 ty ?_)
  unfold PySem.Builtin.«set.__init__» noKeywords Builtin.Frozenset.updateFrom
  generalize walk : pyIter = walking
  wp_walk
  subst walk
  refine wpAny_pyIter_list isL (wpAny_bind (wpAny_runValue ?_))
  have size1 : (s.heap.push (bare led)).objs.size = s.heap.objs.size + 1 := Heap.size_push _ _
  have quiet : A.in1.in1.handled = none := by simp [hh]
  refine puts (it := (s.heap.push (bare led)).objs.size) (S := s.heap.objs.size) (l := l) (items := items) (xs := xs) quiet (by rw [size1]; exact Nat.ne_of_lt (Nat.lt_succ_of_lt in_)) ⟨by rw [size1]; exact Nat.ne_of_lt (Nat.lt_succ_self _), Nat.ne_of_gt in_⟩ are many few xs.length 0 _ (Nat.zero_add _) ?_ ?_ ?_ ?_
  · exact ⟨_, Heap.get?_push_size _ rfl, rfl, rfl⟩
  · exact isL.push _
  · have new := (PyProof.Rows.setObjOf_fresh (knd := PySem.strKind prog w) led).setOf (Heap.get?_push_of_some { cls := .type "list_iterator", data := .fields #[.ref l, .int 0 0] } at_) (by unfold scanBound; omega)
    exact SetOf_congr new (fun y => by simp) rfl
  · intro h' tk same held
    change wpAny _ _ _ _ _ _
    refine wpAny_pure ?_
    change wpAny _ _ (ret Value.none) _ _ _
    refine wpAny_pure ⟨rfl, h', tk, rfl, held, fun b o z => ?_⟩
    have lt := Heap.lt_size z
    exact same b o (Nat.ne_of_lt lt) (by change b ≠ (s.heap.push (bare led)).objs.size; rw [size1]; exact Nat.ne_of_lt (Nat.lt_succ_of_lt lt)) (Heap.get?_push_of_some _ (Heap.get?_push_of_some _ z))
/-- set(xs) -/
theorem set_called (hh : A.handled = none) (hl : s.heap.IsList l items) (are : ∀ (i : Nat) (v : Value), items[i]? = some v → ∃ t, v = Value.str (xs.getD i Str.empty) t) (many : items.size = xs.length) (few : xs.length + 1 < scanBound) {Q : Value → Shared → Prop}
    (h : ∀ h' tk, Held prog w h' s.heap.objs.size xs xs.length → (∀ b o, s.heap.get? b = some o → h'.get? b = some o) → Q (.ref s.heap.objs.size) { s with heap := h', toks := tk }) :
    wpAny (model prog w) A (call (Value.type "set") [.ref l]) Q E s := by
  have C := PySem.F.called_set
  obtain ⟨c, tl, mro⟩ := C.mro
  have made := C.made
  have sub := C.sub
  have own := C.notType
  have can := C.canCreate
  have checks := PySem.F.typeCall_set_1 (.ref l)
  refine wpAny_call (codeAny_of_tree ?call)
  change wpAny _ _ (callAny (.type "set") _) _ _ _
  refine wpAny_pure ⟨Code.quiet_builtin _ (by decide +kernel), codeAny_builtin PySem.F.entry_type_call ?made⟩
  rw [Around.under_plain (weight_type_call_type "set" [Value.ref l] []) rfl]
  repeat (any_goals first | assumption | wp_step)
  refine codeAny_mono (code_set_new_1 (.ref l) (E := E) (Q₁ := fun o s₁ => ∃ led : Bool, o = .ref s.heap.objs.size ∧ s₁ = { s with heap := s.heap.push (bare led) }) fun led => ⟨led, rfl, rfl⟩) fun r s₁ new => ?_
  rcases r with e | (o | _ | _ | _) <;> first | exact new | exact new.elim | skip
  obtain ⟨led, rfl, rfl⟩ := new
  have ty : Shared.TypeIs { s with heap := s.heap.push (bare led) } (.ref s.heap.objs.size) "set" := ⟨_, Heap.get?_push_size _ rfl, rfl⟩
  have look := C.init.lookup
  have bound := C.init.bind (.ref s.heap.objs.size)
  repeat (any_goals first | assumption | wp_step)
  refine codeAny_mono (fills (prog := prog) (w := w) (A := A.in1) (E := E) (led := led) (by simpa using hh) hl are many few) fun r₂ s₂ got => ?_
  rcases r₂ with e | (o | _ | _ | _) <;> first | exact got | exact got.elim | skip
  obtain ⟨rfl, h', tk, rfl, held, same⟩ := got
  repeat (any_goals first | assumption | wp_step)
  exact h h' tk held same
end
end TS
namespace TS
open L2 PyProof.Rows PySem PySem.Spec PySem.Calls
theorem at_of {ys : List Str} {us : List Value} (r : Vals (ys.map V.str) us) (i : Nat) (v : Value) (h : us.toArray[i]? = some v) : ∃ t, v = Value.str (ys.getD i Str.empty) t := by
  have h' : us[i]? = some v := by simpa using h
  have lt : i < ys.length := by
    have := r.length
    rw [List.length_map] at this
    rw [this]
    exact (List.getElem?_eq_some_iff.1 h').1
  have y : (ys.map V.str)[i]? = some (V.str (ys.getD i Str.empty)) := by
    rw [List.getElem?_map, List.getD_eq_getElem?_getD, List.getElem?_eq_getElem lt]
    rfl
  obtain ⟨u, hu, t, rfl⟩ := r.get y
  rw [h'] at hu
  exact ⟨t, Option.some.inj hu⟩
/-- len(set(xs)), where xs is a list of texts -/
def tLenSetT (K : PySem.W.Frag) (ta : TE) : TE := fun σ H Q => ta σ H fun x H1 => ∃ (l : Addr) (xs : List Str), x = .ref l ∧ SqL K H1 l (xs.map V.str) ∧ xs.length ≤ 1000 ∧ Q (.int ((met xs xs.length : Nat) : Int)) H1
theorem pe_lenSetT {X : Cx} {K : PySem.W.Frag} {a : Expr} {ta : TE} {p p2 q pos : Pos} (calm : X.calm = true) (hg : Gl X "len") (hm : X.mg "len" = none) (hg2 : Gl X "set") (hm2 : X.mg "set" = none) (ha : PE X a ta) (hK : X.K = K := by rfl)
    (na : starEach [a] X.env = (false, eval a X.env) :: starEach [] X.env := by rfl) : PE X (.Call (.Name "len" p) [.Call (.Name "set" p2) [a] [] q] [] pos) (tLenSetT K ta) where
  run pins s σ H Q I h := by
    subst hK
    refine Call_ (ld_blt I hg hm boot_len (PyProof.Rows.callWith_builtin1 (PyProof.Rows.args_cons ?_ rfl) rfl rfl))
    refine Call_ (ld_blt I hg2 hm2 boot_set (PyProof.Rows.callWith_type1 (PyProof.Rows.args_cons (thn (ha.run pins s σ H _ I h) ?_) na) na rfl))
    rintro v s1 ⟨x, H1, J, rv, l, xs, rfl, sq, few, k⟩
    obtain rfl : v = .ref l := rv
    obtain ⟨us, rel, pl, _⟩ := J.list sq
    have many : us.toArray.size = xs.length := by rw [List.size_toArray, ← rel.length, List.length_map]
    refine PyProof.Rows.args_nil (set_called (J.ok.hd calm) pl.isList (at_of rel) many (by unfold scanBound; omega) fun h' tk held same => PyProof.Rows.args_nil ?_)
    obtain ⟨o, es, ep, t, at_, ex, dt, _, _, _, hf, n⟩ := held
    have J2 : Inv X pins σ H1 { s1 with heap := h', toks := tk } := J.kept same
    have le := met_le xs xs.length
    refine call_len_set at_ ex dt hf (by rw [n]; omega) ⟨_, H1, J2.tok _, ?_, k⟩
    exact ⟨_, by rw [n]⟩
end TS

-- EQ
set_option Elab.async false
set_option linter.all false
set_option maxRecDepth 100000
set_option maxHeartbeats 4100000
/-! ### == and != by an own __eq__ that gives True or False, beside anything -/
namespace OE
open L2 PyProof.Rows PySem PySem.Spec PySem.Calls
/-- what the class at C says: an own __eq__ at f, no own __ne__ -/
structure EqC (K : PySem.W.Frag) (C f : Addr) : Prop where
  eq : PySem.W.findIn K (.ref C) "__eq__" = some (some (.ref f))
  ne : PySem.W.findIn K (.ref C) "__ne__" = some (some (.builtin "object.__ne__"))
  fn : (PySem.W.isFn K (.ref f)) = true
  ob : PySem.W.mroIn K C (.type "object") = some true
/-- the promise of such an __eq__ : R tells its answer; it makes nothing that stays -/
def spB (R : Addr → V → Hp → Bool → Prop) : Sp := fun vs H Q _ => ∃ a y b, vs = [.ref a, y] ∧ R a y H b ∧ Q (.bl b) H
/-- an instance beside any value -/
def rB (K : PySem.W.Frag) (C : Addr) (R : Addr → V → Hp → Bool → Prop) (g : Bool → Bool) : R2 := fun x y H Q => ∃ a dx fs t b, x = .ref a ∧ H a = some (.ins C dx fs) ∧ TyX K H y t ∧ PySem.W.notFirst K C t = true ∧ R a y H b ∧ Q (.bl (g b)) H
section
variable {X : Cx} {CX : CXT} {C f : Addr} {fd : FuncData} {ps : List Str} {R : Addr → V → Hp → Bool → Prop} {k : Nat} {E : XK} {pins : List (Addr × Obj)} {σ : L2.St} {H : Hp} {s : Shared}
/-- the call of __eq__ itself, around any A with the same frames -/
theorem asked {A : Around} (F : FnOk X.prog X.w X.K X.mg X.base CX k f fd ps (spB R)) (hb : Binds X.K fd ps []) (hx : Passes CX X E) (hr : Room k A) (fr : A.frames = X.A.frames)
    (I : Inv X pins σ H s) {a : Addr} {y : V} {v : Value} {b : Bool} (ry : RelV y v) (hR : R a y H b) :
    wpAny (model X.prog X.w) A (call (.ref f) [.ref a, v]) (fun u s' => u = .bool b ∧ Inv X pins σ H s') X.xe s := by
  have sp : spB R [.ref a, y] H (fun u H' => u = .bl b ∧ H' = H) E := ⟨a, y, b, rfl, hR, rfl, rfl⟩
  have env : Env0 X.prog X.w X.K X.mg X.base A X.stack s H := ⟨fr.trans I.env0.frames, I.env0.mod, I.env0.bs, I.env0.bsz, I.env0.funs, I.env0.frf, I.env0.hok, I.env0.bare⟩
  have rel : Vals [V.ref a, y] [Value.ref a, v] := .cons rfl (.cons ry .nil)
  have many : [Value.ref a, v].length = ps.length := F.len _ _ _ _ sp
  have bound := hb s [.ref a, v] I.kIn (by simpa using many)
  rw [List.append_nil] at bound
  refine wpAny_call (codeAny_mono (F.run A X.stack s H ⟨[.ref a, v], []⟩ _ _ _ E hr env bound rel sp) fun r s' back => ?_)
  match r, back with
  | .error e, back => exact hx _ _ _ _ _ _ I back
  | .ok (.ret u), back =>
    obtain ⟨_, _, J, ru, rfl, rfl⟩ := I.after back
    exact ⟨ru, J⟩
  | .ok .next, no => exact no.elim
  | .ok .brk, no => exact no.elim
  | .ok .cont, no => exact no.elim
theorem op_eq {K : PySem.W.Frag} (F : FnOk X.prog X.w X.K X.mg X.base CX k f fd ps (spB R)) (T : EqC X.K C f) (hr : Room k X.A) (hb : Binds X.K fd ps []) (hx : Passes CX X E) (hK : X.K = K := by rfl) : OpR X (compareOp .Eq) (rB K C R id) := by
  subst hK
  rintro pins s σ H x y v u Q I rx ry ⟨a, dx, fs, t, b, rfl, hins, ty, nf, hR, q⟩
  obtain rfl : v = .ref a := rx
  obtain ⟨_, J, _⟩ := ins_get I.hok hins
  obtain ⟨_, J, _⟩ := J.look
  obtain ⟨Pk, kit, pk, _⟩ := kit_of I ry ty
  obtain ⟨m, hF⟩ := I.fr
  change wpAny (model X.prog X.w) X.A (richCompare .Eq (.ref a) u) (EP X pins σ Q) X.xe s
  refine PySem.W.cmp_K (op := .Eq) (tb := t) hr.units0 hF I.ok.mod.kin J (kit.ty _ _ I.kIn pk) nf T.eq T.fn ?_
  refine thn (asked F hb hx hr rfl I ry hR) ?_
  rintro w s' ⟨rfl, J'⟩
  exact ⟨.bl b, H, J', rfl, q⟩
theorem op_ne {K : PySem.W.Frag} (F : FnOk X.prog X.w X.K X.mg X.base CX k f fd ps (spB R)) (T : EqC X.K C f) (hr : Room (k + 1) X.A) (hb : Binds X.K fd ps []) (hx : Passes CX X E) (hK : X.K = K := by rfl) : OpR X (compareOp .NotEq) (rB K C R not) := by
  subst hK
  rintro pins s σ H x y v u Q I rx ry ⟨a, dx, fs, t, b, rfl, hins, ty, nf, hR, q⟩
  obtain rfl : v = .ref a := rx
  obtain ⟨_, J, _⟩ := ins_get I.hok hins
  obtain ⟨_, J, _⟩ := J.look
  obtain ⟨Pk, kit, pk, _⟩ := kit_of I ry ty
  have tyU := kit.ty (model X.prog X.w) _ I.kIn pk
  -- object.__ne__ asks __eq__
  have entry : ∀ {Q' : PySem.Fin → Shared → Prop}, (∀ s', Inv X pins σ H s' → Q' (.done (.ret (.bool (!b)))) s') → wpAny (model X.prog X.w) X.A.in1 (Builtin.«object.__ne__» ⟨[.ref a, u], []⟩) Q' X.xe s := by
    intro Q' q'
    unfold PySem.Builtin.«object.__ne__»
    refine wpAny_bind (wpAny_of_eq (a := ((Value.ref a : Value), [u])) (by first | rfl | (simp only [slotArgs]; rfl)) ?_)
    dsimp only
    refine wpAny_bind (wpAny_cRoomFor (by have := hr.un; change X.A.units + 1 < cLine; omega) ?_)
    refine wpAny_bind (PySem.W.ifBound_K I.kIn J T.eq T.fn (thn (asked F hb hx hr.in1 rfl I ry hR) ?_))
    rintro w s' ⟨rfl, J'⟩
    dsimp only
    exact wpAny_bind (wpAny_truthy_bool (wpAny_pure (q' _ J')))
  have told : ∀ {Q' : Option Value → Shared → Prop}, (∀ s', Inv X pins σ H s' → Q' (some (.bool (!b))) s') → wpAny (model X.prog X.w) X.A (call (.builtin "object.__ne__") ([.ref a] ++ [u]) >>= fun v => pure (some v)) Q' X.xe s := by
    intro Q' q'
    refine wpAny_bind (wpAny_call (codeAny_call_builtin PySem.F.cmp_object.ne.plain PySem.F.cmpEntry_ne ?_))
    exact PySem.W.check_slot PySem.F.cmpKind_ne PySem.F.cmpSplit_ne (J.type.andThen (PySem.W.looks_mroIn I.kIn T.ob)) (PySem.F.cmpArgs_ne _ _) (entry fun s' J' => wpAny_pure (q' s' J'))
  have once : wpAny (model X.prog X.w) X.A (tryCompare (.ref a) "__ne__" u) (fun r s' => r = some (.bool (!b)) ∧ Inv X pins σ H s') X.xe s := by
    unfold tryCompare
    simp only [bindSpecialIfBound?, callSpecialIfBound?]
    refine wpAny_bind (wpAny_holding (wpAny_bind (wpAny_bind (wpAny_bind (J.type.here ((PySem.W.looks_findIn I.kIn T.ne).here (wpAny_bind (wpAny_askSetting (wpAny_ite ?_)))))))))
    split
    · exact wpAny_bind (wpAny_of_eq (PySem.F.cmp_object.ne.bind _) (wpAny_pure (told fun s' J' => wpAny_pure ⟨rfl, J'⟩)))
    · exact wpAny_tryCatch (wpAny_bind (wpAny_of_eq (PySem.F.cmp_object.ne.bind _) (wpAny_pure (told fun s' J' => wpAny_pure ⟨rfl, J'⟩))))
  change wpAny (model X.prog X.w) X.A (richCompare .NotEq (.ref a) u) (EP X pins σ Q) X.xe s
  unfold richCompare
  simp only [oneThing_ref, cmpInfo_NotEq]
  refine wpAny_holding (wpAny_bind (wpAny_cRoomFor hr.units0 (wpAny_bind (J.type.here (wpAny_bind (tyU.here ?_))))))
  have done_ : ∀ {r : Option Value} {s' : Shared}, (r = some (.bool (!b)) ∧ Inv X pins σ H s') → ∃ v', r = some v' ∧ EP X pins σ Q v' s' := fun ⟨e, J'⟩ => ⟨_, e, .bl (!b), H, J', rfl, q⟩
  split
  · next differ =>
    have below : PySem.W.subIn X.K t (.ref C) = some false := by
      rcases Bool.or_eq_true_iff.mp nf with e | e
      · rw [beq_iff_eq.mp e] at differ
        simp at differ
      · exact beq_iff_eq.mp e
    refine wpAny_bind ((PySem.W.looks_subIn I.kIn below).here ?_)
    simp only [if_false, Bool.false_eq_true]
    refine wpAny_bind (thn once fun r s' z => ?_)
    obtain ⟨v', rfl, z'⟩ := done_ z
    exact wpAny_pure z'
  · refine (wpAny_bind (wpAny_pure ?_))
    simp only [if_false, Bool.false_eq_true]
    refine wpAny_bind (thn once fun r s' z => ?_)
    obtain ⟨v', rfl, z'⟩ := done_ z
    exact wpAny_pure z'
end
end OE

-- TSort
set_option Elab.async false
set_option linter.all false
set_option maxRecDepth 100000
set_option maxHeartbeats 4100000
/-! ### sorted of a list of tuples of texts -/
namespace TSo
open PySem PySem.W PyProof.Rows Srt SrtO
abbrev allS : Nat → Bool := fun _ => true
def itS (zs : List Str) : List (Int ⊕ List Nat) := zs.map fun z => Sum.inr z.cps.toList
/-- a tuple of texts stands ahead of another one -/
def ltS (xs ys : List Str) : Bool := lexLt itemOrd (itS xs) (itS ys)
theorem itS_inj : ∀ {xs ys : List Str}, itS xs = itS ys → xs = ys
  | [], [], _ => rfl
  | [], _ :: _, h => by cases h
  | _ :: _, [], h => by cases h
  | x :: xs, y :: ys, h => by
    simp only [itS, List.map_cons, List.cons.injEq, Sum.inr.injEq] at h
    obtain ⟨h1, h2⟩ := h
    have e : x = y := by
      cases x; cases y
      congr 1
      exact Array.toList_inj.1 h1
    rw [e, itS_inj (xs := xs) (ys := ys) h2]
theorem ltS_total {xs ys : List Str} (h1 : ltS xs ys = false) (h2 : ltS ys xs = false) : xs = ys := itS_inj (lex_total _ _ h1 h2)
theorem ltS_irrefl (xs : List Str) : ltS xs xs = false := lex_irrefl _
theorem swo_ltS {α : Type} (k : α → List Str) : Swo fun v u => ltS (k v) (k u) := by
  refine ⟨fun x y h => ?_, fun x y z h1 h2 => ?_⟩
  · cases e : ltS (k y) (k x) with
    | false => rfl
    | true =>
      have := lex_trans _ _ _ h e
      rw [lex_irrefl] at this
      cases this
  · cases e : ltS (k z) (k x) with
    | false => rfl
    | true =>
      rcases lex_negTrans (O := itemOrd) (itS (k z)) (itS (k y)) (itS (k x)) e with q | q
      · exact q.symm.trans h2
      · exact q.symm.trans h1
/-- two sorted lists with the same members are the same -/
theorem sorted_uniq : ∀ {l m : List (List Str)}, l.Pairwise (fun x y => ltS y x = false) → m.Pairwise (fun x y => ltS y x = false) → l.Perm m → l = m
  | [], m, _, _, p => by rw [p.nil_eq]
  | x :: l, [], _, _, p => by have := p.length_eq; simp at this
  | x :: l, y :: m, h1, h2, p => by
    rw [List.pairwise_cons] at h1 h2
    have e : x = y := by
      by_cases q : x = y
      · exact q
      · have hx : x ∈ m := (List.mem_cons.1 (p.mem_iff.1 List.mem_cons_self)).resolve_left q
        have hy : y ∈ l := (List.mem_cons.1 (p.mem_iff.2 List.mem_cons_self)).resolve_left fun z => q z.symm
        exact ltS_total (h2.1 x hx) (h1.1 y hy)
    subst e
    rw [sorted_uniq h1.2 h2.2 ((List.perm_cons x).1 p)]
def IsTS (h : Heap) (v : Value) (zs : List Str) : Prop := ∃ a o items n, v = .ref a ∧ h.get? a = some o ∧ o.cls = .type "tuple" ∧ o.data = .seq items n ∧ tupItems allS 0 items.toList = some (itS zs) ∧ zs ≠ []
theorem IsTS.keeps {h h' : Heap} {v : Value} {zs : List Str} (p : IsTS h v zs) (k : ∀ b o, h.get? b = some o → o.cls = .type "tuple" → h'.get? b = some o) : IsTS h' v zs := by
  obtain ⟨a, o, t, n, e, ho, hc, hd, r⟩ := p
  exact ⟨a, o, t, n, e, k _ _ ho hc, hc, hd, r⟩
theorem items_of : ∀ {xs : List Str} {us : List Value} (i : Nat), L2.Vals (xs.map L2.V.str) us → tupItems allS i us = some (itS xs)
  | [], _, _, .nil => rfl
  | x :: xs, _, i, .cons ⟨t, e⟩ r => by
    subst e
    have := items_of (i + 1) r
    unfold tupItems
    rw [if_pos rfl, this]
    rfl
theorem keyOf_of {h : Heap} {v : Value} {zs : List Str} (p : IsTS h v zs) : (tupKind h allS).keyOf v = some (itS zs) := by
  obtain ⟨a, o, items, n, rfl, ho, hc, hd, hi, _⟩ := p
  show tupKey h allS (.ref a) = _
  unfold tupKey
  simp only [ho, hd]
  exact hi
theorem first_of {zs : List Str} {us : List Value} {i : Nat} (h : tupItems allS i us = some (itS zs)) (ne : zs ≠ []) : ∃ x t r, us = Value.str x t :: r := by
  cases us with
  | nil =>
    cases zs with
    | nil => exact absurd rfl ne
    | cons z r => cases h
  | cons v r =>
    cases v with
    | str x t => exact ⟨x, t, r, rfl⟩
    | int n t =>
      unfold tupItems at h
      rw [if_pos rfl] at h
      cases h
    | _ => cases h
section
variable {prog : Program} {w : World} {A : Around} {E : Value → Shared → Prop} {s : Shared}
theorem tups_of {h : Heap} {k : Value → List Str} : ∀ {vs : List Value}, (∀ v ∈ vs, IsTS h v (k v)) → ∃ fs, TupsOf h allS vs fs ∧ fs.length = vs.length
  | [], _ => ⟨[], .nil, rfl⟩
  | v :: vs, hp => by
    obtain ⟨fs, h1, h2⟩ := tups_of (vs := vs) fun u m => hp u (List.mem_cons_of_mem _ m)
    obtain ⟨a, o, items, n, e, ho, hc, hd, hi, ne⟩ := hp v List.mem_cons_self
    obtain ⟨x, t, r, er⟩ := first_of hi ne
    refine ⟨Value.str x t :: fs, .cons ⟨a, o, items, n, e, ho, hc, hd, ?_, fun z => (by cases z), fun _ => ⟨x, t, rfl⟩⟩ h1, by rw [List.length_cons, List.length_cons, h2]⟩
    rw [← Array.getElem?_toList, er]
    rfl
theorem tups_sortable {a : Addr} {vs : List Value} {k : Value → List Str} (h0 : 0 < vs.length) (hp : ∀ v ∈ vs, IsTS s.heap v (k v)) (ha : ∀ o, s.heap.get? a = some o → o.cls ≠ .type "tuple") : SortableO prog w A s a vs fun v u => ltS (k v) (k u) := by
  intro h' keep
  have hp' : ∀ v ∈ vs, IsTS h' v (k v) := fun v hm => (hp v hm).keeps fun b o e c => keep b o (fun z => by subst z; exact ha o e c) e
  obtain ⟨fs, h1, h2⟩ := tups_of hp'
  refine ⟨tuples' true, fun Q E hq => tup_kind (s := { s with heap := h' }) (by omega) h1 hq, fun p q hm hm' => ?_⟩
  exact tup_ltAt (s := { s with heap := h' }) true A _ p.1 q.1 _ _ (keyOf_of (hp' _ hm)) (keyOf_of (hp' _ hm')) ⟨rfl, rfl⟩
theorem sorted_tups {l : Addr} {vs : List Value} {k : Value → List Str} {Q : Value → Shared → Prop} (hl : s.heap.IsList l vs.toArray) (hz : vs.length ≤ sizeLine) (hp : ∀ v ∈ vs, IsTS s.heap v (k v))
    (h : ∀ (h' : Heap) (d : Addr) (out : List Value), Srtd (fun v u => ltS (k v) (k u)) out → Stb (fun v u => ltS (k v) (k u)) out vs → (∀ b o, s.heap.get? b = some o → h'.get? b = some o) → s.heap.objs.size ≤ d → (∃ n, h'.get? d = some (seqObj "list" out.toArray n)) → Q (.ref d) { s with heap := h' }) :
    wpAny (model prog w) A (call (.builtin "sorted") [.ref l]) Q E s := by
  refine sorted_ord (swo_ltS k) hl hz (fun h2 h₁ a ha kk => ?_) fun out hs hb => ?_
  · refine tups_sortable (s := { s with heap := h₁ }) (by omega) (fun v hm => (hp v hm).keeps fun b o e _ => (kk b o e).2) fun o e => ?_
    have e' : some o = some (seqObj "list" vs.toArray 0) := e.symm.trans ha
    cases e'
    intro c
    exact absurd (Value.type.inj c) (by decide)
  · exact h _ _ out hs hb (fun b o e => sortedAll_old e) (Nat.le_succ _) (sortedAll_at s.heap vs out.toArray)
end
end TSo

namespace L2
open PySem PySem.Spec PyProof.Rows TSo
/-- the texts of a tuple that is tracked -/
def strOf : V → Str
  | .str z => z
  | _ => Str.empty
def tupS (H : Hp) (t : Addr) : List Str := match H t with
  | some (.tup xs) => xs.map strOf
  | _ => []
theorem strOf_map (zs : List Str) : (zs.map V.str).map strOf = zs := by
  rw [List.map_map]
  conv => rhs; rw [← List.map_id zs]
  rfl
theorem tupS_at {H : Hp} {t : Addr} {zs : List Str} (h : H t = some (.tup (zs.map V.str))) : tupS H t = zs := by
  unfold tupS
  rw [h]
  exact strOf_map zs
def keyV (H : Hp) : V → List Str
  | .ref t => tupS H t
  | _ => []
/-- sorted(xs), xs a list of tuples of texts, none empty -/
def rSortedTS (K : PySem.W.Frag) : List V → Hp → VK → Prop := fun vs H Q => ∃ (a : Addr) (ts : List Addr), vs = [V.ref a] ∧ SqL K H a (ts.map V.ref) ∧ (∀ t ∈ ts, ∃ zs : List Str, zs ≠ [] ∧ H t = some (.tup (zs.map V.str))) ∧
  ∀ (ts' : List Addr) (p : Addr), ts'.Perm ts → (ts'.map (tupS H)).Pairwise (fun x y => ltS y x = false) → H p = none → Q (.ref p) (upd H p (.lst (ts'.map V.ref)))
theorem refs_all {xs : List V} (h : ∀ x ∈ xs, ∃ a, x = V.ref a) : ∃ ts : List Addr, xs = ts.map V.ref := by
  induction xs with
  | nil => exact ⟨[], rfl⟩
  | cons x r ih =>
    obtain ⟨a, rfl⟩ := h x List.mem_cons_self
    obtain ⟨ts, rfl⟩ := ih fun y hy => h y (List.mem_cons_of_mem _ hy)
    exact ⟨a :: ts, rfl⟩
theorem map_ref_inj : ∀ {xs ys : List Addr}, xs.map V.ref = ys.map V.ref → xs = ys
  | [], [], _ => rfl
  | [], _ :: _, h => by cases h
  | _ :: _, [], h => by cases h
  | x :: xs, y :: ys, h => by
    simp only [List.map_cons, List.cons.injEq, V.ref.injEq] at h
    rw [h.1, map_ref_inj h.2]
theorem perm_refs {xs ys : List Addr} (p : (xs.map V.ref).Perm (ys.map V.ref)) : xs.Perm ys := by
  rw [List.perm_iff_count] at p ⊢
  intro a
  have := p (V.ref a)
  rw [List.count_eq_countP, List.countP_map, List.count_eq_countP, List.countP_map] at this
  rw [List.count_eq_countP, List.count_eq_countP]
  have e : ((fun x => x == V.ref a) ∘ V.ref) = fun x : Addr => x == a := by
    funext x
    by_cases q : x = a
    · subst q; simp
    · have : V.ref x ≠ V.ref a := fun z => q (by injection z)
      show (V.ref x == V.ref a) = (x == a)
      rw [beq_eq_false_iff_ne.2 this, beq_eq_false_iff_ne.2 q]
  rw [e] at this
  exact this
section
variable {X : Cx}
theorem cr_sortedTS {K : PySem.W.Frag} (hK : X.K = K) : CallR X (.builtin "sorted") (rSortedTS K) := by
  subst hK
  intro pins s σ H vs us Q I r h
  obtain ⟨a, ts, rfl, hs, hx, q⟩ := h
  obtain ⟨its, rv, hl, hz⟩ := I.list hs
  obtain ⟨u, rfl, ru⟩ := vals1 r
  obtain rfl : u = Value.ref a := ru
  obtain ⟨e1, e2⟩ := refs_back rv fun x m => by
    obtain ⟨t, _, e⟩ := List.mem_map.1 m
    exact ⟨t, e.symm⟩
  refine sorted_tups (k := fun u => keyV H (backV u)) hl.isList (by rw [← rv.length]; exact hz) (fun v hv => ?_) fun h' d out h1 h2 kp hd hn => ?_
  · obtain ⟨t, rfl⟩ := e2 v hv
    have hm : V.ref t ∈ ts.map V.ref := by rw [e1]; exact List.mem_map.mpr ⟨_, hv, rfl⟩
    obtain ⟨t', hm', e⟩ := List.mem_map.1 hm
    obtain rfl : t' = t := by injection e
    obtain ⟨zs, ne, ht⟩ := hx t' hm'
    obtain ⟨_, its2, r2, o, ho, hc, n, hd⟩ := I.hok _ _ ht
    show IsTS s.heap (.ref t') (tupS H t')
    rw [tupS_at ht]
    exact ⟨t', o, its2.toArray, n, rfl, ho, hc, hd, by simpa using items_of 0 r2, ne⟩
  · have h3 : ∀ u ∈ out, ∃ a, u = Value.ref a := fun u hu => e2 u (h2.perm.mem_iff.mp hu)
    obtain ⟨n, hn⟩ := hn
    have hb : SrtO.Stb (fun x y => ltS (keyV H x) (keyV H y)) (out.map backV) (ts.map V.ref) := by
      rw [e1]
      exact SrtO.Stb.map (swo_ltS (keyV H)) backV h2
    obtain ⟨ts', e3⟩ := refs_all (xs := out.map backV) fun x hx => by
      obtain ⟨u, hu, rfl⟩ := List.mem_map.1 hx
      obtain ⟨b, rfl⟩ := h3 u hu
      exact ⟨b, rfl⟩
    have pm : ts'.Perm ts := perm_refs (by rw [← e3]; exact hb.perm)
    have srt : (ts'.map (tupS H)).Pairwise (fun x y => ltS y x = false) := by
      have z := SrtO.srtd_map (f := backV) (lt := fun x y => ltS (keyV H x) (keyV H y)) h1
      rw [e3] at z
      have z2 : (ts'.map V.ref).Pairwise (fun x y => ltS (keyV H y) (keyV H x) = false) := z
      rw [List.pairwise_map] at z2 ⊢
      exact z2
    refine ⟨.ref d, upd H d (.lst (out.map backV)), I.laid (t' := s.toks) kp hd ⟨?_, out, n, vals_back h3, hn⟩, rfl, ?_⟩
    · rw [hb.len]
      exact hz
    · rw [e3]
      exact q ts' d pm srt (I.hok.fresh hd)
end
end L2

-- TL0
set_option Elab.async false
set_option linter.all false
set_option maxRecDepth 100000
set_option maxHeartbeats 4100000
/-! TL: what a def does, told by trees. Values without addresses (D), the slots' kinds (Rv), a reading held against a tree's reading. -/
namespace TL
open L2 PyProof.Rows PySem PySem.Spec
/-- a value as a tree -/
inductive D where
  | non | bl (b : Bool) | int (i : Int) | str (s : Str)
  | lst (ds : List D) | tup (ds : List D)
  | dk (ks : List Key) (ds : List D) | dt (ks : List (List Key)) (ds : List D)
  | sh (xs ys : List Str)
  | ob (c : Addr) (ns : List Str) (ds : List D)
  | purse
/-- how a value is held: shared; the only one that knows it; lent by the caller; a look at an own one -/
inductive Rv where
  | val (d : D) | new (d : D) | bor (d : D) | tmp (d : D)
@[simp] def Rv.d : Rv → D
  | .val d => d
  | .new d => d
  | .bor d => d
  | .tmp d => d
/-- a purse at p -/
def PurseAt (H : Hp) (p : Addr) (b : Int) : Prop := ∃ p0 p1 p2 p3 : Int, H p = some (.lst [.int p0, .int p1, .int p2, .int p3]) ∧ 0 ≤ p1 ∧ p1 < 2147483648 ∧ 0 ≤ p2 ∧ p2 ≤ b ∧ 0 ≤ p3 ∧ p3 ≤ 1000
/-- a purse from which so many draws may still be made -/
def PAt : Option Addr → Hp → Nat → Prop
  | none, _, _ => True
  | some a, H, n => ∃ b : Int, PurseAt H a b ∧ b + (n : Int) ≤ 2 ^ 40
/-- all but the purse stays -/
def Bt (p : Option Addr) (H H' : Hp) : Prop := ∀ c o, p ≠ some c → H c = some o → H' c = some o
theorem Bt.refl {p : Option Addr} {H : Hp} : Bt p H H := fun _ _ _ e => e
theorem Bt.trans {p : Option Addr} {H H1 H2 : Hp} (a : Bt p H H1) (b : Bt p H1 H2) : Bt p H H2 := fun c o n e => b c o n (a c o n e)
theorem Bt.same {p : Option Addr} {H H' : Hp} (h : Same H H') : Bt p H H' := fun c o _ e => h c o e
theorem same_upd {H : Hp} {o : HO} {p : Addr} (h : H p = none) : Same H (upd H p o) := fun b x e => by
  rw [upd_ne (ne_of_none e h)]
  exact e
theorem PAt.at {p : Option Addr} {a : Addr} {H : Hp} {n : Nat} (h : PAt p H n) (e : p = some a) : ∃ o, H a = some o := by
  subst e
  obtain ⟨b, ⟨_, _, _, _, hp, _⟩, _⟩ := h
  exact ⟨_, hp⟩
theorem PAt.same {p : Option Addr} {H H' : Hp} {n : Nat} (e : Same H H') (h : PAt p H n) : PAt p H' n := by
  cases p with
  | none => trivial
  | some a =>
    obtain ⟨b, ⟨p0, p1, p2, p3, hp, r⟩, q⟩ := h
    exact ⟨b, ⟨p0, p1, p2, p3, e _ _ hp, r⟩, q⟩
theorem PAt.le {p : Option Addr} {H : Hp} {n m : Nat} (h : PAt p H n) (hm : m ≤ n) : PAt p H m := by
  cases p with
  | none => trivial
  | some a =>
    obtain ⟨b, q, z⟩ := h
    exact ⟨b, q, by omega⟩
/-- what was free stays so, seen backwards -/
theorem Bt.free {p : Option Addr} {H H' : Hp} (e : Bt p H H') (hp : ∀ a, p = some a → ∃ o, H' a = some o) {c : Addr} (h : H' c = none) : H c = none := by
  cases q : H c with
  | none => rfl
  | some o =>
    by_cases z : p = some c
    · obtain ⟨o', e'⟩ := hp c z
      rw [h] at e'
      cases e'
    · rw [e c o z q] at h
      cases h
section
variable (p : Option Addr) (C : Addr) (W : Addr → Prop) (H : Hp)
mutual
/-- v is the tree d, nothing of it in W -/
def Rep : D → V → Prop
  | .non, v => v = .non
  | .bl b, v => v = .bl b
  | .int i, v => v = .int i
  | .str s, v => v = .str s
  | .lst ds, v => ∃ a, v = .ref a ∧ ¬ W a ∧ ∃ vs, H a = some (.lst vs) ∧ RepL ds vs
  | .tup ds, v => ∃ a, v = .ref a ∧ ¬ W a ∧ ∃ vs, H a = some (.tup vs) ∧ RepL ds vs
  | .dk ks ds, v => ∃ a, v = .ref a ∧ ¬ W a ∧ ∃ vs, H a = some (.dK (ks.zip vs)) ∧ ks.length = ds.length ∧ RepL ds vs
  | .dt ks ds, v => ∃ a, v = .ref a ∧ ¬ W a ∧ ∃ vs, H a = some (.dT (ks.zip vs)) ∧ ks.length = ds.length ∧ RepL ds vs
  | .sh xs ys, v => ∃ a, v = .ref a ∧ ¬ W a ∧ ∃ dx c r, H a = some (.ins C dx [("_catalogue", .ref c), ("_row", .ref r)]) ∧ H c = some (.lst (xs.map V.str)) ∧ H r = some (.lst (ys.map V.str)) ∧ ¬ W c ∧ ¬ W r
  | .ob c ns ds, v => ∃ a, v = .ref a ∧ ¬ W a ∧ ∃ dx vs, H a = some (.ins c dx (ns.zip vs)) ∧ ns.length = ds.length ∧ RepL ds vs
  | .purse, v => ∃ a, v = .ref a ∧ p = some a
def RepL : List D → List V → Prop
  | [], vs => vs = []
  | d :: r, vs => ∃ v vr, vs = v :: vr ∧ Rep d v ∧ RepL r vr
end
/-- what stands at a is the tree d, nothing within in W -/
def RepO (a : Addr) : D → Prop
  | .lst ds => ∃ vs, H a = some (.lst vs) ∧ RepL p C W H ds vs
  | .tup ds => ∃ vs, H a = some (.tup vs) ∧ RepL p C W H ds vs
  | .dk ks ds => ∃ vs, H a = some (.dK (ks.zip vs)) ∧ ks.length = ds.length ∧ RepL p C W H ds vs
  | .dt ks ds => ∃ vs, H a = some (.dT (ks.zip vs)) ∧ ks.length = ds.length ∧ RepL p C W H ds vs
  | .sh xs ys => ∃ dx c r, H a = some (.ins C dx [("_catalogue", .ref c), ("_row", .ref r)]) ∧ H c = some (.lst (xs.map V.str)) ∧ H r = some (.lst (ys.map V.str)) ∧ ¬ W c ∧ ¬ W r
  | .ob c ns ds => ∃ dx vs, H a = some (.ins c dx (ns.zip vs)) ∧ ns.length = ds.length ∧ RepL p C W H ds vs
  | _ => False
/-- v is the tree d; its own place may be in W -/
def View (d : D) (v : V) : Prop := Rep p C W H d v ∨ ∃ a, v = .ref a ∧ p ≠ some a ∧ RepO p C W H a d
end
section
variable {p : Option Addr} {C : Addr} {W W' : Addr → Prop} {H H' : Hp}
mutual
theorem Rep.mono (k : ∀ c o, ¬ W c → H c = some o → ¬ W' c ∧ H' c = some o) : ∀ {d : D} {v : V}, Rep p C W H d v → Rep p C W' H' d v
  | .non, _, h => h
  | .bl _, _, h => h
  | .int _, _, h => h
  | .str _, _, h => h
  | .lst ds, _, ⟨a, e, na, vs, ha, r⟩ => ⟨a, e, (k _ _ na ha).1, vs, (k _ _ na ha).2, RepL.mono k r⟩
  | .tup ds, _, ⟨a, e, na, vs, ha, r⟩ => ⟨a, e, (k _ _ na ha).1, vs, (k _ _ na ha).2, RepL.mono k r⟩
  | .dk ks ds, _, ⟨a, e, na, vs, ha, l, r⟩ => ⟨a, e, (k _ _ na ha).1, vs, (k _ _ na ha).2, l, RepL.mono k r⟩
  | .dt ks ds, _, ⟨a, e, na, vs, ha, l, r⟩ => ⟨a, e, (k _ _ na ha).1, vs, (k _ _ na ha).2, l, RepL.mono k r⟩
  | .sh xs ys, _, ⟨a, e, na, dx, c, r, ha, hc, hr, nc, nr⟩ => ⟨a, e, (k _ _ na ha).1, dx, c, r, (k _ _ na ha).2, (k _ _ nc hc).2, (k _ _ nr hr).2, (k _ _ nc hc).1, (k _ _ nr hr).1⟩
  | .ob _ _ ds, _, ⟨a, e, na, dx, vs, ha, l, r⟩ => ⟨a, e, (k _ _ na ha).1, dx, vs, (k _ _ na ha).2, l, RepL.mono k r⟩
  | .purse, _, h => h
theorem RepL.mono (k : ∀ c o, ¬ W c → H c = some o → ¬ W' c ∧ H' c = some o) : ∀ {ds : List D} {vs : List V}, RepL p C W H ds vs → RepL p C W' H' ds vs
  | [], _, h => h
  | _ :: _, _, ⟨v, vr, e, h, r⟩ => ⟨v, vr, e, Rep.mono k h, RepL.mono k r⟩
end
/-- the object itself may be in W -/
theorem RepO.mono {a : Addr} (k : ∀ c o, ¬ W c → H c = some o → ¬ W' c ∧ H' c = some o) (ka : ∀ o, H a = some o → H' a = some o) : ∀ {d : D}, RepO p C W H a d → RepO p C W' H' a d
  | .non, h => h
  | .bl _, h => h
  | .int _, h => h
  | .str _, h => h
  | .lst ds, ⟨vs, ha, r⟩ => ⟨vs, ka _ ha, RepL.mono k r⟩
  | .tup ds, ⟨vs, ha, r⟩ => ⟨vs, ka _ ha, RepL.mono k r⟩
  | .dk ks ds, ⟨vs, ha, l, r⟩ => ⟨vs, ka _ ha, l, RepL.mono k r⟩
  | .dt ks ds, ⟨vs, ha, l, r⟩ => ⟨vs, ka _ ha, l, RepL.mono k r⟩
  | .sh xs ys, ⟨dx, c, r, ha, hc, hr, nc, nr⟩ => ⟨dx, c, r, ka _ ha, (k _ _ nc hc).2, (k _ _ nr hr).2, (k _ _ nc hc).1, (k _ _ nr hr).1⟩
  | .ob _ _ ds, ⟨dx, vs, ha, l, r⟩ => ⟨dx, vs, ka _ ha, l, RepL.mono k r⟩
  | .purse, h => h
theorem RepO.rep {a : Addr} (na : ¬ W a) : ∀ {d : D}, RepO p C W H a d → Rep p C W H d (.ref a)
  | .non, h => h.elim
  | .bl _, h => h.elim
  | .int _, h => h.elim
  | .str _, h => h.elim
  | .lst ds, ⟨vs, ha, r⟩ => ⟨a, rfl, na, vs, ha, r⟩
  | .tup ds, ⟨vs, ha, r⟩ => ⟨a, rfl, na, vs, ha, r⟩
  | .dk ks ds, ⟨vs, ha, l, r⟩ => ⟨a, rfl, na, vs, ha, l, r⟩
  | .dt ks ds, ⟨vs, ha, l, r⟩ => ⟨a, rfl, na, vs, ha, l, r⟩
  | .sh xs ys, ⟨dx, c, r, h⟩ => ⟨a, rfl, na, dx, c, r, h⟩
  | .ob _ _ ds, ⟨dx, vs, h⟩ => ⟨a, rfl, na, dx, vs, h⟩
  | .purse, h => h.elim
theorem RepO.at {a : Addr} : ∀ {d : D}, RepO p C W H a d → ∃ o, H a = some o
  | .non, h => h.elim
  | .bl _, h => h.elim
  | .int _, h => h.elim
  | .str _, h => h.elim
  | .lst ds, ⟨vs, ha, r⟩ => ⟨_, ha⟩
  | .tup ds, ⟨vs, ha, r⟩ => ⟨_, ha⟩
  | .dk ks ds, ⟨vs, ha, l, r⟩ => ⟨_, ha⟩
  | .dt ks ds, ⟨vs, ha, l, r⟩ => ⟨_, ha⟩
  | .sh xs ys, ⟨dx, c, r, ha, h⟩ => ⟨_, ha⟩
  | .ob _ _ ds, ⟨dx, vs, ha, h⟩ => ⟨_, ha⟩
  | .purse, h => h.elim
theorem RepL.len : ∀ {ds : List D} {vs : List V}, RepL p C W H ds vs → vs.length = ds.length
  | [], _, rfl => rfl
  | _ :: _, _, ⟨v, vr, e, _, r⟩ => by rw [e, List.length_cons, r.len, List.length_cons]
theorem RepL.get : ∀ {ds : List D} {vs : List V} {i : Nat} {d : D}, RepL p C W H ds vs → ds[i]? = some d → ∃ v, vs[i]? = some v ∧ Rep p C W H d v
  | [], _, i, d, _, e => by simp at e
  | _ :: _, _, 0, d, ⟨v, vr, e, h, r⟩, q => by
    obtain rfl := Option.some.inj q
    exact ⟨v, by rw [e]; rfl, h⟩
  | _ :: _, _, i + 1, d, ⟨v, vr, e, h, r⟩, q => by
    obtain ⟨u, h1, h2⟩ := r.get (i := i) (by simpa using q)
    exact ⟨u, by rw [e]; simpa using h1, h2⟩
theorem RepL.nth : ∀ {ds : List D} {vs : List V} {i : Nat} {v : V}, RepL p C W H ds vs → vs[i]? = some v → ∃ d, ds[i]? = some d ∧ Rep p C W H d v
  | [], _, i, v, e, q => by
    obtain rfl : _ = [] := e
    simp at q
  | d :: _, _, 0, v, ⟨u, vr, e, h, r⟩, q => by
    rw [e] at q
    obtain rfl := Option.some.inj q
    exact ⟨d, rfl, h⟩
  | _ :: _, _, i + 1, v, ⟨u, vr, e, h, r⟩, q => by
    rw [e] at q
    obtain ⟨d, h1, h2⟩ := r.nth (i := i) (by simpa using q)
    exact ⟨d, by simpa using h1, h2⟩
theorem RepL.app : ∀ {ds es : List D} {vs us : List V}, RepL p C W H ds vs → RepL p C W H es us → RepL p C W H (ds ++ es) (vs ++ us)
  | [], _, _, _, rfl, s => s
  | _ :: _, _, _, _, ⟨v, vr, e, h, r⟩, s => ⟨v, vr ++ _, by rw [e]; rfl, h, r.app s⟩
theorem RepL.take : ∀ {ds : List D} {vs : List V} (n : Nat), RepL p C W H ds vs → RepL p C W H (ds.take n) (vs.take n)
  | _, _, 0, _ => by rw [List.take_zero, List.take_zero]; rfl
  | [], _, n + 1, e => by
    obtain rfl : _ = [] := e
    rfl
  | _ :: _, _, n + 1, ⟨v, vr, e, h, r⟩ => ⟨v, vr.take n, by rw [e]; rfl, h, r.take n⟩
theorem RepL.drop : ∀ {ds : List D} {vs : List V} (n : Nat), RepL p C W H ds vs → RepL p C W H (ds.drop n) (vs.drop n)
  | _, _, 0, h => h
  | [], _, n + 1, e => by
    obtain rfl : _ = [] := e
    rfl
  | _ :: _, _, n + 1, ⟨v, vr, e, h, r⟩ => by rw [e]; exact r.drop n
theorem RepL.rev {ds : List D} : ∀ {vs : List V}, RepL p C W H ds vs → RepL p C W H ds.reverse vs.reverse := by
  induction ds with
  | nil => intro vs e; obtain rfl : vs = [] := e; rfl
  | cons d r ih =>
    rintro vs ⟨v, vr, e, h, q⟩
    rw [e, List.reverse_cons, List.reverse_cons]
    exact (ih q).app ⟨v, [], rfl, h, rfl⟩
theorem RepL.set : ∀ {ds : List D} {vs : List V} (i : Nat) {d : D} {v : V}, Rep p C W H d v → RepL p C W H ds vs → RepL p C W H (ds.set i d) (vs.set i v)
  | [], _, i, d, v, _, e => by
    obtain rfl : _ = [] := e
    rfl
  | _ :: _, _, 0, d, v, q, ⟨u, vr, e, h, r⟩ => ⟨v, vr, by rw [e]; rfl, q, r⟩
  | _ :: _, _, i + 1, d, v, q, ⟨u, vr, e, h, r⟩ => ⟨u, vr.set i v, by rw [e]; rfl, h, r.set i q⟩
theorem RepL.perm {vs us : List V} (pm : us.Perm vs) : ∀ {ds : List D}, RepL p C W H ds vs → ∃ es, es.Perm ds ∧ RepL p C W H es us := by
  induction pm with
  | nil => intro ds h; exact ⟨ds, .refl _, h⟩
  | cons x _ ih =>
    intro ds h
    cases ds with
    | nil => cases h
    | cons d r =>
      obtain ⟨v, vr, e, h1, h2⟩ := h
      injection e with e1 e2
      subst e1 e2
      obtain ⟨es, p1, p2⟩ := ih h2
      exact ⟨d :: es, p1.cons d, _, _, rfl, h1, p2⟩
  | swap x y l =>
    intro ds h
    cases ds with
    | nil => cases h
    | cons d r =>
      obtain ⟨v, vr, e, h1, h2⟩ := h
      injection e with e1 e2
      subst e1 e2
      cases r with
      | nil => cases h2
      | cons d2 r2 =>
        obtain ⟨v2, vr2, e, h3, h4⟩ := h2
        injection e with e1 e2
        subst e1 e2
        exact ⟨d2 :: d :: r2, List.Perm.swap _ _ _, _, _, rfl, h3, _, _, rfl, h1, h4⟩
  | trans _ _ ih1 ih2 =>
    intro ds h
    obtain ⟨es, p1, r1⟩ := ih2 h
    obtain ⟨es2, p2, r2⟩ := ih1 r1
    exact ⟨es2, p2.trans p1, r2⟩
theorem repL_strs : ∀ (xs : List Str), RepL p C W H (xs.map D.str) (xs.map V.str)
  | [] => rfl
  | x :: r => ⟨_, _, rfl, rfl, repL_strs r⟩
theorem repL_ints : ∀ (xs : List Int), RepL p C W H (xs.map D.int) (xs.map V.int)
  | [] => rfl
  | x :: r => ⟨_, _, rfl, rfl, repL_ints r⟩
theorem repL_bls : ∀ (xs : List Bool), RepL p C W H (xs.map D.bl) (xs.map V.bl)
  | [] => rfl
  | x :: r => ⟨_, _, rfl, rfl, repL_bls r⟩
theorem RepL.strs : ∀ {xs : List Str} {vs : List V}, RepL p C W H (xs.map D.str) vs → vs = xs.map V.str
  | [], _, e => e
  | x :: r, _, ⟨v, vr, e, h, q⟩ => by rw [e, RepL.strs q, (show v = .str x from h)]; rfl
theorem RepL.ints : ∀ {xs : List Int} {vs : List V}, RepL p C W H (xs.map D.int) vs → vs = xs.map V.int
  | [], _, e => e
  | x :: r, _, ⟨v, vr, e, h, q⟩ => by rw [e, RepL.ints q, (show v = .int x from h)]; rfl
theorem RepL.bls : ∀ {xs : List Bool} {vs : List V}, RepL p C W H (xs.map D.bl) vs → vs = xs.map V.bl
  | [], _, e => e
  | x :: r, _, ⟨v, vr, e, h, q⟩ => by rw [e, RepL.bls q, (show v = .bl x from h)]; rfl
theorem View.of {d : D} {v : V} (h : Rep p C W H d v) : View p C W H d v := .inl h
theorem View.lst {ds : List D} {v : V} (h : View p C W H (.lst ds) v) : ∃ a vs, v = .ref a ∧ H a = some (.lst vs) ∧ RepL p C W H ds vs := by
  rcases h with ⟨a, e, _, vs, ha, r⟩ | ⟨a, e, _, vs, ha, r⟩
  · exact ⟨a, vs, e, ha, r⟩
  · exact ⟨a, vs, e, ha, r⟩
theorem View.tup {ds : List D} {v : V} (h : View p C W H (.tup ds) v) : ∃ a vs, v = .ref a ∧ H a = some (.tup vs) ∧ RepL p C W H ds vs := by
  rcases h with ⟨a, e, _, vs, ha, r⟩ | ⟨a, e, _, vs, ha, r⟩
  · exact ⟨a, vs, e, ha, r⟩
  · exact ⟨a, vs, e, ha, r⟩
theorem View.dk {ks : List Key} {ds : List D} {v : V} (h : View p C W H (.dk ks ds) v) : ∃ a vs, v = .ref a ∧ H a = some (.dK (ks.zip vs)) ∧ ks.length = ds.length ∧ RepL p C W H ds vs := by
  rcases h with ⟨a, e, _, vs, ha, r⟩ | ⟨a, e, _, vs, ha, r⟩
  · exact ⟨a, vs, e, ha, r⟩
  · exact ⟨a, vs, e, ha, r⟩
theorem View.sh {xs ys : List Str} {v : V} (h : View p C W H (.sh xs ys) v) : ∃ a dx c r, v = .ref a ∧ H a = some (.ins C dx [("_catalogue", .ref c), ("_row", .ref r)]) ∧ H c = some (.lst (xs.map V.str)) ∧ H r = some (.lst (ys.map V.str)) := by
  rcases h with ⟨a, e, _, dx, c, r, h1, h2, h3, _⟩ | ⟨a, e, _, dx, c, r, h1, h2, h3, _⟩
  · exact ⟨a, dx, c, r, e, h1, h2, h3⟩
  · exact ⟨a, dx, c, r, e, h1, h2, h3⟩
theorem View.int {i : Int} {v : V} (h : View p C W H (.int i) v) : v = .int i := by
  rcases h with h | ⟨_, _, _, h⟩
  · exact h
  · exact h.elim
theorem View.str {i : Str} {v : V} (h : View p C W H (.str i) v) : v = .str i := by
  rcases h with h | ⟨_, _, _, h⟩
  · exact h
  · exact h.elim
theorem View.bl {i : Bool} {v : V} (h : View p C W H (.bl i) v) : v = .bl i := by
  rcases h with h | ⟨_, _, _, h⟩
  · exact h
  · exact h.elim
theorem View.non {v : V} (h : View p C W H .non v) : v = .non := by
  rcases h with h | ⟨_, _, _, h⟩
  · exact h
  · exact h.elim
/-- the purse in W: what stands otherwise stays -/
theorem keepB (hp : ∀ a, p = some a → W a) (e : Bt p H H') : ∀ c o, ¬ W c → H c = some o → ¬ W c ∧ H' c = some o := fun c o nc h => ⟨nc, e c o (fun z => nc (hp c z)) h⟩
theorem View.bt (hp : ∀ a, p = some a → W a) (e : Bt p H H') {d : D} {v : V} (h : View p C W H d v) : View p C W H' d v := by
  rcases h with h | ⟨a, z, na, h⟩
  · exact .inl (h.mono (keepB hp e))
  · exact .inr ⟨a, z, na, h.mono (keepB hp e) fun o => e a o na⟩
end
/-! ### where a def stands -/
structure Zx where
  p : Option Addr
  W0 : Addr → Prop
  H0 : Hp
  dom : ∀ a, W0 a → ∃ o, H0 a = some o
  pw : ∀ a, p = some a → W0 a
abbrev Gm := List (Option Rv)
def Ow (Γ : Gm) (σ : L2.St) (i : Nat) (a : Addr) : Prop := (∃ d, Γ[i]? = some (some (.new d))) ∧ σ[i]? = some (some (.ref a))
/-- what may be written: what the caller wants kept apart, and what slots own -/
def Ws (Z : Zx) (Γ : Gm) (σ : L2.St) (a : Addr) : Prop := Z.W0 a ∨ ∃ i, Ow Γ σ i a
/-- how a slot's value is held -/
def SOk (C : Addr) (Z : Zx) (W : Addr → Prop) (H : Hp) : Rv → V → Prop
  | .val d, v => Rep Z.p C W H d v
  | .new d, v => ∃ a, v = .ref a ∧ Z.H0 a = none ∧ RepO Z.p C W H a d
  | .bor d, v => Rep Z.p C W H d v ∨ ∃ a o, v = .ref a ∧ Z.p ≠ some a ∧ Z.H0 a = some o ∧ RepO Z.p C W H a d
  | .tmp _, _ => False
/-- what an expression gives: H ahead of it, H' behind -/
def XOk (C : Addr) (Z : Zx) (W : Addr → Prop) (H H' : Hp) : Rv → V → Prop
  | .val d, v => Rep Z.p C W H' d v
  | .new d, v => ∃ a, v = .ref a ∧ H a = none ∧ RepO Z.p C (fun c => W c ∨ c = a) H' a d
  | .bor d, v => Rep Z.p C W H' d v ∨ ∃ a o, v = .ref a ∧ Z.p ≠ some a ∧ Z.H0 a = some o ∧ RepO Z.p C W H' a d
  | .tmp d, v => ∃ a, v = .ref a ∧ Z.p ≠ some a ∧ Z.H0 a = none ∧ RepO Z.p C W H' a d
structure Mt (C : Addr) (Z : Zx) (G : List (V × Rv)) (Γ : Gm) (σ : L2.St) (H : Hp) (n : Nat) : Prop where
  len : σ.length = Γ.length
  fr : Bt Z.p Z.H0 H
  pa : PAt Z.p H n
  sl : ∀ (i : Nat) (r : Rv), Γ[i]? = some (some r) → ∃ v, σ[i]? = some (some v) ∧ SOk C Z (Ws Z Γ σ) H r v
  gs : ∀ g ∈ G, SOk C Z (Ws Z Γ σ) H g.2 g.1 ∧ ∀ d, g.2 ≠ .new d
  inj : ∀ (i j : Nat) (a : Addr), Ow Γ σ i a → Ow Γ σ j a → i = j
section
variable {C : Addr} {Z : Zx} {G : List (V × Rv)} {Γ : Gm} {σ : L2.St} {H H' : Hp} {n m : Nat} {W W' : Addr → Prop}
theorem Ws.pw {a : Addr} (h : Z.p = some a) : Ws Z Γ σ a := .inl (Z.pw a h)
theorem Mt.pdom (M : Mt C Z G Γ σ H n) : ∀ a, Z.p = some a → ∃ o, H a = some o := fun a e => M.pa.at e
/-- an own object stands in the heap, and is not the purse -/
theorem Mt.own (M : Mt C Z G Γ σ H n) {i : Nat} {a : Addr} (h : Ow Γ σ i a) : (∃ o, H a = some o) ∧ Z.H0 a = none ∧ Z.p ≠ some a := by
  obtain ⟨⟨d, hd⟩, ha⟩ := h
  obtain ⟨v, hv, b, e, h0, r⟩ := M.sl i _ hd
  rw [ha] at hv
  obtain rfl := Option.some.inj (Option.some.inj hv)
  injection e with e
  subst e
  refine ⟨r.at, h0, fun z => ?_⟩
  obtain ⟨o, ho⟩ := Z.dom a (Z.pw a z)
  rw [h0] at ho
  cases ho
theorem Mt.wdom (M : Mt C Z G Γ σ H n) {a : Addr} (h : Ws Z Γ σ a) : ∃ o, H a = some o := by
  rcases h with h | ⟨i, h⟩
  · obtain ⟨o, ho⟩ := Z.dom a h
    by_cases z : Z.p = some a
    · exact M.pdom a z
    · exact ⟨o, M.fr a o z ho⟩
  · exact (M.own h).1
theorem SOk.bt (hp : ∀ a, Z.p = some a → W a) (own : ∀ a, Z.H0 a = none → Z.p ≠ some a) (e : Bt Z.p H H') : ∀ {r : Rv} {v : V}, SOk C Z W H r v → SOk C Z W H' r v
  | .val d, _, h => Rep.mono (keepB hp e) h
  | .new d, _, ⟨a, e1, h0, r⟩ => ⟨a, e1, h0, r.mono (keepB hp e) fun o => e a o (own a h0)⟩
  | .bor d, _, .inl h => .inl (Rep.mono (keepB hp e) h)
  | .bor d, _, .inr ⟨a, o, e1, na, h0, r⟩ => .inr ⟨a, o, e1, na, h0, r.mono (keepB hp e) fun o => e a o na⟩
  | .tmp _, _, h => h
theorem Zx.apart (Z : Zx) {a : Addr} (h0 : Z.H0 a = none) : Z.p ≠ some a := fun z => by
  obtain ⟨o, ho⟩ := Z.dom a (Z.pw a z)
  rw [h0] at ho
  cases ho
/-- the heap goes on, the purse is drawn from -/
theorem Mt.bt (M : Mt C Z G Γ σ H n) (e : Bt Z.p H H') (pa : PAt Z.p H' m) : Mt C Z G Γ σ H' m where
  len := M.len
  fr := M.fr.trans e
  pa := pa
  sl := fun i r hi => let ⟨v, h1, h2⟩ := M.sl i r hi; ⟨v, h1, h2.bt (fun _ => Ws.pw) (fun _ => Z.apart) e⟩
  gs := fun g hg => ⟨(M.gs g hg).1.bt (fun _ => Ws.pw) (fun _ => Z.apart) e, (M.gs g hg).2⟩
  inj := M.inj
theorem Mt.same (M : Mt C Z G Γ σ H n) (e : Same H H') : Mt C Z G Γ σ H' n := M.bt (.same e) (M.pa.same e)
theorem XOk.view (own : ∀ a, H a = none → Z.p ≠ some a) : ∀ {r : Rv} {v : V}, XOk C Z W H H' r v → View Z.p C W H' r.d v
  | .val d, _, h => .inl h
  | .new d, _, ⟨a, e, h, r⟩ => .inr ⟨a, e, own a h, r.mono (fun c o nc h => ⟨fun z => nc (.inl z), h⟩) fun _ h => h⟩
  | .bor d, _, .inl h => .inl h
  | .bor d, _, .inr ⟨a, o, e, na, h0, r⟩ => .inr ⟨a, e, na, r⟩
  | .tmp d, _, ⟨a, e, na, _, r⟩ => .inr ⟨a, e, na, r⟩
end
end TL

-- TL1
set_option Elab.async false
set_option linter.all false
set_option maxRecDepth 100000
set_option maxHeartbeats 4100000
/-! TL1: expressions -/
namespace TL
open L2 PyProof.Rows PySem PySem.Spec
abbrev TX := Gm → Nat → (Rv → Nat → Prop) → Prop
abbrev TBx := Gm → Nat → (Bool → Nat → Prop) → Prop
abbrev TXs := Gm → Nat → (List Rv → Nat → Prop) → Prop
abbrev ST := List D → Nat → (Rv → Nat → Prop) → Prop
def XOks (C : Addr) (Z : Zx) (W : Addr → Prop) (H H' : Hp) : List Rv → List V → Prop
  | [], vs => vs = []
  | r :: rs, vs => ∃ v vr, vs = v :: vr ∧ XOk C Z W H H' r v ∧ XOks C Z W H H' rs vr
def RE (C : Addr) (Z : Zx) (t : TE) (T : TX) : Prop := ∀ (G : List (V × Rv)) (Γ : Gm) (σ : L2.St) (H : Hp) (n : Nat) (Q : VK) (R : Rv → Nat → Prop), Mt C Z G Γ σ H n → T Γ n R →
  (∀ v H' r n', Bt Z.p H H' → PAt Z.p H' n' → XOk C Z (Ws Z Γ σ) H H' r v → R r n' → Q v H') → t σ H Q
def RT (C : Addr) (Z : Zx) (t : TT) (T : TBx) : Prop := ∀ (G : List (V × Rv)) (Γ : Gm) (σ : L2.St) (H : Hp) (n : Nat) (Q : Bool → Hp → Prop) (R : Bool → Nat → Prop), Mt C Z G Γ σ H n → T Γ n R →
  (∀ b H' n', Bt Z.p H H' → PAt Z.p H' n' → R b n' → Q b H') → t σ H Q
def RA (C : Addr) (Z : Zx) (t : TA) (T : TXs) : Prop := ∀ (G : List (V × Rv)) (Γ : Gm) (σ : L2.St) (H : Hp) (n : Nat) (Q : List V → Hp → Prop) (R : List Rv → Nat → Prop), Mt C Z G Γ σ H n → T Γ n R →
  (∀ vs H' rs n', Bt Z.p H H' → PAt Z.p H' n' → XOks C Z (Ws Z Γ σ) H H' rs vs → R rs n' → Q vs H') → t σ H Q
section
variable {C : Addr} {Z : Zx} {G : List (V × Rv)} {Γ : Gm} {σ : L2.St} {H H1 H2 : Hp} {n m : Nat} {W : Addr → Prop}
theorem Zx.papart (Z : Zx) (dm : ∀ a, Z.p = some a → ∃ o, H a = some o) {a : Addr} (h : H a = none) : Z.p ≠ some a := fun z => by
  obtain ⟨o, ho⟩ := dm a z
  rw [h] at ho
  cases ho
theorem XOk.bt (hp : ∀ a, Z.p = some a → W a) (dm : ∀ a, Z.p = some a → ∃ o, H a = some o) (e : Bt Z.p H1 H2) : ∀ {r : Rv} {v : V}, XOk C Z W H H1 r v → XOk C Z W H H2 r v
  | .val d, _, h => Rep.mono (keepB hp e) h
  | .new d, _, ⟨a, e1, h0, r⟩ => ⟨a, e1, h0, r.mono (keepB (fun b z => .inl (hp b z)) e) fun o => e a o (Z.papart dm h0)⟩
  | .bor d, _, .inl h => .inl (Rep.mono (keepB hp e) h)
  | .bor d, _, .inr ⟨a, o, e1, na, h0, r⟩ => .inr ⟨a, o, e1, na, h0, r.mono (keepB hp e) fun o => e a o na⟩
  | .tmp d, _, ⟨a, e1, na, h0, r⟩ => ⟨a, e1, na, h0, r.mono (keepB hp e) fun o => e a o na⟩
/-- seen from an earlier heap -/
theorem XOk.up (e : Bt Z.p H H1) (dm : ∀ a, Z.p = some a → ∃ o, H1 a = some o) : ∀ {r : Rv} {v : V}, XOk C Z W H1 H2 r v → XOk C Z W H H2 r v
  | .val d, _, h => h
  | .new d, _, ⟨a, e1, h0, r⟩ => ⟨a, e1, e.free dm h0, r⟩
  | .bor d, _, h => h
  | .tmp d, _, h => h
theorem XOks.bt (hp : ∀ a, Z.p = some a → W a) (dm : ∀ a, Z.p = some a → ∃ o, H a = some o) (e : Bt Z.p H1 H2) : ∀ {rs : List Rv} {vs : List V}, XOks C Z W H H1 rs vs → XOks C Z W H H2 rs vs
  | [], _, h => h
  | _ :: _, _, ⟨v, vr, e1, h, r⟩ => ⟨v, vr, e1, h.bt hp dm e, r.bt hp dm e⟩
theorem XOks.up (e : Bt Z.p H H1) (dm : ∀ a, Z.p = some a → ∃ o, H1 a = some o) : ∀ {rs : List Rv} {vs : List V}, XOks C Z W H1 H2 rs vs → XOks C Z W H H2 rs vs
  | [], _, h => h
  | _ :: _, _, ⟨v, vr, e1, h, r⟩ => ⟨v, vr, e1, h.up e dm, r.up e dm⟩
theorem Mt.dom1 (M : Mt C Z G Γ σ H n) (e : Bt Z.p H H1) (pa : PAt Z.p H1 m) : ∀ a, Ws Z Γ σ a → ∃ o, H1 a = some o := fun a w => by
  by_cases z : Z.p = some a
  · exact pa.at z
  · obtain ⟨o, ho⟩ := M.wdom w
    exact ⟨o, e a o z ho⟩
end
/-! ### names, constants -/
def tlV (i : Nat) : TX := fun Γ n R => match Γ[i]? with
  | some (some (.new d)) => R (.tmp d) n
  | some (some (.val d)) => R (.val d) n
  | some (some (.bor d)) => R (.bor d) n
  | _ => False
def tlC (d : D) : TX := fun _ n R => R (.val d) n
section
variable {C : Addr} {Z : Zx}
theorem re_v {i : Nat} : RE C Z (tVar i) (tlV i) := by
  intro G Γ σ H n Q R M h q
  unfold tlV at h
  split at h
  · next d e =>
    obtain ⟨v, hv, a, rfl, h0, r⟩ := M.sl i _ e
    exact ⟨_, hv, q _ H (.tmp d) n .refl M.pa ⟨a, rfl, Z.apart h0, h0, r⟩ h⟩
  · next d e =>
    obtain ⟨v, hv, r⟩ := M.sl i _ e
    exact ⟨_, hv, q _ H (.val d) n .refl M.pa r h⟩
  · next d e =>
    obtain ⟨v, hv, r⟩ := M.sl i _ e
    exact ⟨_, hv, q _ H (.bor d) n .refl M.pa r h⟩
  · exact h.elim
theorem re_int {i : Int} : RE C Z (tC (.int i)) (tlC (.int i)) := fun G Γ σ H n Q R M h q => q _ H (.val (.int i)) n .refl M.pa (show V.int i = V.int i from rfl) h
theorem re_str {s : Str} : RE C Z (tC (.str s)) (tlC (.str s)) := fun G Γ σ H n Q R M h q => q _ H (.val (.str s)) n .refl M.pa (show V.str s = V.str s from rfl) h
theorem re_bl {b : Bool} : RE C Z (tC (.bl b)) (tlC (.bl b)) := fun G Γ σ H n Q R M h q => q _ H (.val (.bl b)) n .refl M.pa (show V.bl b = V.bl b from rfl) h
theorem re_non : RE C Z (tC .non) (tlC .non) := fun G Γ σ H n Q R M h q => q _ H (.val .non) n .refl M.pa (show V.non = V.non from rfl) h
/-! ### arguments, displays -/
def tlNil : TXs := fun _ n R => R [] n
def tlCons (T : TX) (U : TXs) : TXs := fun Γ n R => T Γ n fun r n1 => U Γ n1 fun rs n2 => R (r :: rs) n2
theorem ra_nil : RA C Z tNil tlNil := fun G Γ σ H n Q R M h q => q _ H [] n .refl M.pa rfl h
theorem ra_cons {te : TE} {ta : TA} {T : TX} {U : TXs} (he : RE C Z te T) (ha : RA C Z ta U) : RA C Z (tCons te ta) (tlCons T U) := by
  intro G Γ σ H n Q R M h q
  refine he G Γ σ H n _ _ M h fun v H1 r n1 e1 p1 x1 h1 => ?_
  have M1 := M.bt e1 p1
  refine ha G Γ σ H1 n1 _ _ M1 h1 fun vs H2 rs n2 e2 p2 x2 h2 => ?_
  exact q _ H2 (r :: rs) n2 (e1.trans e2) p2 ⟨v, vs, rfl, x1.bt (fun _ => Ws.pw) M.pdom e2, x2.up e1 M1.pdom⟩ h2
/-- what may be stored: shared or new -/
@[simp] def sto : Rv → Bool
  | .val _ => true
  | .new _ => true
  | _ => false
@[simp] def stoAll : List Rv → Bool
  | [] => true
  | r :: rs => sto r && stoAll rs
theorem XOk.rep {W : Addr → Prop} {H H1 : Hp} (dm : ∀ a, W a → ∃ o, H a = some o) : ∀ {r : Rv} {v : V}, sto r = true → XOk C Z W H H1 r v → Rep Z.p C W H1 r.d v
  | .val d, _, _, h => h
  | .new d, _, _, ⟨a, e, h0, r⟩ => by
    subst e
    refine (r.mono (W' := W) (fun c o nc h => ⟨fun z => nc (.inl z), h⟩) fun _ h => h).rep fun z => ?_
    obtain ⟨o, ho⟩ := dm a z
    rw [h0] at ho
    cases ho
theorem XOks.reps {W : Addr → Prop} {H H1 : Hp} (dm : ∀ a, W a → ∃ o, H a = some o) : ∀ {rs : List Rv} {vs : List V}, stoAll rs = true → XOks C Z W H H1 rs vs → RepL Z.p C W H1 (rs.map Rv.d) vs
  | [], _, _, h => h
  | r :: rs, _, s, ⟨v, vr, e, h, q⟩ => by
    rw [stoAll, Bool.and_eq_true] at s
    exact ⟨v, vr, e, h.rep dm s.1, q.reps dm s.2⟩
/-- a new object whose parts are known -/
theorem fresh_rep {p : Option Addr} {C : Addr} {W : Addr → Prop} {H : Hp} {a : Addr} {o : HO} (na : H a = none) : ∀ c u, ¬ W c → H c = some u → ¬ (W c ∨ c = a) ∧ upd H a o c = some u := fun c u nc h => by
  have ne : c ≠ a := ne_of_none h na
  exact ⟨fun z => z.elim nc ne, by rw [upd_ne ne]; exact h⟩
def tlLst (T : TXs) : TX := fun Γ n R => T Γ n fun rs n1 => stoAll rs = true ∧ rs.length ≤ 1000 ∧ R (.new (.lst (rs.map Rv.d))) n1
def tlTup (T : TXs) : TX := fun Γ n R => T Γ n fun rs n1 => stoAll rs = true ∧ rs.length ≤ 1000 ∧ R (.new (.tup (rs.map Rv.d))) n1
theorem XOks.len {W : Addr → Prop} {H H1 : Hp} : ∀ {rs : List Rv} {vs : List V}, XOks C Z W H H1 rs vs → vs.length = rs.length
  | [], _, e => by rw [show _ = [] from e]; rfl
  | r :: rs, _, ⟨v, vr, e, _, q⟩ => by rw [e, List.length_cons, q.len, List.length_cons]
theorem re_lst {ta : TA} {T : TXs} (ha : RA C Z ta T) : RE C Z (tLst ta) (tlLst T) := by
  intro G Γ σ H n Q R M h q
  refine ha G Γ σ H n _ _ M h fun vs H1 rs n1 e1 p1 x1 ⟨h1, h2, h3⟩ => ?_
  refine ⟨by rw [x1.len]; exact Nat.le_of_lt (small1000 h2), fun a na => ?_⟩
  have s1 := same_upd (o := .lst vs) na
  refine q _ _ (.new (.lst (rs.map Rv.d))) n1 (e1.trans (.same s1)) (p1.same s1) ⟨a, rfl, e1.free (fun b z => p1.at z) na, vs, upd_same, ?_⟩ h3
  exact (x1.reps (fun b w => M.wdom w) h1).mono (fresh_rep (p := Z.p) (C := C) na)
theorem re_tup {ta : TA} {T : TXs} (ha : RA C Z ta T) : RE C Z (tTup ta) (tlTup T) := by
  intro G Γ σ H n Q R M h q
  refine ha G Γ σ H n _ _ M h fun vs H1 rs n1 e1 p1 x1 ⟨h1, h2, h3⟩ => ?_
  refine ⟨by rw [x1.len]; exact Nat.le_of_lt (small1000 h2), fun a na => ?_⟩
  have s1 := same_upd (o := .tup vs) na
  refine q _ _ (.new (.tup (rs.map Rv.d))) n1 (e1.trans (.same s1)) (p1.same s1) ⟨a, rfl, e1.free (fun b z => p1.at z) na, vs, upd_same, ?_⟩ h3
  exact (x1.reps (fun b w => M.wdom w) h1).mono (fresh_rep (p := Z.p) (C := C) na)
/-! ### operations on values -/
/-- a two-place operation does what f says of trees -/
def R2T (C : Addr) (Z : Zx) (r : R2) (f : D → D → (Rv → Prop) → Prop) : Prop := ∀ (W : Addr → Prop) (H : Hp) (x y : V) (d e : D) (R : Rv → Prop) (Q : VK), (∀ a, Z.p = some a → W a) → (∀ a, W a → ∃ o, H a = some o) →
  View Z.p C W H d x → View Z.p C W H e y → f d e R → (∀ v H' r, Same H H' → XOk C Z W H H' r v → R r → Q v H') → r x y H Q
def R1T (C : Addr) (Z : Zx) (r : V → Hp → VK → Prop) (f : D → (Rv → Prop) → Prop) : Prop := ∀ (W : Addr → Prop) (H : Hp) (x : V) (d : D) (R : Rv → Prop) (Q : VK), (∀ a, Z.p = some a → W a) → (∀ a, W a → ∃ o, H a = some o) →
  View Z.p C W H d x → f d R → (∀ v H' r, Same H H' → XOk C Z W H H' r v → R r → Q v H') → r x H Q
def Views (p : Option Addr) (C : Addr) (W : Addr → Prop) (H : Hp) : List D → List V → Prop
  | [], vs => vs = []
  | d :: ds, vs => ∃ v vr, vs = v :: vr ∧ View p C W H d v ∧ Views p C W H ds vr
def RnT (C : Addr) (Z : Zx) (r : List V → Hp → VK → Prop) (f : List D → (Rv → Prop) → Prop) : Prop := ∀ (W : Addr → Prop) (H : Hp) (xs : List V) (ds : List D) (R : Rv → Prop) (Q : VK), (∀ a, Z.p = some a → W a) → (∀ a, W a → ∃ o, H a = some o) →
  Views Z.p C W H ds xs → f ds R → (∀ v H' r, Same H H' → XOk C Z W H H' r v → R r → Q v H') → r xs H Q
def tlOp (f : D → D → (Rv → Prop) → Prop) (T U : TX) : TX := fun Γ n R => T Γ n fun x n1 => U Γ n1 fun y n2 => f x.d y.d fun r => R r n2
def tlUn (f : D → (Rv → Prop) → Prop) (T : TX) : TX := fun Γ n R => T Γ n fun x n1 => f x.d fun r => R r n1
theorem re_op {r : R2} {ta tb : TE} {T U : TX} {f : D → D → (Rv → Prop) → Prop} (ho : R2T C Z r f) (ha : RE C Z ta T) (hb : RE C Z tb U) : RE C Z (tOp r ta tb) (tlOp f T U) := by
  intro G Γ σ H n Q R M h q
  refine ha G Γ σ H n _ _ M h fun v H1 r1 n1 e1 p1 x1 h1 => ?_
  have M1 := M.bt e1 p1
  refine hb G Γ σ H1 n1 _ _ M1 h1 fun u H2 r2 n2 e2 p2 x2 h2 => ?_
  have M2 := M1.bt e2 p2
  refine ho _ H2 v u _ _ _ _ (fun a z => Ws.pw z) (fun a w => M2.wdom w) ((x1.view fun a h => Z.papart M.pdom h).bt (fun a z => Ws.pw z) e2) (x2.view fun a h => Z.papart M1.pdom h) h2 fun w H3 r3 s3 x3 h3 => ?_
  exact q w H3 r3 n2 ((e1.trans e2).trans (.same s3)) (p2.same s3) (x3.up (e1.trans e2) M2.pdom) h3
theorem re_un {r : V → Hp → VK → Prop} {ta : TE} {T : TX} {f : D → (Rv → Prop) → Prop} (ho : R1T C Z r f) (ha : RE C Z ta T) : RE C Z (tUn r ta) (tlUn f T) := by
  intro G Γ σ H n Q R M h q
  refine ha G Γ σ H n _ _ M h fun v H1 r1 n1 e1 p1 x1 h1 => ?_
  have M1 := M.bt e1 p1
  refine ho _ H1 v _ _ _ (fun a z => Ws.pw z) (fun a w => M1.wdom w) (x1.view fun a h => Z.papart M.pdom h) h1 fun w H3 r3 s3 x3 h3 => ?_
  exact q w H3 r3 n1 (e1.trans (.same s3)) (p1.same s3) (x3.up e1 M1.pdom) h3
theorem XOks.views {W : Addr → Prop} {H H1 : Hp} (own : ∀ a, H a = none → Z.p ≠ some a) : ∀ {rs : List Rv} {vs : List V}, XOks C Z W H H1 rs vs → Views Z.p C W H1 (rs.map Rv.d) vs
  | [], _, h => h
  | r :: rs, _, ⟨v, vr, e, h, q⟩ => ⟨v, vr, e, h.view own, q.views own⟩
end
end TL

-- TL2
set_option Elab.async false
set_option linter.all false
set_option maxRecDepth 100000
set_option maxHeartbeats 4100000
/-! TL2: operations, tree by tree -/
namespace TL
open L2 PyProof.Rows PySem PySem.Spec TS
/-! ### trees as data -/
mutual
@[simp] def toP : D → PyData
  | .non => .none
  | .bl b => .bool b
  | .int i => .int i
  | .str s => .str s
  | .lst ds => .list (toPs ds)
  | .tup ds => .tuple (toPs ds)
  | _ => .dict []
@[simp] def toPs : List D → List PyData
  | [] => []
  | d :: r => toP d :: toPs r
end
mutual
/-- no dict, no object in it -/
@[simp] def pln : D → Bool
  | .non => true
  | .bl _ => true
  | .int _ => true
  | .str _ => true
  | .lst ds => plns ds
  | .tup ds => plns ds
  | _ => false
@[simp] def plns : List D → Bool
  | [] => true
  | d :: r => pln d && plns r
/-- how deep -/
@[simp] def dep : D → Nat
  | .lst ds => deps ds + 1
  | .tup ds => deps ds + 1
  | .dk _ _ => 1
  | .dt _ _ => 1
  | .sh _ _ => 1
  | .ob _ _ _ => 1
  | .purse => 1
  | _ => 0
@[simp] def deps : List D → Nat
  | [] => 0
  | d :: r => max (dep d) (deps r)
end
mutual
theorem pln_plain : ∀ d : D, pln d = true → (toP d).plain = true
  | .non, _ => rfl
  | .bl _, _ => rfl
  | .int _, _ => rfl
  | .str _, _ => rfl
  | .lst ds, h => plns_plain ds h
  | .tup ds, h => plns_plain ds h
theorem plns_plain : ∀ ds : List D, plns ds = true → PyData.plainAll (toPs ds) = true
  | [], _ => rfl
  | d :: r, h => by
    rw [plns, Bool.and_eq_true] at h
    rw [toPs, PyData.plainAll, pln_plain d h.1, plns_plain r h.2]
    rfl
theorem dep_depth : ∀ d : D, (toP d).depth ≤ dep d
  | .non => Nat.le.refl
  | .bl _ => Nat.le.refl
  | .int _ => Nat.le.refl
  | .str _ => Nat.le.refl
  | .lst ds => by rw [toP, dep, PyData.depth]; have := deps_depth ds; omega
  | .tup ds => by rw [toP, dep, PyData.depth]; have := deps_depth ds; omega
  | .dk _ _ => by simp [PyData.depth, PyData.depthKv]
  | .dt _ _ => by simp [PyData.depth, PyData.depthKv]
  | .sh _ _ => by simp [PyData.depth, PyData.depthKv]
  | .ob _ _ _ => by simp [PyData.depth, PyData.depthKv]
  | .purse => by simp [PyData.depth, PyData.depthKv]
theorem deps_depth : ∀ ds : List D, PyData.depthAll (toPs ds) ≤ deps ds
  | [] => Nat.le.refl
  | d :: r => by
    rw [toPs, deps, PyData.depthAll]
    have h1 := dep_depth d
    have h2 := deps_depth r
    omega
end
section
variable {p : Option Addr} {C : Addr} {W : Addr → Prop} {H : Hp} {K : PySem.W.Frag}
mutual
theorem Rep.dp : ∀ {d : D} {v : V}, pln d = true → Rep p C W H d v → Dp K H v (toP d)
  | .non, _, _, e => by rw [show _ = V.non from e]; exact .non
  | .bl b, _, _, e => by rw [show _ = V.bl b from e]; exact .bl b
  | .int i, _, _, e => by rw [show _ = V.int i from e]; exact .int i
  | .str s, _, _, e => by rw [show _ = V.str s from e]; exact .str s
  | .lst ds, _, h, ⟨a, e, _, vs, ha, r⟩ => by rw [e]; exact .lst (SqL.of ha) (RepL.dp h r)
  | .tup ds, _, h, ⟨a, e, _, vs, ha, r⟩ => by rw [e]; exact .tup (SqT.of ha) (RepL.dp h r)
theorem RepL.dp : ∀ {ds : List D} {vs : List V}, plns ds = true → RepL p C W H ds vs → DpAll K H vs (toPs ds)
  | [], _, _, e => by rw [show _ = [] from e]; exact .nil
  | d :: r, _, h, ⟨v, vr, e, h1, h2⟩ => by
    rw [plns, Bool.and_eq_true] at h
    rw [e]
    exact .cons (h1.dp h.1) (h2.dp h.2)
end
theorem View.dp {d : D} {v : V} (h : pln d = true) (q : View p C W H d v) : Dp K H v (toP d) := by
  rcases q with q | ⟨a, e, _, r⟩
  · exact q.dp h
  · match d, h, r with
    | .lst ds, h, ⟨vs, ha, r⟩ => rw [e]; exact .lst (SqL.of ha) (r.dp h)
    | .tup ds, h, ⟨vs, ha, r⟩ => rw [e]; exact .tup (SqT.of ha) (r.dp h)
end
/-! ### the machine's rules, without a wish about texts -/
section
variable {X : Cx}
def rEqP (K : PySem.W.Frag) : R2 := fun x y H Q => ∃ d e, Dp K H x d ∧ Dp K H y e ∧ d.plain = true ∧ e.plain = true ∧ min d.depth e.depth ≤ 60 ∧ Q (.bl (PyData.eqv d e)) H
def rNeP (K : PySem.W.Frag) : R2 := fun x y H Q => ∃ d e, Dp K H x d ∧ Dp K H y e ∧ d.plain = true ∧ e.plain = true ∧ min d.depth e.depth ≤ 60 ∧ Q (.bl (!PyData.eqv d e)) H
def rInP (K : PySem.W.Frag) : R2 := fun x y H Q => ∃ d ds, Dp K H x d ∧ (Dp K H y (.list ds) ∨ Dp K H y (.tuple ds)) ∧ d.plain = true ∧ PyData.plainAll ds = true ∧ min (PyData.depthAll ds) d.depth ≤ 60 ∧ Q (.bl (ds.any fun z => PyData.eqv z d)) H
def rNinP (K : PySem.W.Frag) : R2 := fun x y H Q => ∃ d ds, Dp K H x d ∧ (Dp K H y (.list ds) ∨ Dp K H y (.tuple ds)) ∧ d.plain = true ∧ PyData.plainAll ds = true ∧ min (PyData.depthAll ds) d.depth ≤ 60 ∧ Q (.bl (!ds.any fun z => PyData.eqv z d)) H
theorem op_eqP (hu : X.A.units + 62 < cLine) : OpR X (compareOp .Eq) (rEqP X.K) := by
  intro pins s σ H x y v u Q I rx ry h
  obtain ⟨d, e, hd, he, p1, p2, dp, q⟩ := h
  obtain ⟨as, r1⟩ := Dp.reads I d x v hd rx
  obtain ⟨bs, r2⟩ := Dp.reads I e y u he ry
  exact SeqAt.eq_plain r1 r2 p1 p2 (by omega) ⟨.bl _, H, I, rfl, q⟩
theorem op_neP (hu : X.A.units + 62 < cLine) : OpR X (compareOp .NotEq) (rNeP X.K) := by
  intro pins s σ H x y v u Q I rx ry h
  obtain ⟨d, e, hd, he, p1, p2, dp, q⟩ := h
  obtain ⟨as, r1⟩ := Dp.reads I d x v hd rx
  obtain ⟨bs, r2⟩ := Dp.reads I e y u he ry
  exact SeqAt.ne_plain r1 r2 p1 p2 (by omega) ⟨.bl _, H, I, rfl, q⟩
theorem op_inP (hu : X.A.units + 62 < cLine) : OpR X (compareOp .In) (rInP X.K) := by
  intro pins s σ H x y v u Q I rx ry h
  obtain ⟨d, ds, hd, he, p1, p2, dp, q⟩ := h
  obtain ⟨as, r1⟩ := Dp.reads I d x v hd rx
  rcases he with he | he
  · obtain ⟨bs, r2⟩ := Dp.reads I (.list ds) y u he ry
    exact SeqAt.in_list_data r2 r1 p2 p1 (by omega) ⟨.bl _, H, I, rfl, q⟩
  · obtain ⟨bs, r2⟩ := Dp.reads I (.tuple ds) y u he ry
    exact SeqAt.in_tuple_data r2 r1 p2 p1 (by omega) ⟨.bl _, H, I, rfl, q⟩
theorem op_ninP (hu : X.A.units + 62 < cLine) : OpR X (compareOp .NotIn) (rNinP X.K) := by
  intro pins s σ H x y v u Q I rx ry h
  obtain ⟨d, ds, hd, he, p1, p2, dp, q⟩ := h
  obtain ⟨as, r1⟩ := Dp.reads I d x v hd rx
  rcases he with he | he
  · obtain ⟨bs, r2⟩ := Dp.reads I (.list ds) y u he ry
    exact SeqAt.notIn_list_data r2 r1 p2 p1 (by omega) ⟨.bl _, H, I, rfl, q⟩
  · obtain ⟨bs, r2⟩ := Dp.reads I (.tuple ds) y u he ry
    exact SeqAt.notIn_tuple_data r2 r1 p2 p1 (by omega) ⟨.bl _, H, I, rfl, q⟩
def orR (r r' : R2) : R2 := fun x y H Q => r x y H Q ∨ r' x y H Q
def rAddA (K : PySem.W.Frag) : R2 := orR (rI0 fun i j => .int (i + j)) (orR rCat (orR (rCatA K) fun x y H Q => ∃ i j, x = .str i ∧ y = .str j ∧ i.length + j.length ≤ sizeLine ∧ Q (.str (i ++ j)) H))
theorem op_addA : OpR X (binaryOp .Add) (rAddA X.K) := OpR.or op_add (OpR.or op_cat (OpR.or op_catA op_add_str))
def rMulA : R2 := orR (rI CMul fun i j => .int (i * j)) rRep
theorem op_mulA : OpR X (binaryOp .Mult) rMulA := OpR.or op_mul op_rep
def rLtA : R2 := orR (rI0 fun i j => .bl (decide (i < j))) fun x y H Q => ∃ i j, x = .str i ∧ y = .str j ∧ Q (.bl (decide (i.cps.toList < j.cps.toList))) H
theorem op_ltA : OpR X (compareOp .Lt) rLtA := OpR.or op_lt op_lt_str
def rIxA (K : PySem.W.Frag) : R2 := orR (rIxL K) (orR (rIxT K) rIxS)
theorem ix_any : IxR X (rIxA X.K) := IxR.or ix_list (IxR.or ix_tup ix_str)
def rSlAll (K : PySem.W.Frag) : V → Option Int → Option Int → Hp → VK → Prop := fun x lo hi H Q => rSlL K x lo hi H Q ∨ (rSlA K x lo hi H Q ∨ rSlS x lo hi H Q)
theorem sl_any : SlR X (rSlAll X.K) := SlR.or sl_list (SlR.or sl_tupA sl_str)
end
/-! ### what they do to trees -/
def dAdd : D → D → (Rv → Prop) → Prop
  | .int i, .int j, R => R (.val (.int (i + j)))
  | .lst a, .lst b, R => a.length + b.length ≤ 1000000 ∧ R (.new (.lst (a ++ b)))
  | .tup a, .tup b, R => a.length + b.length ≤ 1000000 ∧ a ≠ [] ∧ b ≠ [] ∧ R (.new (.tup (a ++ b)))
  | .str a, .str b, R => a.length + b.length ≤ 1000000 ∧ R (.val (.str (a ++ b)))
  | _, _, _ => False
def dSub : D → D → (Rv → Prop) → Prop
  | .int i, .int j, R => R (.val (.int (i - j)))
  | _, _, _ => False
def dMul : D → D → (Rv → Prop) → Prop
  | .int i, .int j, R => ((-(2 ^ 64) < i ∧ i < 2 ^ 64) ∨ (-(2 ^ 64) < j ∧ j < 2 ^ 64)) ∧ R (.val (.int (i * j)))
  | .lst a, .int k, R => 0 ≤ k ∧ k ≤ 1000000 ∧ a.length * k.toNat ≤ 1000000 ∧ R (.new (.lst (List.replicate k.toNat a).flatten))
  | _, _, _ => False
def dFdiv : D → D → (Rv → Prop) → Prop
  | .int i, .int j, R => 0 < j ∧ j < 1073741824 ∧ R (.val (.int (i / j)))
  | _, _, _ => False
def dMod : D → D → (Rv → Prop) → Prop
  | .int i, .int j, R => 0 < j ∧ R (.val (.int (i % j)))
  | _, _, _ => False
def dEq : D → D → (Rv → Prop) → Prop
  | .int i, .int j, R => R (.val (.bl (decide (i = j))))
  | .str i, .str j, R => R (.val (.bl (decide (i = j))))
  | d, e, R => pln d = true ∧ pln e = true ∧ min (dep d) (dep e) ≤ 60 ∧ R (.val (.bl (PyData.eqv (toP d) (toP e))))
def dNe : D → D → (Rv → Prop) → Prop
  | .int i, .int j, R => R (.val (.bl (!decide (i = j))))
  | .str i, .str j, R => R (.val (.bl (!decide (i = j))))
  | d, e, R => pln d = true ∧ pln e = true ∧ min (dep d) (dep e) ≤ 60 ∧ R (.val (.bl (!PyData.eqv (toP d) (toP e))))
def dIn : D → D → (Rv → Prop) → Prop
  | d, .lst ds, R => pln d = true ∧ plns ds = true ∧ min (deps ds) (dep d) ≤ 60 ∧ R (.val (.bl (ds.any fun z => PyData.eqv (toP z) (toP d))))
  | d, .tup ds, R => pln d = true ∧ plns ds = true ∧ min (deps ds) (dep d) ≤ 60 ∧ R (.val (.bl (ds.any fun z => PyData.eqv (toP z) (toP d))))
  | _, _, _ => False
def dNin : D → D → (Rv → Prop) → Prop
  | d, .lst ds, R => pln d = true ∧ plns ds = true ∧ min (deps ds) (dep d) ≤ 60 ∧ R (.val (.bl (!ds.any fun z => PyData.eqv (toP z) (toP d))))
  | d, .tup ds, R => pln d = true ∧ plns ds = true ∧ min (deps ds) (dep d) ≤ 60 ∧ R (.val (.bl (!ds.any fun z => PyData.eqv (toP z) (toP d))))
  | _, _, _ => False
def dLt : D → D → (Rv → Prop) → Prop
  | .int i, .int j, R => R (.val (.bl (decide (i < j))))
  | .str i, .str j, R => R (.val (.bl (decide (i.cps.toList < j.cps.toList))))
  | _, _, _ => False
def dLe : D → D → (Rv → Prop) → Prop
  | .int i, .int j, R => R (.val (.bl (decide (i ≤ j))))
  | _, _, _ => False
def dGt : D → D → (Rv → Prop) → Prop
  | .int i, .int j, R => R (.val (.bl (decide (j < i))))
  | _, _, _ => False
def dGe : D → D → (Rv → Prop) → Prop
  | .int i, .int j, R => R (.val (.bl (decide (j ≤ i))))
  | _, _, _ => False
def isNon : D → Bool
  | .non => true
  | _ => false
def dIsN : D → D → (Rv → Prop) → Prop
  | d, .non, R => R (.val (.bl (isNon d)))
  | _, _, _ => False
def dNotN : D → D → (Rv → Prop) → Prop
  | d, .non, R => R (.val (.bl (!isNon d)))
  | _, _, _ => False
/-- the item at an index, also from behind -/
def dIx : D → D → (Rv → Prop) → Prop
  | .lst ds, .int i, R => ∃ d, atI ds i = some d ∧ R (.val d)
  | .tup ds, .int i, R => ∃ d, atI ds i = some d ∧ R (.val d)
  | .str z, .int i, R => z.length ≤ 1000000 ∧ ∃ c, atI z.cps.toList i = some c ∧ R (.val (.str ⟨#[c]⟩))
  | _, _, _ => False
def dNeg : D → (Rv → Prop) → Prop
  | .int i, R => R (.val (.int (-i)))
  | _, _ => False
section
variable {C : Addr} {Z : Zx} {K : PySem.W.Frag}
theorem line_of {n : Nat} (h : n ≤ 1000000) : n ≤ sizeLine := Nat.le_trans h (by decide +kernel)
theorem xval {W : Addr → Prop} {H H' : Hp} {d : D} {v : V} (h : Rep Z.p C W H' d v) : XOk C Z W H H' (.val d) v := h
theorem r2_i {f : Int → Int → V} {g : Int → Int → D} (hf : ∀ i j, (∃ k, f i j = .int k ∧ g i j = .int k) ∨ ∃ b, f i j = .bl b ∧ g i j = .bl b) {W : Addr → Prop} {H : Hp} {x y : V} {i j : Int} {R : Rv → Prop} {Q : VK}
    (hx : View Z.p C W H (.int i) x) (hy : View Z.p C W H (.int j) y) (h : R (.val (g i j))) (q : ∀ v H' r, Same H H' → XOk C Z W H H' r v → R r → Q v H') : rI0 f x y H Q := by
  refine ⟨i, j, hx.int, hy.int, q _ H (.val (g i j)) (Same.refl H) ?_ h⟩
  rcases hf i j with ⟨k, e1, e2⟩ | ⟨b, e1, e2⟩
  · rw [e1, e2]; exact (rfl : V.int k = V.int k)
  · rw [e1, e2]; exact (rfl : V.bl b = V.bl b)
theorem new_lst {W : Addr → Prop} {H : Hp} {ds : List D} {vs : List V} {R : Rv → Prop} {Q : VK} (r : RepL Z.p C W H ds vs) (h : R (.new (.lst ds))) (q : ∀ v H' r, Same H H' → XOk C Z W H H' r v → R r → Q v H') : ∀ a, H a = none → Q (.ref a) (upd H a (.lst vs)) := fun a na =>
  q _ _ (.new (.lst ds)) (same_upd na) ⟨a, rfl, na, vs, upd_same, r.mono (fresh_rep (p := Z.p) (C := C) na)⟩ h
theorem new_tup {W : Addr → Prop} {H : Hp} {ds : List D} {vs : List V} {R : Rv → Prop} {Q : VK} (r : RepL Z.p C W H ds vs) (h : R (.new (.tup ds))) (q : ∀ v H' r, Same H H' → XOk C Z W H H' r v → R r → Q v H') : ∀ a, H a = none → Q (.ref a) (upd H a (.tup vs)) := fun a na =>
  q _ _ (.new (.tup ds)) (same_upd na) ⟨a, rfl, na, vs, upd_same, r.mono (fresh_rep (p := Z.p) (C := C) na)⟩ h
theorem same_bl {W : Addr → Prop} {H : Hp} {b : Bool} {R : Rv → Prop} {Q : VK} (h : R (.val (.bl b))) (q : ∀ v H' r, Same H H' → XOk C Z W H H' r v → R r → Q v H') : Q (.bl b) H := q _ H (.val (.bl b)) (Same.refl H) (rfl : V.bl b = V.bl b) h
theorem same_int {W : Addr → Prop} {H : Hp} {i : Int} {R : Rv → Prop} {Q : VK} (h : R (.val (.int i))) (q : ∀ v H' r, Same H H' → XOk C Z W H H' r v → R r → Q v H') : Q (.int i) H := q _ H (.val (.int i)) (Same.refl H) (rfl : V.int i = V.int i) h
theorem same_str {W : Addr → Prop} {H : Hp} {i : Str} {R : Rv → Prop} {Q : VK} (h : R (.val (.str i))) (q : ∀ v H' r, Same H H' → XOk C Z W H H' r v → R r → Q v H') : Q (.str i) H := q _ H (.val (.str i)) (Same.refl H) (rfl : V.str i = V.str i) h
theorem app_ne {ds : List D} {vs : List V} {p : Option Addr} {W : Addr → Prop} {H : Hp} (r : RepL p C W H ds vs) (h : ds ≠ []) : vs ≠ [] := by
  intro e
  have l := r.len
  rw [e] at l
  exact h (List.length_eq_zero_iff.1 l.symm)
theorem r2_add : R2T C Z (rAddA K) dAdd := by
  intro W H x y d e R Q hp dm hx hy h q
  unfold dAdd at h
  split at h
  · exact .inl ⟨_, _, hx.int, hy.int, same_int h q⟩
  · obtain ⟨a, vs, rfl, ha, r1⟩ := hx.lst
    obtain ⟨b, us, rfl, hb, r2⟩ := hy.lst
    exact .inr (.inl ⟨a, b, vs, us, rfl, rfl, ha, hb, by rw [r1.len, r2.len]; exact line_of h.1, new_lst (r1.app r2) h.2 q⟩)
  · obtain ⟨a, vs, rfl, ha, r1⟩ := hx.tup
    obtain ⟨b, us, rfl, hb, r2⟩ := hy.tup
    exact .inr (.inr (.inl ⟨a, b, vs, us, rfl, rfl, SqT.of ha, SqT.of hb, by rw [r1.len, r2.len]; exact line_of h.1, fun e => absurd e (app_ne r1 h.2.1), fun _ e => absurd e (app_ne r2 h.2.2.1), fun _ _ => new_tup (r1.app r2) h.2.2.2 q⟩))
  · exact .inr (.inr (.inr ⟨_, _, hx.str, hy.str, line_of h.1, same_str h.2 q⟩))
  · exact h.elim
theorem r2_sub : R2T C Z (rI0 fun i j => .int (i - j)) dSub := by
  intro W H x y d e R Q hp dm hx hy h q
  unfold dSub at h
  split at h
  · exact ⟨_, _, hx.int, hy.int, same_int h q⟩
  · exact h.elim
theorem flat_rep {p : Option Addr} {W : Addr → Prop} {H : Hp} {ds : List D} {vs : List V} (r : RepL p C W H ds vs) : ∀ k : Nat, RepL p C W H (List.replicate k ds).flatten (List.replicate k vs).flatten
  | 0 => rfl
  | k + 1 => by
    rw [List.replicate_succ, List.replicate_succ, List.flatten_cons, List.flatten_cons]
    exact r.app (flat_rep r k)
theorem r2_mul : R2T C Z rMulA dMul := by
  intro W H x y d e R Q hp dm hx hy h q
  unfold dMul at h
  split at h
  · exact .inl ⟨_, _, hx.int, hy.int, h.1, same_int h.2 q⟩
  · obtain ⟨a, vs, rfl, ha, r1⟩ := hx.lst
    obtain ⟨h1, h2, h3, h4⟩ := h
    exact .inr ⟨a, _, vs, rfl, hy.int, ha, by omega, by omega, by rw [r1.len]; exact line_of h3, new_lst (flat_rep r1 _) h4 q⟩
  · exact h.elim
theorem r2_fdiv : R2T C Z (rI CDiv fun i j => .int (i / j)) dFdiv := by
  intro W H x y d e R Q hp dm hx hy h q
  unfold dFdiv at h
  split at h
  · exact ⟨_, _, hx.int, hy.int, ⟨h.1, h.2.1⟩, same_int h.2.2 q⟩
  · exact h.elim
theorem r2_mod : R2T C Z (rI (fun _ j => 0 < j) fun i j => .int (i % j)) dMod := by
  intro W H x y d e R Q hp dm hx hy h q
  unfold dMod at h
  split at h
  · exact ⟨_, _, hx.int, hy.int, h.1, same_int h.2 q⟩
  · exact h.elim
theorem min_le {a b c d n : Nat} (h1 : a ≤ c) (h2 : b ≤ d) (h : min c d ≤ n) : min a b ≤ n := by omega
theorem r2_eq : R2T C Z (rEqP K) dEq := by
  intro W H x y d e R Q hp dm hx hy h q
  have key : pln d = true → pln e = true → min (dep d) (dep e) ≤ 60 → R (.val (.bl (PyData.eqv (toP d) (toP e)))) → rEqP K x y H Q := fun h1 h2 h3 h4 =>
    ⟨toP d, toP e, hx.dp h1, hy.dp h2, pln_plain d h1, pln_plain e h2, min_le (dep_depth d) (dep_depth e) h3, same_bl h4 q⟩
  unfold dEq at h
  split at h
  · next i j =>
    refine key rfl rfl (by simp) ?_
    have e2 : PyData.eqv (toP (.int i)) (toP (.int j)) = decide (i = j) := by simp only [toP, PyData.eqv]; exact Bool.beq_eq_decide_eq _ _
    rw [e2]; exact h
  · next i j =>
    refine key rfl rfl (by simp) ?_
    have e2 : PyData.eqv (toP (.str i)) (toP (.str j)) = decide (i = j) := by simp only [toP, PyData.eqv]; exact Bool.beq_eq_decide_eq _ _
    rw [e2]; exact h
  · exact key h.1 h.2.1 h.2.2.1 h.2.2.2
theorem r2_ne : R2T C Z (rNeP K) dNe := by
  intro W H x y d e R Q hp dm hx hy h q
  have key : pln d = true → pln e = true → min (dep d) (dep e) ≤ 60 → R (.val (.bl (!PyData.eqv (toP d) (toP e)))) → rNeP K x y H Q := fun h1 h2 h3 h4 =>
    ⟨toP d, toP e, hx.dp h1, hy.dp h2, pln_plain d h1, pln_plain e h2, min_le (dep_depth d) (dep_depth e) h3, same_bl h4 q⟩
  unfold dNe at h
  split at h
  · next i j =>
    refine key rfl rfl (by simp) ?_
    have e2 : PyData.eqv (toP (.int i)) (toP (.int j)) = decide (i = j) := by simp only [toP, PyData.eqv]; exact Bool.beq_eq_decide_eq _ _
    rw [e2]; exact h
  · next i j =>
    refine key rfl rfl (by simp) ?_
    have e2 : PyData.eqv (toP (.str i)) (toP (.str j)) = decide (i = j) := by simp only [toP, PyData.eqv]; exact Bool.beq_eq_decide_eq _ _
    rw [e2]; exact h
  · exact key h.1 h.2.1 h.2.2.1 h.2.2.2
theorem any_toPs (d : PyData) : ∀ ds : List D, (toPs ds).any (fun z => PyData.eqv z d) = ds.any fun z => PyData.eqv (toP z) d
  | [] => rfl
  | x :: r => by rw [toPs, List.any_cons, List.any_cons, any_toPs d r]
theorem View.dpL {W : Addr → Prop} {H : Hp} {p : Option Addr} {ds : List D} {v : V} (h : View p C W H (.lst ds) v) (hp : plns ds = true) : Dp K H v (.list (toPs ds)) := View.dp (d := .lst ds) hp h
theorem View.dpT {W : Addr → Prop} {H : Hp} {p : Option Addr} {ds : List D} {v : V} (h : View p C W H (.tup ds) v) (hp : plns ds = true) : Dp K H v (.tuple (toPs ds)) := View.dp (d := .tup ds) hp h
theorem r2_in : R2T C Z (rInP K) dIn := by
  intro W H x y d e R Q hp dm hx hy h q
  unfold dIn at h
  split at h
  · next ds => exact ⟨toP d, toPs ds, hx.dp h.1, .inl (hy.dpL h.2.1), pln_plain d h.1, plns_plain ds h.2.1, min_le (deps_depth ds) (dep_depth d) h.2.2.1, by rw [any_toPs]; exact same_bl h.2.2.2 q⟩
  · next ds => exact ⟨toP d, toPs ds, hx.dp h.1, .inr (hy.dpT h.2.1), pln_plain d h.1, plns_plain ds h.2.1, min_le (deps_depth ds) (dep_depth d) h.2.2.1, by rw [any_toPs]; exact same_bl h.2.2.2 q⟩
  · exact h.elim
theorem r2_nin : R2T C Z (rNinP K) dNin := by
  intro W H x y d e R Q hp dm hx hy h q
  unfold dNin at h
  split at h
  · next ds => exact ⟨toP d, toPs ds, hx.dp h.1, .inl (hy.dpL h.2.1), pln_plain d h.1, plns_plain ds h.2.1, min_le (deps_depth ds) (dep_depth d) h.2.2.1, by rw [any_toPs]; exact same_bl h.2.2.2 q⟩
  · next ds => exact ⟨toP d, toPs ds, hx.dp h.1, .inr (hy.dpT h.2.1), pln_plain d h.1, plns_plain ds h.2.1, min_le (deps_depth ds) (dep_depth d) h.2.2.1, by rw [any_toPs]; exact same_bl h.2.2.2 q⟩
  · exact h.elim
theorem r2_lt : R2T C Z rLtA dLt := by
  intro W H x y d e R Q hp dm hx hy h q
  unfold dLt at h
  split at h
  · exact .inl ⟨_, _, hx.int, hy.int, same_bl h q⟩
  · exact .inr ⟨_, _, hx.str, hy.str, same_bl h q⟩
  · exact h.elim
theorem r2_le : R2T C Z (rI0 fun i j => .bl (decide (i ≤ j))) dLe := by
  intro W H x y d e R Q hp dm hx hy h q
  unfold dLe at h
  split at h
  · exact ⟨_, _, hx.int, hy.int, same_bl h q⟩
  · exact h.elim
theorem r2_gt : R2T C Z (rI0 fun i j => .bl (decide (j < i))) dGt := by
  intro W H x y d e R Q hp dm hx hy h q
  unfold dGt at h
  split at h
  · exact ⟨_, _, hx.int, hy.int, same_bl h q⟩
  · exact h.elim
theorem r2_ge : R2T C Z (rI0 fun i j => .bl (decide (j ≤ i))) dGe := by
  intro W H x y d e R Q hp dm hx hy h q
  unfold dGe at h
  split at h
  · exact ⟨_, _, hx.int, hy.int, same_bl h q⟩
  · exact h.elim
theorem View.isNon {p : Option Addr} {W : Addr → Prop} {H : Hp} : ∀ {d : D} {v : V}, View p C W H d v → decide (v = .non) = isNon d
  | .non, _, h => by rw [h.non]; rfl
  | .bl b, _, h => by rw [h.bl]; rfl
  | .int b, _, h => by rw [h.int]; rfl
  | .str b, _, h => by rw [h.str]; rfl
  | .lst _, _, h => by obtain ⟨a, _, rfl, _⟩ := h.lst; rfl
  | .tup _, _, h => by obtain ⟨a, _, rfl, _⟩ := h.tup; rfl
  | .dk _ _, _, h => by obtain ⟨a, _, rfl, _⟩ := h.dk; rfl
  | .dt _ _, _, h => by rcases h with ⟨a, rfl, _⟩ | ⟨a, rfl, _⟩ <;> rfl
  | .sh _ _, _, h => by obtain ⟨a, _, _, _, rfl, _⟩ := h.sh; rfl
  | .ob _ _ _, _, h => by rcases h with ⟨a, rfl, _⟩ | ⟨a, rfl, _⟩ <;> rfl
  | .purse, _, h => by rcases h with ⟨a, rfl, _⟩ | ⟨a, rfl, _⟩ <;> rfl
theorem r2_isN : R2T C Z (fun x y H Q => y = .non ∧ Q (.bl (decide (x = .non))) H) dIsN := by
  intro W H x y d e R Q hp dm hx hy h q
  unfold dIsN at h
  split at h
  · exact ⟨hy.non, by rw [hx.isNon]; exact same_bl h q⟩
  · exact h.elim
theorem r2_notN : R2T C Z (fun x y H Q => y = .non ∧ Q (.bl (!decide (x = .non))) H) dNotN := by
  intro W H x y d e R Q hp dm hx hy h q
  unfold dNotN at h
  split at h
  · exact ⟨hy.non, by rw [hx.isNon]; exact same_bl h q⟩
  · exact h.elim
theorem RepL.atI {p : Option Addr} {W : Addr → Prop} {H : Hp} {ds : List D} {vs : List V} {i : Int} {d : D} (r : RepL p C W H ds vs) (h : L2.atI ds i = some d) : ∃ v, L2.atI vs i = some v ∧ Rep p C W H d v := by
  unfold L2.atI at h ⊢
  rw [r.len]
  cases e : ixN ds.length i with
  | none => rw [e] at h; cases h
  | some j =>
    rw [e] at h
    exact r.get h
theorem r2_ix : R2T C Z (rIxA K) dIx := by
  intro W H x y d e R Q hp dm hx hy h q
  unfold dIx at h
  split at h
  · obtain ⟨a, vs, rfl, ha, r⟩ := hx.lst
    obtain ⟨z, hz, h⟩ := h
    obtain ⟨v, hv, rv⟩ := r.atI hz
    exact .inl ⟨a, vs, _, v, rfl, hy.int, SqL.of ha, hv, q v H (.val z) (Same.refl H) rv h⟩
  · obtain ⟨a, vs, rfl, ha, r⟩ := hx.tup
    obtain ⟨z, hz, h⟩ := h
    obtain ⟨v, hv, rv⟩ := r.atI hz
    exact .inr (.inl ⟨a, vs, _, v, rfl, hy.int, SqT.of ha, hv, q v H (.val z) (Same.refl H) rv h⟩)
  · obtain ⟨l, c, hc, h⟩ := h
    exact .inr (.inr ⟨_, _, c, hx.str, hy.int, line_of l, hc, same_str h q⟩)
  · exact h.elim
theorem r1_neg : R1T C Z (rU fun i => .int (-i)) dNeg := by
  intro W H x d R Q hp dm hx h q
  unfold dNeg at h
  split at h
  · exact ⟨_, hx.int, same_int h q⟩
  · exact h.elim
end
end TL

-- TL3
set_option Elab.async false
set_option linter.all false
set_option maxRecDepth 100000
set_option maxHeartbeats 4100000
/-! TL3: tests, choices, calls -/
namespace TL
open L2 PyProof.Rows PySem PySem.Spec TS
section
variable {C : Addr} {Z : Zx} {K : PySem.W.Frag}
/-! ### tests -/
def tlT (T : TX) : TBx := fun Γ n R => T Γ n fun r n1 => match r.d with
  | .bl b => R b n1
  | _ => False
def tlAndT (T U : TBx) : TBx := fun Γ n R => T Γ n fun b n1 => if b = true then U Γ n1 R else R false n1
def tlOrT (T U : TBx) : TBx := fun Γ n R => T Γ n fun b n1 => if b = true then R true n1 else U Γ n1 R
def tlNotT (T : TBx) : TBx := fun Γ n R => T Γ n fun b n1 => R (!b) n1
def tlAnd (T U : TX) : TX := fun Γ n R => T Γ n fun r n1 => match r.d with
  | .bl b => if b = true then U Γ n1 R else R (.val (.bl false)) n1
  | _ => False
def tlOr (T U : TX) : TX := fun Γ n R => T Γ n fun r n1 => match r.d with
  | .bl b => if b = true then R (.val (.bl true)) n1 else U Γ n1 R
  | _ => False
def tlNot (T : TX) : TX := fun Γ n R => T Γ n fun r n1 => match r.d with
  | .bl b => R (.val (.bl (!b))) n1
  | _ => False
def tlIfx (c : TBx) (T U : TX) : TX := fun Γ n R => c Γ n fun b n1 => if b = true then T Γ n1 R else U Γ n1 R
theorem XOk.bl {W : Addr → Prop} {H H' : Hp} (own : ∀ a, H a = none → Z.p ≠ some a) {r : Rv} {v : V} {b : Bool} (h : XOk C Z W H H' r v) (e : r.d = .bl b) : v = .bl b := by
  have := h.view own
  rw [e] at this
  exact this.bl
theorem rt_v {t : TE} {T : TX} (h : RE C Z t T) : RT C Z (tB t) (tlT T) := by
  intro G Γ σ H n Q R M h1 q
  refine h G Γ σ H n _ _ M h1 fun v H1 r n1 e1 p1 x1 h2 => ?_
  split at h2
  · next b e => exact ⟨b, x1.bl (fun a h => Z.papart M.pdom h) e, q b H1 n1 e1 p1 h2⟩
  · exact h2.elim
theorem rt_c {t : TE} {T : TX} (h : RE C Z t T) : RT C Z (tTest t) (tlT T) := by
  intro G Γ σ H n Q R M h1 q
  refine h G Γ σ H n _ _ M h1 fun v H1 r n1 e1 p1 x1 h2 => ?_
  split at h2
  · next b e => exact ⟨b, x1.bl (fun a h => Z.papart M.pdom h) e, q b H1 n1 e1 p1 h2⟩
  · exact h2.elim
theorem rt_and {t u : TT} {T U : TBx} (h1 : RT C Z t T) (h2 : RT C Z u U) : RT C Z (tAnd t u) (tlAndT T U) := by
  intro G Γ σ H n Q R M h q
  refine h1 G Γ σ H n _ _ M h fun b H1 n1 e1 p1 r1 => ?_
  cases b with
  | true => exact iteT (h2 G Γ σ H1 n1 _ _ (M.bt e1 p1) r1 fun b H2 n2 e2 p2 r2 => q b H2 n2 (e1.trans e2) p2 r2)
  | false => exact iteF (q _ _ _ e1 p1 r1)
theorem rt_or {t u : TT} {T U : TBx} (h1 : RT C Z t T) (h2 : RT C Z u U) : RT C Z (tOr t u) (tlOrT T U) := by
  intro G Γ σ H n Q R M h q
  refine h1 G Γ σ H n _ _ M h fun b H1 n1 e1 p1 r1 => ?_
  cases b with
  | false => exact iteF (h2 G Γ σ H1 n1 _ _ (M.bt e1 p1) r1 fun b H2 n2 e2 p2 r2 => q b H2 n2 (e1.trans e2) p2 r2)
  | true => exact iteT (q _ _ _ e1 p1 r1)
theorem rt_not {t : TT} {T : TBx} (h1 : RT C Z t T) : RT C Z (tNot t) (tlNotT T) := fun G Γ σ H n Q R M h q => h1 G Γ σ H n _ _ M h fun b H1 n1 e1 p1 r1 => q _ _ _ e1 p1 r1
theorem re_and {t u : TE} {T U : TX} (h1 : RE C Z t T) (h2 : RE C Z u U) : RE C Z (tAndV t u) (tlAnd T U) := by
  intro G Γ σ H n Q R M h q
  refine h1 G Γ σ H n _ _ M h fun v H1 r n1 e1 p1 x1 r1 => ?_
  have M1 := M.bt e1 p1
  split at r1
  · next b e =>
    refine ⟨b, x1.bl (fun a h => Z.papart M.pdom h) e, ?_⟩
    cases b with
    | true => exact iteT (h2 G Γ σ H1 n1 _ _ M1 r1 fun v H2 r n2 e2 p2 x2 r2 => q v H2 r n2 (e1.trans e2) p2 (x2.up e1 M1.pdom) r2)
    | false => exact iteF (q _ H1 (.val (.bl false)) n1 e1 p1 (rfl : V.bl false = V.bl false) r1)
  · exact r1.elim
theorem re_or {t u : TE} {T U : TX} (h1 : RE C Z t T) (h2 : RE C Z u U) : RE C Z (tOrV t u) (tlOr T U) := by
  intro G Γ σ H n Q R M h q
  refine h1 G Γ σ H n _ _ M h fun v H1 r n1 e1 p1 x1 r1 => ?_
  have M1 := M.bt e1 p1
  split at r1
  · next b e =>
    refine ⟨b, x1.bl (fun a h => Z.papart M.pdom h) e, ?_⟩
    cases b with
    | false => exact iteF (h2 G Γ σ H1 n1 _ _ M1 r1 fun v H2 r n2 e2 p2 x2 r2 => q v H2 r n2 (e1.trans e2) p2 (x2.up e1 M1.pdom) r2)
    | true => exact iteT (q _ H1 (.val (.bl true)) n1 e1 p1 (rfl : V.bl true = V.bl true) r1)
  · exact r1.elim
theorem re_not {t : TE} {T : TX} (h1 : RE C Z t T) : RE C Z (tNotV t) (tlNot T) := by
  intro G Γ σ H n Q R M h q
  refine h1 G Γ σ H n _ _ M h fun v H1 r n1 e1 p1 x1 r1 => ?_
  split at r1
  · next b e => exact ⟨b, x1.bl (fun a h => Z.papart M.pdom h) e, q _ H1 (.val (.bl !b)) n1 e1 p1 (rfl : V.bl (!b) = V.bl !b) r1⟩
  · exact r1.elim
theorem re_ifx {c : TT} {t u : TE} {Tc : TBx} {T U : TX} (hc : RT C Z c Tc) (h1 : RE C Z t T) (h2 : RE C Z u U) : RE C Z (tIf c t u) (tlIfx Tc T U) := by
  intro G Γ σ H n Q R M h q
  refine hc G Γ σ H n _ _ M h fun b H1 n1 e1 p1 r1 => ?_
  have M1 := M.bt e1 p1
  cases b with
  | true => exact iteT (h1 G Γ σ H1 n1 _ _ M1 r1 fun v H2 r n2 e2 p2 x2 r2 => q v H2 r n2 (e1.trans e2) p2 (x2.up e1 M1.pdom) r2)
  | false => exact iteF (h2 G Γ σ H1 n1 _ _ M1 r1 fun v H2 r n2 e2 p2 x2 r2 => q v H2 r n2 (e1.trans e2) p2 (x2.up e1 M1.pdom) r2)
/-! ### slices -/
def tlPart : Option TX → Gm → Nat → (Option Int → Nat → Prop) → Prop
  | none => fun _ n R => R none n
  | some T => fun Γ n R => T Γ n fun r n1 => match r.d with
    | .int i => R (some i) n1
    | _ => False
def RO (C : Addr) (Z : Zx) (t : TO) (T : Option TX) : Prop := ∀ (G : List (V × Rv)) (Γ : Gm) (σ : L2.St) (H : Hp) (n : Nat) (Q : Option Int → Hp → Prop) (R : Option Int → Nat → Prop), Mt C Z G Γ σ H n → tlPart T Γ n R →
  (∀ b H' n', Bt Z.p H H' → PAt Z.p H' n' → R b n' → Q b H') → t σ H Q
theorem ro_none : RO C Z tNoPart none := fun G Γ σ H n Q R M h q => q _ H n .refl M.pa h
theorem ro_some {t : TE} {T : TX} (h : RE C Z t T) : RO C Z (tPart t) (some T) := by
  intro G Γ σ H n Q R M h1 q
  refine h G Γ σ H n _ _ M h1 fun v H1 r n1 e1 p1 x1 r1 => ?_
  split at r1
  · next i e =>
    have := x1.view (fun a h => Z.papart M.pdom h)
    rw [e] at this
    exact ⟨i, this.int, q _ H1 n1 e1 p1 r1⟩
  · exact r1.elim
/-- a part of a list -/
def cutL {α : Type} (xs : List α) (lo hi : Option Int) : List α := (xs.drop (HT.sIx xs.length 0 lo)).take (HT.sIx xs.length xs.length hi - HT.sIx xs.length 0 lo)
def dSl : D → Option Int → Option Int → (Rv → Prop) → Prop
  | .lst ds, lo, hi, R => R (.new (.lst (cutL ds lo hi)))
  | .tup ds, lo, hi, R => (HT.sIx ds.length 0 lo = 0 ∧ HT.sIx ds.length ds.length hi = ds.length → R (.val (.tup ds))) ∧ (¬ (HT.sIx ds.length 0 lo = 0 ∧ HT.sIx ds.length ds.length hi = ds.length) → R (.new (.tup (cutL ds lo hi))))
  | .str z, lo, hi, R => z.length ≤ 1000000 ∧ R (.val (.str (cutS z lo hi)))
  | _, _, _, _ => False
/-- no tuple that the caller only lent is cut -/
def cutOk : Rv → Bool
  | .bor (.tup _) => false
  | .tmp (.tup _) => false
  | _ => true
def tlSl (T : TX) (lo hi : Option TX) : TX := fun Γ n R => T Γ n fun r n1 => tlPart lo Γ n1 fun l n2 => tlPart hi Γ n2 fun u n3 => cutOk r = true ∧ dSl r.d l u fun r => R r n3
theorem RepL.cut {p : Option Addr} {W : Addr → Prop} {H : Hp} {ds : List D} {vs : List V} (r : RepL p C W H ds vs) (lo hi : Option Int) : RepL p C W H (cutL ds lo hi) (cutV vs lo hi) := by
  unfold cutL cutV
  rw [r.len]
  exact (r.drop _).take _
theorem re_sl {t : TE} {T : TX} {tl th : TO} {lo hi : Option TX} (h : RE C Z t T) (h1 : RO C Z tl lo) (h2 : RO C Z th hi) : RE C Z (tSl (rSlAll K) t tl th) (tlSl T lo hi) := by
  intro G Γ σ H n Q R M h0 q
  refine h G Γ σ H n _ _ M h0 fun v H1 r n1 e1 p1 x1 r1 => ?_
  have M1 := M.bt e1 p1
  refine h1 G Γ σ H1 n1 _ _ M1 r1 fun l H2 n2 e2 p2 r2 => ?_
  have M2 := M1.bt e2 p2
  refine h2 G Γ σ H2 n2 _ _ M2 r2 fun u H3 n3 e3 p3 r3 => ?_
  have M3 := M2.bt e3 p3
  have e23 := e2.trans e3
  have x3 := x1.bt (fun a z => Ws.pw z) M.pdom e23
  have vw := x3.view fun a h => Z.papart M.pdom h
  obtain ⟨ok, r3⟩ := r3
  cases e : r.d with
  | lst ds =>
    rw [e] at vw r3
    obtain ⟨a, vs, rfl, ha, rr⟩ := vw.lst
    exact .inl ⟨a, vs, rfl, SqL.of ha, fun b nb => q _ _ (.new (.lst (cutL ds l u))) n3 ((e1.trans e23).trans (.same (same_upd nb))) (p3.same (same_upd nb)) ⟨b, rfl, (e1.trans e23).free M3.pdom nb, _, upd_same, (rr.cut l u).mono (fresh_rep (p := Z.p) (C := C) nb)⟩ r3⟩
  | tup ds =>
    rw [e] at vw r3
    obtain ⟨a, vs, rfl, ha, rr⟩ := vw.tup
    refine .inr (.inl ⟨a, vs, rfl, SqT.of ha, fun z => ?_, fun z b nb => ?_⟩)
    · rw [rr.len] at z
      have st : sto r = true := by
        cases r with
        | val _ => rfl
        | new _ => rfl
        | bor d => rw [show d = .tup ds from e] at ok; cases ok
        | tmp d => rw [show d = .tup ds from e] at ok; cases ok
      have rep := x3.rep (fun b w => M.wdom w) st
      rw [e] at rep
      exact q _ H3 (.val (.tup ds)) n3 (e1.trans e23) p3 rep (r3.1 z)
    · rw [rr.len] at z
      exact q _ _ (.new (.tup (cutL ds l u))) n3 ((e1.trans e23).trans (.same (same_upd nb))) (p3.same (same_upd nb)) ⟨b, rfl, (e1.trans e23).free M3.pdom nb, _, upd_same, (rr.cut l u).mono (fresh_rep (p := Z.p) (C := C) nb)⟩ (r3.2 z)
  | str z =>
    rw [e] at vw r3
    exact .inr (.inr ⟨z, vw.str, line_of r3.1, q _ H3 (.val (.str _)) n3 (e1.trans e23) p3 (rfl : V.str (cutS z l u) = V.str (cutS z l u)) r3.2⟩)
  | _ => rw [e] at r3; exact False.elim r3
/-! ### built-in functions -/
def tlB (f : List D → (Rv → Prop) → Prop) (T : TXs) : TX := fun Γ n R => T Γ n fun rs n1 => f (rs.map Rv.d) fun r => R r n1
theorem re_cb {r : List V → Hp → VK → Prop} {ta : TA} {T : TXs} {f : List D → (Rv → Prop) → Prop} (ho : RnT C Z r f) (ha : RA C Z ta T) : RE C Z (tCB r ta) (tlB f T) := by
  intro G Γ σ H n Q R M h q
  refine ha G Γ σ H n _ _ M h fun vs H1 rs n1 e1 p1 x1 h1 => ?_
  have M1 := M.bt e1 p1
  refine ho _ H1 vs _ _ _ (fun a z => Ws.pw z) (fun a w => M1.wdom w) (x1.views fun a h => Z.papart M.pdom h) h1 fun w H3 r3 s3 x3 h3 => ?_
  exact q w H3 r3 n1 (e1.trans (.same s3)) (p1.same s3) (x3.up e1 M1.pdom) h3
def orL (r r' : List V → Hp → VK → Prop) : List V → Hp → VK → Prop := fun xs H Q => r xs H Q ∨ r' xs H Q
theorem Views.one {p : Option Addr} {W : Addr → Prop} {H : Hp} {d : D} {vs : List V} (h : Views p C W H [d] vs) : ∃ v, vs = [v] ∧ View p C W H d v := by
  obtain ⟨v, vr, e, hv, e2⟩ := h
  exact ⟨v, by rw [e, show vr = [] from e2], hv⟩
theorem Views.two {p : Option Addr} {W : Addr → Prop} {H : Hp} {d e : D} {vs : List V} (h : Views p C W H [d, e] vs) : ∃ v u, vs = [v, u] ∧ View p C W H d v ∧ View p C W H e u := by
  obtain ⟨v, vr, e1, hv, u, ur, e2, hu, e3⟩ := h
  exact ⟨v, u, by rw [e1, e2, show ur = [] from e3], hv, hu⟩
def rLenA (K : PySem.W.Frag) : List V → Hp → VK → Prop := orL (fun xs H Q => ∃ p ys, xs = [.ref p] ∧ (SqL K H p ys ∨ SqT K H p ys) ∧ Q (.int ys.length) H)
  (orL (fun xs H Q => ∃ z, xs = [.str z] ∧ z.length ≤ sizeLine ∧ Q (.int z.length) H) fun xs H Q => ∃ a kvs, xs = [V.ref a] ∧ H a = some (.dK kvs) ∧ Q (.int kvs.length) H)
theorem call_lenA {X : Cx} : CallR X (.builtin "len") (rLenA X.K) := CallR.or call_len_seq (CallR.or call_len_str call_lenD)
def dLen : List D → (Rv → Prop) → Prop
  | [.lst ds], R => R (.val (.int ds.length))
  | [.tup ds], R => R (.val (.int ds.length))
  | [.str z], R => z.length ≤ 1000000 ∧ R (.val (.int z.length))
  | [.dk ks _], R => R (.val (.int ks.length))
  | _, _ => False
theorem rn_len : RnT C Z (rLenA K) dLen := by
  intro W H xs ds R Q hp dm hx h q
  unfold dLen at h
  split at h
  · obtain ⟨v, rfl, hv⟩ := hx.one
    obtain ⟨a, vs, rfl, ha, r⟩ := hv.lst
    exact .inl ⟨a, vs, rfl, .inl (SqL.of ha), by rw [r.len]; exact same_int h q⟩
  · obtain ⟨v, rfl, hv⟩ := hx.one
    obtain ⟨a, vs, rfl, ha, r⟩ := hv.tup
    exact .inl ⟨a, vs, rfl, .inr (SqT.of ha), by rw [r.len]; exact same_int h q⟩
  · obtain ⟨v, rfl, hv⟩ := hx.one
    exact .inr (.inl ⟨_, by rw [hv.str], line_of h.1, same_int h.2 q⟩)
  · next ks ds0 =>
    obtain ⟨v, rfl, hv⟩ := hx.one
    obtain ⟨a, vs, rfl, ha, l, r⟩ := hv.dk
    exact .inr (.inr ⟨a, _, rfl, ha, by rw [List.length_zip, r.len, l, Nat.min_self, ← l]; exact same_int h q⟩)
  · exact h.elim
/-- the signs of a text, one by one -/
def signs (z : Str) : List Str := z.cps.toList.map fun c => (⟨#[c]⟩ : Str)
theorem call_listT {X : Cx} (calm : X.calm = true) : CallR X (.type "list") (fun xs H Q => ∃ z : Str, xs = [.str z] ∧ z.length ≤ sizeLine ∧ ∀ q, H q = none → Q (.ref q) (upd H q (.lst ((signs z).map V.str)))) := by
  rintro pins s σ H xs us Q I r ⟨z, rfl, few, q⟩
  obtain ⟨u, rfl, t, rfl⟩ := (vals1 r)
  refine call_list_str (hn := few) (I.ok.hd calm) z t fun h' tk acc c' keep at_ items => ?_
  have many : ((signs z).map V.str).length = z.cps.size := by simp [signs]
  refine ⟨.ref s.heap.objs.size, _, I.laid keep (Nat.le_refl _) (?_ : ObjOk X.prog X.w _ _ _ (.lst ((signs z).map V.str))), rfl, q _ (I.hok.fresh (Nat.le_refl _))⟩
  refine ⟨by rw [many]; exact few, acc.toList, c', vals_of_at (by rw [many, Array.length_toList, items.1]) fun j x w hx hw => ?_, at_⟩
  have told := items.2 j w (by rw [← Array.getElem?_toList]; exact hw)
  obtain ⟨c, u, hc, rfl⟩ := told
  rw [List.getElem?_map, signs, List.getElem?_map, Array.getElem?_toList, hc] at hx
  obtain rfl := Option.some.inj hx
  exact ⟨u, rfl⟩
def rListA (K : PySem.W.Frag) : List V → Hp → VK → Prop := orL (fun xs H Q => ∃ p ys, xs = [.ref p] ∧ (SqL K H p ys ∨ SqT K H p ys) ∧ ∀ l, H l = none → Q (.ref l) (upd H l (.lst ys)))
  (orL (fun xs H Q => ∃ z : Str, xs = [.str z] ∧ z.length ≤ sizeLine ∧ ∀ q, H q = none → Q (.ref q) (upd H q (.lst ((signs z).map V.str)))) rListD)
theorem call_listA {X : Cx} (calm : X.calm = true) : CallR X (.type "list") (rListA X.K) := CallR.or call_list_of (CallR.or (call_listT calm) (call_list_dK calm))
def kD : Key → D
  | .inl i => .int i
  | .inr s => .str s
def dList : List D → (Rv → Prop) → Prop
  | [.lst ds], R => R (.new (.lst ds))
  | [.tup ds], R => R (.new (.lst ds))
  | [.str z], R => z.length ≤ 1000000 ∧ R (.new (.lst ((signs z).map .str)))
  | [.dk ks _], R => R (.new (.lst (ks.map kD)))
  | _, _ => False
theorem repL_keys {p : Option Addr} {W : Addr → Prop} {H : Hp} : ∀ (ks : List Key) (vs : List V), ks.length = vs.length → RepL p C W H (ks.map kD) ((ks.zip vs).map fun kv => kV kv.1)
  | [], _, _ => rfl
  | k :: ks, [], e => by cases e
  | k :: ks, v :: vs, e => ⟨kV k, _, rfl, by cases k <;> rfl, repL_keys ks vs (by simpa using e)⟩
theorem rn_list : RnT C Z (rListA K) dList := by
  intro W H xs ds R Q hp dm hx h q
  unfold dList at h
  split at h
  · obtain ⟨v, rfl, hv⟩ := hx.one
    obtain ⟨a, vs, rfl, ha, r⟩ := hv.lst
    exact .inl ⟨a, vs, rfl, .inl (SqL.of ha), new_lst r h q⟩
  · obtain ⟨v, rfl, hv⟩ := hx.one
    obtain ⟨a, vs, rfl, ha, r⟩ := hv.tup
    exact .inl ⟨a, vs, rfl, .inr (SqT.of ha), new_lst r h q⟩
  · obtain ⟨v, rfl, hv⟩ := hx.one
    exact .inr (.inl ⟨_, by rw [hv.str], line_of h.1, new_lst (repL_strs _) h.2 q⟩)
  · next ks ds0 =>
    obtain ⟨v, rfl, hv⟩ := hx.one
    obtain ⟨a, vs, rfl, ha, l, r⟩ := hv.dk
    exact .inr (.inr ⟨a, _, rfl, ha, new_lst (repL_keys ks vs (by rw [l, r.len])) h q⟩)
  · exact h.elim
def rTupA (K : PySem.W.Frag) : List V → Hp → VK → Prop := fun xs H Q => ∃ p ys, xs = [.ref p] ∧ ((SqL K H p ys ∧ ∀ l, H l = none → Q (.ref l) (upd H l (.tup ys))) ∨ (SqT K H p ys ∧ Q (.ref p) H))
theorem call_tupA {X : Cx} : CallR X (.type "tuple") (rTupA X.K) := call_tuple_of
def dTup : List D → (Rv → Prop) → Prop
  | [.lst ds], R => R (.new (.tup ds))
  | _, _ => False
theorem rn_tup : RnT C Z (rTupA K) dTup := by
  intro W H xs ds R Q hp dm hx h q
  unfold dTup at h
  split at h
  · obtain ⟨v, rfl, hv⟩ := hx.one
    obtain ⟨a, vs, rfl, ha, r⟩ := hv.lst
    exact ⟨a, vs, rfl, .inl ⟨SqL.of ha, new_tup r h q⟩⟩
  · exact h.elim
/-- texts as a list, as a tuple -/
@[reducible] def dS (xs : List Str) : D := .lst (xs.map .str)
@[reducible] def tS (xs : List Str) : D := .tup (xs.map .str)
@[reducible] def dI (xs : List Int) : D := .lst (xs.map .int)
def dSum : List D → (Rv → Prop) → Prop
  | [.lst ds], R => ∃ ns : List Int, ds = ns.map .int ∧ R (.val (.int ns.sum))
  | _, _ => False
theorem rn_sum : RnT C Z (rSum K) dSum := by
  intro W H xs ds R Q hp dm hx h q
  unfold dSum at h
  split at h
  · obtain ⟨ns, rfl, h⟩ := h
    obtain ⟨v, rfl, hv⟩ := hx.one
    obtain ⟨a, vs, rfl, ha, r⟩ := hv.lst
    rw [r.ints] at ha
    exact ⟨a, ns, rfl, SqL.of ha, same_int h q⟩
  · exact h.elim
def dAll : List D → (Rv → Prop) → Prop
  | [.lst ds], R => ∃ bs : List Bool, ds = bs.map .bl ∧ R (.val (.bl (bs.all id)))
  | _, _ => False
def dAny : List D → (Rv → Prop) → Prop
  | [.lst ds], R => ∃ bs : List Bool, ds = bs.map .bl ∧ R (.val (.bl (bs.any id)))
  | _, _ => False
theorem rn_all : RnT C Z (rAll K) dAll := by
  intro W H xs ds R Q hp dm hx h q
  unfold dAll at h
  split at h
  · obtain ⟨ns, rfl, h⟩ := h
    obtain ⟨v, rfl, hv⟩ := hx.one
    obtain ⟨a, vs, rfl, ha, r⟩ := hv.lst
    rw [r.bls] at ha
    exact ⟨a, ns, rfl, SqL.of ha, same_bl h q⟩
  · exact h.elim
theorem rn_any : RnT C Z (rAny K) dAny := by
  intro W H xs ds R Q hp dm hx h q
  unfold dAny at h
  split at h
  · obtain ⟨ns, rfl, h⟩ := h
    obtain ⟨v, rfl, hv⟩ := hx.one
    obtain ⟨a, vs, rfl, ha, r⟩ := hv.lst
    rw [r.bls] at ha
    exact ⟨a, ns, rfl, SqL.of ha, same_bl h q⟩
  · exact h.elim
def rMin2 : List V → Hp → VK → Prop := fun xs H Q => ∃ i j, xs = [.int i, .int j] ∧ Q (.int (if j < i then j else i)) H
def rMax2 : List V → Hp → VK → Prop := fun xs H Q => ∃ i j, xs = [.int i, .int j] ∧ Q (.int (if j > i then j else i)) H
def dMin2 : List D → (Rv → Prop) → Prop
  | [.int i, .int j], R => R (.val (.int (min i j)))
  | _, _ => False
def dMax2 : List D → (Rv → Prop) → Prop
  | [.int i, .int j], R => R (.val (.int (max i j)))
  | _, _ => False
theorem rn_min2 : RnT C Z rMin2 dMin2 := by
  intro W H xs ds R Q hp dm hx h q
  unfold dMin2 at h
  split at h
  · next i j =>
    obtain ⟨v, u, rfl, hv, hu⟩ := hx.two
    refine ⟨i, j, by rw [hv.int, hu.int], ?_⟩
    rw [show (if j < i then j else i) = min i j by split <;> omega]
    exact same_int h q
  · exact h.elim
theorem rn_max2 : RnT C Z rMax2 dMax2 := by
  intro W H xs ds R Q hp dm hx h q
  unfold dMax2 at h
  split at h
  · next i j =>
    obtain ⟨v, u, rfl, hv, hu⟩ := hx.two
    refine ⟨i, j, by rw [hv.int, hu.int], ?_⟩
    rw [show (if j > i then j else i) = max i j by split <;> omega]
    exact same_int h q
  · exact h.elim
/-- the least, the greatest of a list of numbers -/
def dMin1 : List D → (Rv → Prop) → Prop
  | [.lst ds], R => ∃ ns : List Int, ds = ns.map .int ∧ 0 < ns.length ∧ ∀ m, m ∈ ns → (∀ y, y ∈ ns → m ≤ y) → R (.val (.int m))
  | _, _ => False
def dMax1 : List D → (Rv → Prop) → Prop
  | [.lst ds], R => ∃ ns : List Int, ds = ns.map .int ∧ 0 < ns.length ∧ ∀ m, m ∈ ns → (∀ y, y ∈ ns → y ≤ m) → R (.val (.int m))
  | _, _ => False
theorem rn_min1 : RnT C Z (rMin K) dMin1 := by
  intro W H xs ds R Q hp dm hx h q
  unfold dMin1 at h
  split at h
  · obtain ⟨ns, rfl, l, h⟩ := h
    obtain ⟨v, rfl, hv⟩ := hx.one
    obtain ⟨a, vs, rfl, ha, r⟩ := hv.lst
    rw [r.ints] at ha
    exact ⟨a, ns, rfl, SqL.of ha, l, fun m hm hl => same_int (h m hm hl) q⟩
  · exact h.elim
theorem rn_max1 : RnT C Z (rMax K) dMax1 := by
  intro W H xs ds R Q hp dm hx h q
  unfold dMax1 at h
  split at h
  · obtain ⟨ns, rfl, l, h⟩ := h
    obtain ⟨v, rfl, hv⟩ := hx.one
    obtain ⟨a, vs, rfl, ha, r⟩ := hv.lst
    rw [r.ints] at ha
    exact ⟨a, ns, rfl, SqL.of ha, l, fun m hm hl => same_int (h m hm hl) q⟩
  · exact h.elim
def rMinA (K : PySem.W.Frag) := orL rMin2 (rMin K)
def rMaxA (K : PySem.W.Frag) := orL rMax2 (rMax K)
def dMin (ds : List D) (R : Rv → Prop) : Prop := dMin2 ds R ∨ dMin1 ds R
theorem call_minA {X : Cx} (hc : X.calm = true) : CallR X (.builtin "min") (rMinA X.K) := CallR.or (call_min2 hc) (cr_min hc)
theorem call_maxA {X : Cx} (hc : X.calm = true) : CallR X (.builtin "max") (rMaxA X.K) := CallR.or (call_max2 hc) (cr_max hc)
theorem rn_or1 {r r' : List V → Hp → VK → Prop} {f : List D → (Rv → Prop) → Prop} (h : RnT C Z r f) : RnT C Z (orL r r') f := fun W H xs ds R Q hp dm hx h0 q => .inl (h W H xs ds R Q hp dm hx h0 q)
theorem rn_or2 {r r' : List V → Hp → VK → Prop} {f : List D → (Rv → Prop) → Prop} (h : RnT C Z r' f) : RnT C Z (orL r r') f := fun W H xs ds R Q hp dm hx h0 q => .inr (h W H xs ds R Q hp dm hx h0 q)
/-- sorted: texts, tuples of texts -/
def rSortA (K : PySem.W.Frag) : List V → Hp → VK → Prop := orL (rSortedS K) (rSortedTS K)
theorem cr_sortA {X : Cx} : CallR X (.builtin "sorted") (rSortA X.K) := CallR.or cr_sortedS (cr_sortedTS rfl)
def dSorted : List D → (Rv → Prop) → Prop
  | [.lst ds], R => (∃ xs : List Str, ds = xs.map .str ∧ xs.length < 64 ∧ ∀ ys : List Str, ys.Perm xs → sortedS ys = true → R (.new (dS ys))) ∨
      ∃ xss : List (List Str), ds = xss.map tS ∧ (∀ x ∈ xss, x ≠ []) ∧ ∀ yss : List (List Str), yss.Perm xss → yss.Pairwise (fun x y => TSo.ltS y x = false) → R (.new (.lst (yss.map tS)))
  | _, _ => False
theorem RepL.refs {p : Option Addr} {W : Addr → Prop} {H : Hp} : ∀ {xss : List (List Str)} {vs : List V}, RepL p C W H (xss.map tS) vs → ∃ ts : List Addr, vs = ts.map V.ref ∧ xss = ts.map (tupS H) ∧ ∀ t ∈ ts, ¬ W t ∧ H t = some (.tup ((tupS H t).map V.str))
  | [], _, e => ⟨[], e, rfl, fun _ h => nomatch h⟩
  | x :: r, _, ⟨v, vr, e, ⟨a, ea, na, us, ha, ru⟩, q⟩ => by
    obtain ⟨ts, e1, e2, h⟩ := RepL.refs q
    rw [ru.strs] at ha
    have k := tupS_at ha
    refine ⟨a :: ts, by rw [e, ea, e1]; rfl, by rw [List.map_cons, k, ← e2], fun t ht => ?_⟩
    rcases List.mem_cons.1 ht with rfl | ht
    · rw [k]; exact ⟨na, ha⟩
    · exact h t ht
theorem repL_refs {p : Option Addr} {W : Addr → Prop} {H : Hp} : ∀ {ts : List Addr}, (∀ t ∈ ts, ¬ W t ∧ H t = some (.tup ((tupS H t).map V.str))) → RepL p C W H ((ts.map (tupS H)).map tS) (ts.map V.ref)
  | [], _ => rfl
  | t :: r, h => ⟨_, _, rfl, ⟨t, rfl, (h t List.mem_cons_self).1, _, (h t List.mem_cons_self).2, repL_strs _⟩, repL_refs fun u hu => h u (List.mem_cons_of_mem _ hu)⟩
theorem rn_sorted : RnT C Z (rSortA K) dSorted := by
  intro W H xs ds R Q hp dm hx h q
  unfold dSorted at h
  split at h
  · obtain ⟨v, rfl, hv⟩ := hx.one
    obtain ⟨a, vs, rfl, ha, r⟩ := hv.lst
    rcases h with ⟨xs, rfl, l, h⟩ | ⟨xss, rfl, ne, h⟩
    · rw [r.strs] at ha
      exact .inl ⟨a, xs, rfl, SqL.of ha, l, fun ys b pm so nb => new_lst (repL_strs ys) (h ys pm so) q b nb⟩
    · obtain ⟨ts, rfl, rfl, ht⟩ := r.refs
      refine .inr ⟨a, ts, rfl, SqL.of ha, fun t h1 => ⟨_, ne _ (List.mem_map_of_mem h1), (ht t h1).2⟩, fun ts' b pm so nb => ?_⟩
      exact new_lst (repL_refs fun t h1 => ht t (pm.mem_iff.1 h1)) (h _ (pm.map _) so) q b nb
  · exact h.elim
end
end TL

-- TL4
set_option Elab.async false
set_option linter.all false
set_option maxRecDepth 100000
set_option maxHeartbeats 4100000
/-! TL4: slots stored, walks, comprehensions -/
namespace TL
open L2 PyProof.Rows PySem PySem.Spec TS
/-! ### slots -/
section
variable {C : Addr} {Z : Zx} {G : List (V × Rv)} {Γ : Gm} {σ : L2.St} {H H' : Hp} {n m : Nat} {K : PySem.W.Frag}
theorem get_set {α : Type} {xs : List α} {i j : Nat} {x y : α} (h : (xs.set i x)[j]? = some y) : (i = j ∧ y = x) ∨ (i ≠ j ∧ xs[j]? = some y) := by
  rw [List.getElem?_set] at h
  split at h
  · next e =>
    split at h
    · exact .inl ⟨e, (Option.some.inj h).symm⟩
    · cases h
  · next e => exact .inr ⟨e, h⟩
theorem Ow.of_set {i j : Nat} {d : D} {v : V} {a : Addr} (h : Ow (Γ.set i (some (.val d))) (σ.set i (some v)) j a) : Ow Γ σ j a ∧ j ≠ i := by
  obtain ⟨⟨e, he⟩, hv⟩ := h
  rcases get_set he with ⟨_, z⟩ | ⟨ne, he⟩
  · cases z
  · rcases get_set hv with ⟨z, _⟩ | ⟨_, hv⟩
    · exact absurd z ne
    · exact ⟨⟨⟨e, he⟩, hv⟩, fun z => ne z.symm⟩
theorem SOk.sub {W W' : Addr → Prop} (hw : ∀ a, W' a → W a) : ∀ {r : Rv} {v : V}, SOk C Z W H r v → SOk C Z W' H r v
  | .val d, _, h => Rep.mono (fun c o nc e => ⟨fun z => nc (hw c z), e⟩) h
  | .new d, _, ⟨a, e1, h0, r⟩ => ⟨a, e1, h0, r.mono (fun c o nc e => ⟨fun z => nc (hw c z), e⟩) fun _ h => h⟩
  | .bor d, _, .inl h => .inl (Rep.mono (fun c o nc e => ⟨fun z => nc (hw c z), e⟩) h)
  | .bor d, _, .inr ⟨a, o, e1, na, h0, r⟩ => .inr ⟨a, o, e1, na, h0, r.mono (fun c o nc e => ⟨fun z => nc (hw c z), e⟩) fun _ h => h⟩
  | .tmp _, _, h => h
theorem Mt.set_val (M : Mt C Z G Γ σ H n) {i : Nat} {d : D} {v : V} (r : Rep Z.p C (Ws Z Γ σ) H d v) : Mt C Z G (Γ.set i (some (.val d))) (σ.set i (some v)) H n := by
  have hw : ∀ a, Ws Z (Γ.set i (some (.val d))) (σ.set i (some v)) a → Ws Z Γ σ a := fun a h => h.elim .inl fun ⟨j, h⟩ => .inr ⟨j, h.of_set.1⟩
  refine ⟨by rw [List.length_set, List.length_set, M.len], M.fr, M.pa, fun j s hj => ?_, fun g hg => ⟨(M.gs g hg).1.sub hw, (M.gs g hg).2⟩, fun j k a h1 h2 => M.inj j k a h1.of_set.1 h2.of_set.1⟩
  rcases get_set hj with ⟨rfl, e⟩ | ⟨ne, hj⟩
  · cases e
    have lt : i < σ.length := by rw [M.len]; have := (List.getElem?_eq_some_iff.1 hj).1; rwa [List.length_set] at this
    exact ⟨v, List.getElem?_set_self lt, Rep.mono (fun c o nc e => ⟨fun z => nc (hw c z), e⟩) r⟩
  · obtain ⟨u, hu, su⟩ := M.sl j s hj
    exact ⟨u, by rw [List.getElem?_set_ne ne]; exact hu, su.sub hw⟩
theorem Ow.of_setN {i j : Nat} {d : D} {b a : Addr} (h : Ow (Γ.set i (some (.new d))) (σ.set i (some (.ref b))) j a) : (j = i ∧ a = b) ∨ (Ow Γ σ j a ∧ j ≠ i) := by
  obtain ⟨⟨e, he⟩, hv⟩ := h
  rcases get_set hv with ⟨z, hv⟩ | ⟨ne, hv⟩
  · cases hv
    exact .inl ⟨z.symm, rfl⟩
  · rcases get_set he with ⟨z, _⟩ | ⟨_, he⟩
    · exact absurd z ne
    · exact .inr ⟨⟨⟨e, he⟩, hv⟩, fun z => ne z.symm⟩
/-- what is known at H does not know what is new -/
theorem SOk.fresh {W W' : Addr → Prop} {b : Addr} (nb : H b = none) (hw : ∀ a, W' a → W a ∨ a = b) : ∀ {r : Rv} {v : V}, SOk C Z W H r v → SOk C Z W' H r v := by
  have key : ∀ c o, ¬ W c → H c = some o → ¬ W' c ∧ H c = some o := fun c o nc e => ⟨fun z => (hw c z).elim nc (fun q => by rw [q, nb] at e; cases e), e⟩
  intro r v
  match r with
  | .val d => exact fun h => Rep.mono key h
  | .new d => exact fun ⟨a, e1, h0, r⟩ => ⟨a, e1, h0, r.mono key fun _ h => h⟩
  | .bor d =>
    rintro (h | ⟨a, o, e1, na, h0, r⟩)
    · exact .inl (Rep.mono key h)
    · exact .inr ⟨a, o, e1, na, h0, r.mono key fun _ h => h⟩
  | .tmp _ => exact fun h => h
theorem Mt.set_new (M : Mt C Z G Γ σ H n) {i : Nat} {d : D} {b : Addr} (e : Bt Z.p H H') (pa : PAt Z.p H' m) (nb : H b = none) (r : RepO Z.p C (fun c => Ws Z Γ σ c ∨ c = b) H' b d) : Mt C Z G (Γ.set i (some (.new d))) (σ.set i (some (.ref b))) H' m := by
  have hw : ∀ a, Ws Z (Γ.set i (some (.new d))) (σ.set i (some (.ref b))) a → Ws Z Γ σ a ∨ a = b := fun a h => h.elim (fun z => .inl (.inl z)) fun ⟨j, h⟩ => h.of_setN.elim (fun z => .inr z.2) fun z => .inl (.inr ⟨j, z.1⟩)
  have h0 : Z.H0 b = none := M.fr.free M.pdom nb
  have old : ∀ {r : Rv} {v : V}, SOk C Z (Ws Z Γ σ) H r v → SOk C Z (Ws Z (Γ.set i (some (.new d))) (σ.set i (some (.ref b)))) H' r v := fun {r v} h =>
    (h.fresh nb hw).bt (fun _ => Ws.pw) (fun _ => Z.apart) e
  refine ⟨by rw [List.length_set, List.length_set, M.len], M.fr.trans e, pa, fun j s hj => ?_, fun g hg => ⟨old (M.gs g hg).1, (M.gs g hg).2⟩, fun j k a h1 h2 => ?_⟩
  · rcases get_set hj with ⟨rfl, z⟩ | ⟨ne, hj⟩
    · cases z
      have lt : i < σ.length := by rw [M.len]; have := (List.getElem?_eq_some_iff.1 hj).1; rwa [List.length_set] at this
      exact ⟨_, List.getElem?_set_self lt, b, rfl, h0, r.mono (fun c o nc e => ⟨fun z => nc ((hw c z).imp id id), e⟩) fun _ h => h⟩
    · obtain ⟨u, hu, su⟩ := M.sl j s hj
      exact ⟨u, by rw [List.getElem?_set_ne ne]; exact hu, old su⟩
  · have nOw : ∀ {j : Nat}, Ow Γ σ j b → False := fun h => by
      obtain ⟨o, ho⟩ := (M.own h).1
      rw [nb] at ho
      cases ho
    rcases h1.of_setN with ⟨e1, z1⟩ | ⟨o1, n1⟩
    · rcases h2.of_setN with ⟨e2, z2⟩ | ⟨o2, n2⟩
      · rw [e1, e2]
      · exact (nOw (z1 ▸ o2)).elim
    · rcases h2.of_setN with ⟨e2, z2⟩ | ⟨o2, n2⟩
      · exact (nOw (z2 ▸ o1)).elim
      · exact M.inj j k a o1 o2
/-- an own object is changed -/
theorem Mt.mut (M : Mt C Z G Γ σ H n) {i : Nat} {d d' : D} {b : Addr} {o : HO} (hi : Γ[i]? = some (some (.new d))) (hb : σ[i]? = some (some (.ref b))) (r : RepO Z.p C (Ws Z Γ σ) (upd H b o) b d') : Mt C Z G (Γ.set i (some (.new d'))) σ (upd H b o) n := by
  have ob : Ow Γ σ i b := ⟨⟨d, hi⟩, hb⟩
  obtain ⟨_, b0, np⟩ := M.own ob
  have ow : ∀ {j : Nat} {a : Addr}, Ow (Γ.set i (some (.new d'))) σ j a → Ow Γ σ j a := fun {j a} ⟨⟨e, he⟩, hv⟩ => by
    rcases get_set he with ⟨rfl, _⟩ | ⟨_, he⟩
    · exact ⟨⟨d, hi⟩, hv⟩
    · exact ⟨⟨e, he⟩, hv⟩
  have hw : ∀ a, Ws Z (Γ.set i (some (.new d'))) σ a → Ws Z Γ σ a := fun a h => h.elim .inl fun ⟨j, h⟩ => .inr ⟨j, ow h⟩
  have keep : ∀ c u, ¬ Ws Z Γ σ c → H c = some u → ¬ Ws Z (Γ.set i (some (.new d'))) σ c ∧ upd H b o c = some u := fun c u nc e => ⟨fun z => nc (hw c z), by rw [upd_ne fun z => nc (by rw [z]; exact .inr ⟨i, ob⟩)]; exact e⟩
  have old : ∀ {r : Rv} {v : V}, (∀ e, r = .new e → v ≠ .ref b) → SOk C Z (Ws Z Γ σ) H r v → SOk C Z (Ws Z (Γ.set i (some (.new d'))) σ) (upd H b o) r v := by
    intro r v nr h
    match r, h with
    | .val e, h => exact Rep.mono keep h
    | .new e, ⟨a, e1, h0, r⟩ => exact ⟨a, e1, h0, r.mono keep fun u q => by rw [upd_ne fun z => nr e rfl (by rw [e1, z])]; exact q⟩
    | .bor e, .inl h => exact .inl (Rep.mono keep h)
    | .bor e, .inr ⟨a, u, e1, na, h0, r⟩ => exact .inr ⟨a, u, e1, na, h0, r.mono keep fun w q => by rw [upd_ne fun z => by rw [z, b0] at h0; cases h0]; exact q⟩
  refine ⟨by rw [List.length_set]; exact M.len, fun c u ncp h => ?_, ?_, fun j s hj => ?_, fun g hg => ⟨old (fun e z => absurd z ((M.gs g hg).2 e)) (M.gs g hg).1, (M.gs g hg).2⟩, fun j k a h1 h2 => M.inj j k a (ow h1) (ow h2)⟩
  · rw [upd_ne fun z => by rw [z, b0] at h; cases h]
    exact M.fr c u ncp h
  · cases hp : Z.p with
    | none => trivial
    | some a =>
      have := M.pa
      rw [hp] at this np
      obtain ⟨k, ⟨p0, p1, p2, p3, h1, h2⟩, h3⟩ := this
      exact ⟨k, ⟨p0, p1, p2, p3, by rw [upd_ne fun z => np (by rw [z])]; exact h1, h2⟩, h3⟩
  · rcases get_set hj with ⟨rfl, z⟩ | ⟨ne, hj⟩
    · cases z
      exact ⟨_, hb, b, rfl, b0, r.mono (fun c u nc e => ⟨fun z => nc (hw c z), e⟩) fun _ h => h⟩
    · obtain ⟨u, hu, su⟩ := M.sl j s hj
      refine ⟨u, hu, old (fun e z q => ?_) su⟩
      subst z q
      exact ne (M.inj i j b ob ⟨⟨e, hj⟩, hu⟩)
/-- an own object becomes one that all may know -/
theorem Mt.release (M : Mt C Z G Γ σ H n) {i : Nat} {d : D} (hi : Γ[i]? = some (some (.new d))) : Mt C Z G (Γ.set i (some (.val d))) σ H n := by
  obtain ⟨v, hv, b, rfl, b0, r⟩ := M.sl i _ hi
  have e : σ.set i (some (.ref b)) = σ := by
    apply List.ext_getElem?
    intro j
    rw [List.getElem?_set]
    split
    · next e =>
      subst e
      rw [hv, if_pos (List.getElem?_eq_some_iff.1 hv).1]
    · rfl
  have ob : Ow Γ σ i b := ⟨⟨d, hi⟩, hv⟩
  have hw : ∀ a, Ws Z (Γ.set i (some (.val d))) σ a → Ws Z Γ σ a := fun a h => h.elim .inl fun ⟨j, h⟩ => .inr ⟨j, (Ow.of_set (d := d) (v := .ref b) (i := i) (by rw [e]; exact h)).1⟩
  have nb : ¬ Ws Z (Γ.set i (some (.val d))) σ b := fun h => h.elim (fun z => by
      obtain ⟨o, ho⟩ := Z.dom b z
      rw [b0] at ho
      cases ho) fun ⟨j, h⟩ => by
    have := Ow.of_set (d := d) (v := .ref b) (i := i) (σ := σ) (by rw [e]; exact h)
    exact this.2 (M.inj j i b this.1 ob)
  refine ⟨by rw [List.length_set]; exact M.len, M.fr, M.pa, fun j s hj => ?_, fun g hg => ⟨(M.gs g hg).1.sub hw, (M.gs g hg).2⟩, fun j k a h1 h2 => ?_⟩
  · rcases get_set hj with ⟨rfl, z⟩ | ⟨ne, hj⟩
    · cases z
      exact ⟨_, hv, (r.mono (W' := Ws Z (Γ.set i (some (.val d))) σ) (fun c u nc e => ⟨fun z => nc (hw c z), e⟩) fun _ h => h).rep nb⟩
    · obtain ⟨u, hu, su⟩ := M.sl j s hj
      exact ⟨u, hu, su.sub hw⟩
  · exact M.inj j k a (Ow.of_set (d := d) (v := .ref b) (i := i) (by rw [e]; exact h1)).1 (Ow.of_set (d := d) (v := .ref b) (i := i) (by rw [e]; exact h2)).1
/-! ### targets -/
inductive Pat where
  | nm (i : Nat) | tp (is : List Nat)
def setAll : List Nat → List D → Gm → Gm
  | i :: is, d :: ds, Γ => setAll is ds (Γ.set i (some (.val d)))
  | _, _, Γ => Γ
def bindP : Pat → D → Gm → Option Gm
  | .nm i, d, Γ => some (Γ.set i (some (.val d)))
  | .tp is, .tup ds, Γ => if ds.length = is.length then some (setAll is ds Γ) else none
  | .tp is, .lst ds, Γ => if ds.length = is.length then some (setAll is ds Γ) else none
  | _, _, _ => none
def Pat.slots : Pat → List Nat
  | .nm i => [i]
  | .tp is => is
def RG (C : Addr) (g : TG) (pt : Pat) : Prop := ∀ (Z : Zx) (G : List (V × Rv)) (Γ : Gm) (σ : L2.St) (H : Hp) (n : Nat) (d : D) (v : V) (Γ' : Gm) (Q : L2.St → Hp → Prop), Mt C Z G Γ σ H n → Rep Z.p C (Ws Z Γ σ) H d v → bindP pt d Γ = some Γ' →
  (∀ σ', Mt C Z G Γ' σ' H n → (∀ vs : List Nat, (∀ i ∈ pt.slots, i ∈ vs) → wipe σ' vs = wipe σ vs) → Q σ' H) → g v σ H Q
theorem wipe_set {i : Nat} {x : Option V} : ∀ {vs : List Nat} {σ : L2.St}, i ∈ vs → wipe (σ.set i x) vs = wipe σ vs := by
  have key : ∀ (vs : List Nat) (σ : L2.St), i ∉ vs → wipe (σ.set i x) vs = (wipe σ vs).set i x := by
    intro vs
    induction vs with
    | nil => intro σ _; rfl
    | cons v r ih =>
      intro σ h
      show (wipe (σ.set i x) r).set v none = ((wipe σ r).set v none).set i x
      rw [ih σ fun z => h (List.mem_cons_of_mem _ z)]
      exact List.set_comm _ _ fun z => h (by rw [z]; exact List.mem_cons_self)
  intro vs
  induction vs with
  | nil => intro σ h; cases h
  | cons v r ih =>
    intro σ h
    show (wipe (σ.set i x) r).set v none = (wipe σ r).set v none
    by_cases hr : i ∈ r
    · rw [ih hr]
    · have : i = v := (List.mem_cons.1 h).resolve_right hr
      subst this
      rw [key r σ hr, List.set_set]
theorem rg_nm {i : Nat} : RG C (gName i) (.nm i) := by
  intro Z G Γ σ H n d v Γ' Q M r e q
  obtain rfl := Option.some.inj e
  exact q _ (M.set_val r) fun vs h => wipe_set (h i (by simp [Pat.slots]))
/-- names, one after the other -/
def gNms : List Nat → TGs
  | [] => gNil
  | i :: r => gCons (gName i) (gNms r)
theorem rgs_nms {is : List Nat} : ∀ (ds : List D) (vs : List V) (Z : Zx) (G : List (V × Rv)) (Γ : Gm) (σ : L2.St) (H : Hp) (n : Nat) (Q : L2.St → Hp → Prop), Mt C Z G Γ σ H n → RepL Z.p C (Ws Z Γ σ) H ds vs → ds.length = is.length →
    (∀ σ', Mt C Z G (setAll is ds Γ) σ' H n → (∀ ws : List Nat, (∀ i ∈ is, i ∈ ws) → wipe σ' ws = wipe σ ws) → Q σ' H) → gNms is vs σ H Q := by
  induction is with
  | nil =>
    intro ds vs Z G Γ σ H n Q M r l q
    cases ds with
    | nil => exact ⟨r, q σ M fun _ _ => rfl⟩
    | cons d ds => cases l
  | cons i is ih =>
    intro ds vs Z G Γ σ H n Q M r l q
    cases ds with
    | nil => cases l
    | cons d ds =>
      obtain ⟨v, vr, e, rv, rr⟩ := r
      refine ⟨v, vr, e, ?_⟩
      have M2 := M.set_val (i := i) rv
      have hw : ∀ a, Ws Z (Γ.set i (some (.val d))) (σ.set i (some v)) a → Ws Z Γ σ a := fun a h => h.elim .inl fun ⟨j, h⟩ => .inr ⟨j, h.of_set.1⟩
      refine ih ds vr Z G _ _ H n Q M2 (rr.mono fun c o nc e => ⟨fun z => nc (hw c z), e⟩) (by simpa using l) fun σ' M3 w => q σ' M3 fun ws hs => ?_
      rw [w ws fun j hj => hs j (List.mem_cons_of_mem _ hj)]
      exact wipe_set (hs i List.mem_cons_self)
/-- a tuple or a list is parted -/
def gUn (K : PySem.W.Frag) (m : Nat) (t : TGs) : TG := fun v σ H Q => gTup K m t v σ H Q ∨ gUnl K m t v σ H Q
theorem pg_un {X : Cx} {es : List Expr} {k m : Nat} {pos : Pos} {t : TGs} (calm : X.calm = true) (h : PGs X es t) (hn : (assignEach es X.env).length = m := by rfl) (hst : (assignEach es X.env).findIdx? (·.1) = none := by rfl) : PG X (.Tuple es k pos) (gUn X.K m t) where
  run := fun pins s σ H v u Q I r h1 => h1.elim (fun z => (pg_tup calm h hn hst).run pins s σ H v u Q I r z) fun z => (pg_unl calm h hn hst).run pins s σ H v u Q I r z
theorem rg_un {is : List Nat} {m : Nat} (hm : m = is.length) : RG C (gUn K m (gNms is)) (.tp is) := by
  subst hm
  intro Z G Γ σ H n d v Γ' Q M r e q
  have key : ∀ ds : List D, (if ds.length = is.length then some (setAll is ds Γ) else none) = some Γ' → ds.length = is.length ∧ Γ' = setAll is ds Γ := fun ds e => by
    split at e
    · next l => exact ⟨l, (Option.some.inj e).symm⟩
    · cases e
  cases d with
  | tup ds =>
    obtain ⟨l, rfl⟩ := key ds e
    obtain ⟨a, ea, na, vs, ha, rv⟩ := r
    exact .inl ⟨a, vs, ea, SqT.of ha, by rw [rv.len, l], rgs_nms ds vs Z G Γ σ H n Q M rv l q⟩
  | lst ds =>
    obtain ⟨l, rfl⟩ := key ds e
    obtain ⟨a, ea, na, vs, ha, rv⟩ := r
    exact .inr ⟨a, vs, ea, SqL.of ha, by rw [rv.len, l], rgs_nms ds vs Z G Γ σ H n Q M rv l q⟩
  | _ => cases e
/-! ### walks -/
def GOk (C : Addr) (Z : Zx) (W : Addr → Prop) (H : Hp) : Rv → V → Prop
  | .tmp d, v => ∃ a, v = .ref a ∧ Z.p ≠ some a ∧ Z.H0 a = none ∧ RepO Z.p C W H a d
  | .new _, _ => False
  | r, v => SOk C Z W H r v
theorem GOk.view {W : Addr → Prop} : ∀ {r : Rv} {v : V}, GOk C Z W H r v → View Z.p C W H r.d v
  | .val d, _, h => .inl h
  | .bor d, _, .inl h => .inl h
  | .bor d, _, .inr ⟨a, o, e, na, _, r⟩ => .inr ⟨a, e, na, r⟩
  | .tmp d, _, ⟨a, e, na, _, r⟩ => .inr ⟨a, e, na, r⟩
/-- J walks the trees ds as long as gs stand -/
def WOk (C : Addr) (Z : Zx) (J : It) (ds : List D) (gs : List (V × Rv)) : Prop := ∃ (Gd : Hp → Prop) (Y : Nat → Hp → V → Hp → Prop), Walk J ds.length Gd Y ∧
  (∀ (W : Addr → Prop) (H : Hp), (∀ g ∈ gs, View Z.p C W H g.2.d g.1) → Gd H) ∧
  ∀ (W : Addr → Prop) (i : Nat) (H : Hp) (x : V) (H' : Hp), (∀ a, W a → ∃ o, H a = some o) → (∀ g ∈ gs, View Z.p C W H g.2.d g.1) → i < ds.length → Y i H x H' → Same H H' ∧ ∃ d, ds[i]? = some d ∧ Rep Z.p C W H' d x
abbrev TIx := Gm → Nat → (Nat → List D → Nat → Prop) → Prop
/-- 2: nothing changes it; 1: it is lent; 0: an own one, which may change -/
def rank : Rv → Nat
  | .val _ => 2
  | .new _ => 2
  | .bor _ => 1
  | .tmp _ => 0
def asG : Rv → Rv
  | .new d => .val d
  | r => r
@[simp] theorem asG_d (r : Rv) : (asG r).d = r.d := by cases r <;> rfl
theorem XOk.asG {W : Addr → Prop} (dm : ∀ a, W a → ∃ o, H a = some o) : ∀ {r : Rv} {v : V}, XOk C Z W H H' r v → GOk C Z W H' (TL.asG r) v
  | .val d, _, h => h
  | .new d, _, h => XOk.rep (r := .new d) dm rfl h
  | .bor d, _, h => h
  | .tmp d, _, h => h
def RI (C : Addr) (Z : Zx) (wi : TI) (T : TIx) : Prop := ∀ (G : List (V × Rv)) (Γ : Gm) (σ : L2.St) (H : Hp) (n : Nat) (Q : It → Hp → Prop) (R : Nat → List D → Nat → Prop), Mt C Z G Γ σ H n → T Γ n R →
  (∀ J H' n' ds gs b, Bt Z.p H H' → PAt Z.p H' n' → WOk C Z J ds gs → (∀ g ∈ gs, GOk C Z (Ws Z Γ σ) H' g.2 g.1) → (∀ g ∈ gs, b ≤ rank g.2) → R b ds n' → Q J H') → wi σ H Q
section
variable {X : Cx} {tg l : Expr} {tl : TE}
def iSeq (K : PySem.W.Frag) (tl : TE) : TI := fun σ H R => tl σ H fun x H1 => (∃ a, x = .ref a ∧ (∃ xs, SqL K H1 a xs) ∧ R (Itl K a) H1) ∨ (∃ a, x = .ref a ∧ (∃ xs, SqT K H1 a xs) ∧ R (Itt K a) H1) ∨ ∃ z, x = .str z ∧ R (Its z) H1
theorem pi_seq (hl : PE X l tl) : PI X tg l (iSeq X.K tl) where
  run pins s σ H R I h := by
    refine thn (hl.run pins s σ H _ I h) ?_
    rintro v s1 ⟨x, H1, I1, r1, ⟨a, rfl, ⟨xs, sq⟩, q⟩ | ⟨a, rfl, ⟨xs, sq⟩, q⟩ | ⟨z, rfl, q⟩⟩
    · obtain rfl : v = .ref a := r1
      obtain ⟨its, rv, p, hz⟩ := I1.list sq
      exact wpAny_pyIter_list p.isList (pi_one (tk := s1.toks) I1 _ (turn_list a _) ⟨_, Heap.get?_push_size _ rfl, rfl, rfl⟩ q)
    · obtain rfl : v = .ref a := r1
      obtain ⟨its, rv, p, hz⟩ := I1.tuple sq
      exact wpAny_pyIter_tuple p (pi_one (tk := s1.toks) I1 _ (turn_tuple a _) ⟨_, Heap.get?_push_size _ rfl, rfl, rfl⟩ q)
    · obtain ⟨t, rfl⟩ := r1
      cases wide : z.cps.all (· < 128) with
      | false => exact wpAny_pyIter_wide wide (pi_one (tk := s1.toks) I1 _ (turn_str _ z t "str_iterator" (.inr rfl)) ⟨_, Heap.get?_push_size _ rfl, rfl, rfl⟩ q)
      | true => exact wpAny_pyIter_ascii wide (pi_one (tk := s1.toks) I1 _ (turn_str _ z t "str_ascii_iterator" (.inl rfl)) ⟨_, Heap.get?_push_size _ rfl, rfl, rfl⟩ q)
end
def tlSeq (T : TX) : TIx := fun Γ n R => T Γ n fun r n1 => match r.d with
  | .lst ds => R (rank r) ds n1
  | .tup ds => R (rank r) ds n1
  | .str z => R 2 ((signs z).map .str) n1
  | _ => False
theorem wok_list {a : Addr} {ds : List D} {r : Rv} (hr : r.d = .lst ds) : WOk C Z (Itl K a) ds [(.ref a, r)] := by
  refine ⟨fun H => ∃ xs : List V, H a = some (.lst xs) ∧ xs.length = ds.length, fun i H x H' => H' = H ∧ ∃ xs : List V, H a = some (.lst xs) ∧ xs[i]? = some x, ⟨?_, ?_, ?_⟩, ?_, ?_⟩
  · rintro i H hi ⟨xs, h, e⟩
    exact ⟨xs, xs[i]'(by omega), SqL.of h, List.getElem?_eq_getElem _⟩
  · rintro H ⟨xs, h, e⟩
    exact ⟨xs, SqL.of h, by omega⟩
  · rintro i H x H' hi ⟨xs, h, e⟩ ⟨rfl, y⟩
    exact ⟨rfl, xs, h, y xs (SqL.of h)⟩
  · intro W H h
    have v := h _ List.mem_cons_self
    rw [hr] at v
    obtain ⟨b, vs, e, hb, rr⟩ := v.lst
    cases e
    exact ⟨vs, hb, rr.len⟩
  · rintro W i H x H' dm h hi ⟨rfl, xs, hx, hxi⟩
    have v := h _ List.mem_cons_self
    rw [hr] at v
    obtain ⟨b, vs, e, hb, rr⟩ := v.lst
    cases e
    rw [hb] at hx
    cases hx
    obtain ⟨d, h1, h2⟩ := rr.nth hxi
    exact ⟨Same.refl _, d, h1, h2⟩
theorem wok_tup {a : Addr} {ds : List D} {r : Rv} (hr : r.d = .tup ds) : WOk C Z (Itt K a) ds [(.ref a, r)] := by
  refine ⟨fun H => ∃ xs : List V, H a = some (.tup xs) ∧ xs.length = ds.length, fun i H x H' => H' = H ∧ ∃ xs : List V, H a = some (.tup xs) ∧ xs[i]? = some x, ⟨?_, ?_, ?_⟩, ?_, ?_⟩
  · rintro i H hi ⟨xs, h, e⟩
    exact ⟨xs, xs[i]'(by omega), SqT.of h, List.getElem?_eq_getElem _⟩
  · rintro H ⟨xs, h, e⟩
    exact ⟨xs, SqT.of h, by omega⟩
  · rintro i H x H' hi ⟨xs, h, e⟩ ⟨rfl, y⟩
    exact ⟨rfl, xs, h, y xs (SqT.of h)⟩
  · intro W H h
    have v := h _ List.mem_cons_self
    rw [hr] at v
    obtain ⟨b, vs, e, hb, rr⟩ := v.tup
    cases e
    exact ⟨vs, hb, rr.len⟩
  · rintro W i H x H' dm h hi ⟨rfl, xs, hx, hxi⟩
    have v := h _ List.mem_cons_self
    rw [hr] at v
    obtain ⟨b, vs, e, hb, rr⟩ := v.tup
    cases e
    rw [hb] at hx
    cases hx
    obtain ⟨d, h1, h2⟩ := rr.nth hxi
    exact ⟨Same.refl _, d, h1, h2⟩
theorem wok_str {z : Str} : WOk C Z (Its z) ((signs z).map D.str) [] := by
  have len : ((signs z).map D.str).length = z.cps.size := by simp [signs]
  refine ⟨fun _ => True, fun i H v H' => H' = H ∧ ∃ c, z.cps[i]? = some c ∧ v = .str ⟨#[c]⟩, by rw [len]; exact walk_str, fun _ _ _ => trivial, ?_⟩
  rintro W i H x H' dm h hi ⟨rfl, c, hc, rfl⟩
  refine ⟨Same.refl _, .str ⟨#[c]⟩, ?_, rfl⟩
  rw [List.getElem?_map, signs, List.getElem?_map, Array.getElem?_toList, hc]
  rfl
theorem ri_seq {t : TE} {T : TX} (h : RE C Z t T) : RI C Z (iSeq K t) (tlSeq T) := by
  intro G Γ σ H n Q R M h1 q
  refine h G Γ σ H n _ _ M h1 fun v H1 r n1 e1 p1 x1 r1 => ?_
  have vw := x1.view fun a h => Z.papart M.pdom h
  have g := x1.asG fun a w => M.wdom w
  have last : ∀ g ∈ [(v, asG r)], rank r ≤ rank g.2 := fun g hg => by
    rw [List.mem_singleton.1 hg]
    cases r <;> exact Nat.le.refl
  cases hd : r.d with
  | lst ds =>
    rw [hd] at r1 vw
    obtain ⟨a, vs, rfl, ha, rr⟩ := vw.lst
    exact .inl ⟨a, rfl, ⟨vs, SqL.of ha⟩, q _ H1 n1 ds [(.ref a, asG r)] (rank r) e1 p1 (wok_list (by rw [asG_d, hd])) (fun g' hg => by rw [List.mem_singleton.1 hg]; exact g) last r1⟩
  | tup ds =>
    rw [hd] at r1 vw
    obtain ⟨a, vs, rfl, ha, rr⟩ := vw.tup
    exact .inr (.inl ⟨a, rfl, ⟨vs, SqT.of ha⟩, q _ H1 n1 ds [(.ref a, asG r)] (rank r) e1 p1 (wok_tup (by rw [asG_d, hd])) (fun g' hg => by rw [List.mem_singleton.1 hg]; exact g) last r1⟩)
  | str z =>
    rw [hd] at r1 vw
    exact .inr (.inr ⟨z, vw.str, q _ H1 n1 _ [] 2 e1 p1 wok_str (fun g' hg => nomatch hg) (fun g' hg => nomatch hg) r1⟩)
  | _ => rw [hd] at r1; exact False.elim r1
end
end TL

-- TL5
set_option Elab.async false
set_option linter.all false
set_option maxRecDepth 100000
set_option maxHeartbeats 4100000
/-! TL5: ranges, pairs; comprehensions; statements; defs -/
namespace TL
open L2 PyProof.Rows PySem PySem.Spec TS RZ
section
variable {C : Addr} {Z : Zx} {G : List (V × Rv)} {Γ : Gm} {σ : L2.St} {H H' : Hp} {n m : Nat} {K : PySem.W.Frag}
/-! ### ranges, pairs -/
/-- lo, lo + 1, .. below hi -/
def rng (lo hi : Int) : List Int := (List.range (hi - lo).toNat).map fun (i : Nat) => lo + (i : Int)
def tlRng (T : TXs) : TIx := fun Γ n R => T Γ n fun rs n1 => match rs.map Rv.d with
  | [.int j] => -(2 ^ 62) ≤ j ∧ j < 2 ^ 62 ∧ R 2 ((rng 0 j).map .int) n1
  | [.int i, .int j] => -(2 ^ 62) ≤ i ∧ i < 2 ^ 62 ∧ -(2 ^ 62) ≤ j ∧ j < 2 ^ 62 ∧ R 2 ((rng i j).map .int) n1
  | _ => False
theorem wok_rng {lo : Int} {k : Nat} {ds : List D} (e : ds = ((List.range k).map fun (i : Nat) => lo + (i : Int)).map D.int) : WOk C Z (Itr lo k) ds [] := by
  have len : ds.length = k := by rw [e]; simp
  refine ⟨fun _ => True, YFn fun i => .int (lo + i), by rw [len]; exact walk_range, fun _ _ _ => trivial, ?_⟩
  rintro W i H x H' dm h hi ⟨rfl, rfl⟩
  refine ⟨Same.refl _, .int (lo + i), ?_, rfl⟩
  rw [e, List.getElem?_map, List.getElem?_map, List.getElem?_range (by omega)]
  rfl
theorem Views.ints1 {p : Option Addr} {W : Addr → Prop} {H : Hp} {ds : List D} {vs : List V} {j : Int} (h : Views p C W H ds vs) (e : ds = [.int j]) : vs = [.int j] := by
  subst e
  obtain ⟨v, rfl, hv⟩ := h.one
  rw [hv.int]
theorem Views.ints2 {p : Option Addr} {W : Addr → Prop} {H : Hp} {ds : List D} {vs : List V} {i j : Int} (h : Views p C W H ds vs) (e : ds = [.int i, .int j]) : vs = [.int i, .int j] := by
  subst e
  obtain ⟨v, u, rfl, hv, hu⟩ := h.two
  rw [hv.int, hu.int]
theorem ri_rng1 {t : TA} {T : TXs} (h : RA C Z t T) : RI C Z (iRng1 t) (fun Γ n R => T Γ n fun rs n1 => ∃ j, rs.map Rv.d = [.int j] ∧ -(2 ^ 62) ≤ j ∧ j < 2 ^ 62 ∧ R 2 ((rng 0 j).map .int) n1) := by
  intro G Γ σ H n Q R M h1 q
  refine h G Γ σ H n _ _ M h1 fun vs H1 rs n1 e1 p1 x1 ⟨j, ej, b1, b2, r1⟩ => ?_
  have vw := x1.views fun a h => Z.papart M.pdom h
  exact ⟨j, vw.ints1 ej, b1, b2, q _ H1 n1 _ [] 2 e1 p1 (wok_rng (by unfold rng; simp)) (fun g hg => nomatch hg) (fun g hg => nomatch hg) r1⟩
theorem ri_rng2 {t : TA} {T : TXs} (h : RA C Z t T) : RI C Z (iRng2 t) (fun Γ n R => T Γ n fun rs n1 => ∃ i j, rs.map Rv.d = [.int i, .int j] ∧ (-(2 ^ 62) ≤ i ∧ i < 2 ^ 62 ∧ -(2 ^ 62) ≤ j ∧ j < 2 ^ 62) ∧ R 2 ((rng i j).map .int) n1) := by
  intro G Γ σ H n Q R M h1 q
  refine h G Γ σ H n _ _ M h1 fun vs H1 rs n1 e1 p1 x1 ⟨i, j, ej, b, r1⟩ => ?_
  have vw := x1.views fun a h => Z.papart M.pdom h
  exact ⟨i, j, vw.ints2 ej, b, q _ H1 n1 _ [] 2 e1 p1 (wok_rng rfl) (fun g hg => nomatch hg) (fun g hg => nomatch hg) r1⟩
def tlRng1 (T : TX) : TIx := fun Γ n R => T Γ n fun r n1 => match r.d with
  | .int j => -(2 ^ 62) ≤ j ∧ j < 2 ^ 62 ∧ R 2 ((rng 0 j).map .int) n1
  | _ => False
def tlRng2 (T U : TX) : TIx := fun Γ n R => T Γ n fun r n1 => U Γ n1 fun s n2 => match r.d, s.d with
  | .int i, .int j => (-(2 ^ 62) ≤ i ∧ i < 2 ^ 62 ∧ -(2 ^ 62) ≤ j ∧ j < 2 ^ 62) ∧ R 2 ((rng i j).map .int) n2
  | _, _ => False
/-- what an argument list says, one by one -/
theorem RE.mono {t : TE} {T T' : TX} (h : RE C Z t T) (k : ∀ Γ n R, T' Γ n R → T Γ n R) : RE C Z t T' := fun G Γ σ H n Q R M h1 q => h G Γ σ H n Q R M (k _ _ _ h1) q
theorem RI.imp {t : TI} {T T' : TIx} (h : RI C Z t T) (k : ∀ Γ n R, T' Γ n R → T Γ n R) : RI C Z t T' := fun G Γ σ H n Q R M h1 q => h G Γ σ H n Q R M (k _ _ _ h1) q
/-- a reading that wants less behind it -/
def MonoX (T : TX) : Prop := ∀ Γ n (R R' : Rv → Nat → Prop), (∀ r m, R r m → R' r m) → T Γ n R → T Γ n R'
theorem ri_r1 {t : TE} {T : TX} (h : RE C Z t T) : RI C Z (iRng1 (tCons t tNil)) (tlRng1 T) := by
  intro G Γ σ H n Q R M h1 q
  refine h G Γ σ H n _ _ M h1 fun v H1 r n1 e1 p1 x1 r1 => ?_
  have vw := x1.view fun a h => Z.papart M.pdom h
  cases hd : r.d with
  | int j =>
    rw [hd] at r1 vw
    exact ⟨j, by rw [vw.int], r1.1, r1.2.1, q _ H1 n1 _ [] 2 e1 p1 (wok_rng (by unfold rng; simp)) (fun g hg => nomatch hg) (fun g hg => nomatch hg) r1.2.2⟩
  | _ => rw [hd] at r1; exact False.elim r1
theorem ri_r2 {t u : TE} {T U : TX} (h : RE C Z t T) (h2 : RE C Z u U) : RI C Z (iRng2 (tCons t (tCons u tNil))) (tlRng2 T U) := by
  intro G Γ σ H n Q R M h1 q
  refine h G Γ σ H n _ _ M h1 fun v H1 r n1 e1 p1 x1 r1 => ?_
  have M1 := M.bt e1 p1
  refine h2 G Γ σ H1 n1 _ _ M1 r1 fun u H2 s n2 e2 p2 x2 r2 => ?_
  have vw := x1.view fun a h => Z.papart M.pdom h
  have vu := x2.view fun a h => Z.papart M1.pdom h
  cases hd : r.d with
  | int i =>
    cases hs : s.d with
    | int j =>
      rw [hd, hs] at r2
      rw [hd] at vw
      rw [hs] at vu
      exact ⟨i, j, by rw [vw.int, vu.int], r2.1, q _ H2 n2 _ [] 2 (e1.trans e2) p2 (wok_rng rfl) (fun g hg => nomatch hg) (fun g hg => nomatch hg) r2.2⟩
    | _ => rw [hd, hs] at r2; exact False.elim r2
  | _ => rw [hd] at r2; exact False.elim r2
/-- numbered -/
def enumD (ds : List D) : List D := ds.zipIdx.map fun p => .tup [.int p.2, p.1]
def tlEnum (T : TX) : TIx := fun Γ n R => T Γ n fun r n1 => match r.d with
  | .lst ds => R (rank r) (enumD ds) n1
  | _ => False
theorem wok_enum {a : Addr} {ds : List D} {r : Rv} (hr : r.d = .lst ds) : WOk C Z (Ite K a) (enumD ds) [(.ref a, r)] := by
  have len : (enumD ds).length = ds.length := by simp [enumD]
  refine ⟨fun H => ∃ xs : List V, H a = some (.lst xs) ∧ xs.length = ds.length, fun i H x H' => ∃ (T : Addr) (u : V), x = .ref T ∧ H T = none ∧ H' = upd H T (.tup [.int (i : Nat), u]) ∧ ∃ xs : List V, H a = some (.lst xs) ∧ xs[i]? = some u, ⟨?_, ?_, ?_⟩, ?_, ?_⟩
  · rintro i H hi ⟨xs, h, e⟩
    exact ⟨xs, xs[i]'(by omega), SqL.of h, List.getElem?_eq_getElem _⟩
  · rintro H ⟨xs, h, e⟩
    exact ⟨xs, SqL.of h, by omega⟩
  · rintro i H x H' hi ⟨xs, h, e⟩ ⟨T, u, h1, h2, h3, h4⟩
    exact ⟨T, u, h1, h2, h3, xs, h, h4 xs (SqL.of h)⟩
  · intro W H h
    have v := h _ List.mem_cons_self
    rw [hr] at v
    obtain ⟨b, vs, e, hb, rr⟩ := v.lst
    cases e
    exact ⟨vs, hb, rr.len⟩
  · rintro W i H x H' dm h hi ⟨T, u, rfl, nT, rfl, xs, hx, hxi⟩
    have v := h _ List.mem_cons_self
    rw [hr] at v
    obtain ⟨b, vs, e, hb, rr⟩ := v.lst
    cases e
    rw [hb] at hx
    cases hx
    obtain ⟨d, h1, h2⟩ := rr.nth hxi
    refine ⟨same_upd nT, .tup [.int (i : Nat), d], ?_, T, rfl, fun z => ?_, _, upd_same, _, _, rfl, rfl, _, _, rfl, h2.mono fun c o nc e => ⟨nc, same_upd nT _ _ e⟩, rfl⟩
    · simp [enumD, h1]
    · obtain ⟨o, ho⟩ := dm T z
      rw [nT] at ho
      cases ho
theorem ri_enum {t : TE} {T : TX} (h : RE C Z t T) : RI C Z (iEnum K (tCons t tNil)) (tlEnum T) := by
  intro G Γ σ H n Q R M h1 q
  refine h G Γ σ H n _ _ M h1 fun v H1 r n1 e1 p1 x1 r1 => ?_
  have vw := x1.view fun a h => Z.papart M.pdom h
  have g := x1.asG fun a w => M.wdom w
  cases hd : r.d with
  | lst ds =>
    rw [hd] at r1 vw
    obtain ⟨a, vs, rfl, ha, rr⟩ := vw.lst
    exact ⟨a, vs, rfl, SqL.of ha, q _ H1 n1 _ [(.ref a, asG r)] (rank r) e1 p1 (wok_enum (by rw [asG_d, hd])) (fun g' hg => by rw [List.mem_singleton.1 hg]; exact g) (fun g' hg => by
      rw [List.mem_singleton.1 hg]
      cases r <;> exact Nat.le.refl) r1⟩
  | _ => rw [hd] at r1; exact False.elim r1
/-- pair by pair -/
def zipD (xs ys : List D) : List D := xs.zipWith (fun x y => .tup [x, y]) ys
def tlZip (T U : TX) : TIx := fun Γ n R => T Γ n fun r n1 => U Γ n1 fun s n2 => match r.d, s.d with
  | .lst xs, .lst ys => R (min (rank r) (rank s)) (zipD xs ys) n2
  | .tup xs, .tup ys => R (min (rank r) (rank s)) (zipD xs ys) n2
  | _, _ => False
theorem zip_at {xs ys : List D} {i : Nat} {d e : D} (h1 : xs[i]? = some d) (h2 : ys[i]? = some e) : (zipD xs ys)[i]? = some (.tup [d, e]) := by
  simp [zipD, List.getElem?_zipWith, h1, h2]
theorem wok_zip {a b : Addr} {xs ys : List D} {r s : Rv} (hr : r.d = .lst xs) (hs : s.d = .lst ys) : WOk C Z (Itz K a b) (zipD xs ys) [(.ref a, r), (.ref b, s)] := by
  have len : (zipD xs ys).length = min xs.length ys.length := by simp [zipD]
  refine ⟨fun H => ∃ us ws : List V, (H a = some (.lst us) ∧ H b = some (.lst ws)) ∧ us.length = xs.length ∧ ws.length = ys.length, fun i H x H' => ∃ (T : Addr) (u w : V), x = .ref T ∧ H T = none ∧ H' = upd H T (.tup [u, w]) ∧ ∃ us ws : List V, (H a = some (.lst us) ∧ H b = some (.lst ws)) ∧ us[i]? = some u ∧ ws[i]? = some w, ⟨?_, ?_, ?_⟩, ?_, ?_⟩
  · rintro i H hi ⟨us, ws, ⟨h1, h2⟩, e1, e2⟩
    exact ⟨us, ws, us[i]'(by omega), ws[i]'(by omega), SqL.of h1, SqL.of h2, List.getElem?_eq_getElem _, List.getElem?_eq_getElem _⟩
  · rintro H ⟨us, ws, ⟨h1, h2⟩, e1, e2⟩
    exact ⟨us, ws, SqL.of h1, SqL.of h2, by omega⟩
  · rintro i H x H' hi ⟨us, ws, ⟨h1, h2⟩, e1, e2⟩ ⟨T, u, w, g1, g2, g3, g4, g5⟩
    exact ⟨T, u, w, g1, g2, g3, us, ws, ⟨h1, h2⟩, g4 us (SqL.of h1), g5 ws (SqL.of h2)⟩
  · intro W H h
    have v := h _ List.mem_cons_self
    have v2 := h _ (List.mem_cons_of_mem _ List.mem_cons_self)
    rw [hr] at v
    rw [hs] at v2
    obtain ⟨_, vs, e, hb, rr⟩ := v.lst
    obtain ⟨_, us, e2, hb2, rr2⟩ := v2.lst
    cases e
    cases e2
    exact ⟨vs, us, ⟨hb, hb2⟩, rr.len, rr2.len⟩
  · rintro W i H x H' dm h hi ⟨T, u, w, rfl, nT, rfl, us, ws, ⟨hx, hy⟩, hxi, hyi⟩
    have v := h _ List.mem_cons_self
    have v2 := h _ (List.mem_cons_of_mem _ List.mem_cons_self)
    rw [hr] at v
    rw [hs] at v2
    obtain ⟨_, vs, e, hb, rr⟩ := v.lst
    obtain ⟨_, vs2, e2, hb2, rr2⟩ := v2.lst
    cases e
    cases e2
    rw [hb] at hx
    rw [hb2] at hy
    cases hx
    cases hy
    obtain ⟨d, h1, h2⟩ := rr.nth hxi
    obtain ⟨d2, h3, h4⟩ := rr2.nth hyi
    refine ⟨same_upd nT, .tup [d, d2], zip_at h1 h3, T, rfl, fun z => ?_, _, upd_same, _, _, rfl, h2.mono fun c o nc e => ⟨nc, same_upd nT _ _ e⟩, _, _, rfl, h4.mono fun c o nc e => ⟨nc, same_upd nT _ _ e⟩, rfl⟩
    obtain ⟨o, ho⟩ := dm T z
    rw [nT] at ho
    cases ho
theorem wok_zipT {a b : Addr} {xs ys : List D} {r s : Rv} (hr : r.d = .tup xs) (hs : s.d = .tup ys) : WOk C Z (ItzT K a b) (zipD xs ys) [(.ref a, r), (.ref b, s)] := by
  have len : (zipD xs ys).length = min xs.length ys.length := by simp [zipD]
  refine ⟨fun H => ∃ us ws : List V, (H a = some (.tup us) ∧ H b = some (.tup ws)) ∧ us.length = xs.length ∧ ws.length = ys.length, fun i H x H' => ∃ (T : Addr) (u w : V), x = .ref T ∧ H T = none ∧ H' = upd H T (.tup [u, w]) ∧ ∃ us ws : List V, (H a = some (.tup us) ∧ H b = some (.tup ws)) ∧ us[i]? = some u ∧ ws[i]? = some w, ⟨?_, ?_, ?_⟩, ?_, ?_⟩
  · rintro i H hi ⟨us, ws, ⟨h1, h2⟩, e1, e2⟩
    exact ⟨us, ws, us[i]'(by omega), ws[i]'(by omega), SqT.of h1, SqT.of h2, List.getElem?_eq_getElem _, List.getElem?_eq_getElem _⟩
  · rintro H ⟨us, ws, ⟨h1, h2⟩, e1, e2⟩
    exact ⟨us, ws, SqT.of h1, SqT.of h2, by omega⟩
  · rintro i H x H' hi ⟨us, ws, ⟨h1, h2⟩, e1, e2⟩ ⟨T, u, w, g1, g2, g3, g4, g5⟩
    exact ⟨T, u, w, g1, g2, g3, us, ws, ⟨h1, h2⟩, g4 us (SqT.of h1), g5 ws (SqT.of h2)⟩
  · intro W H h
    have v := h _ List.mem_cons_self
    have v2 := h _ (List.mem_cons_of_mem _ List.mem_cons_self)
    rw [hr] at v
    rw [hs] at v2
    obtain ⟨_, vs, e, hb, rr⟩ := v.tup
    obtain ⟨_, us, e2, hb2, rr2⟩ := v2.tup
    cases e
    cases e2
    exact ⟨vs, us, ⟨hb, hb2⟩, rr.len, rr2.len⟩
  · rintro W i H x H' dm h hi ⟨T, u, w, rfl, nT, rfl, us, ws, ⟨hx, hy⟩, hxi, hyi⟩
    have v := h _ List.mem_cons_self
    have v2 := h _ (List.mem_cons_of_mem _ List.mem_cons_self)
    rw [hr] at v
    rw [hs] at v2
    obtain ⟨_, vs, e, hb, rr⟩ := v.tup
    obtain ⟨_, vs2, e2, hb2, rr2⟩ := v2.tup
    cases e
    cases e2
    rw [hb] at hx
    rw [hb2] at hy
    cases hx
    cases hy
    obtain ⟨d, h1, h2⟩ := rr.nth hxi
    obtain ⟨d2, h3, h4⟩ := rr2.nth hyi
    refine ⟨same_upd nT, .tup [d, d2], zip_at h1 h3, T, rfl, fun z => ?_, _, upd_same, _, _, rfl, h2.mono fun c o nc e => ⟨nc, same_upd nT _ _ e⟩, _, _, rfl, h4.mono fun c o nc e => ⟨nc, same_upd nT _ _ e⟩, rfl⟩
    obtain ⟨o, ho⟩ := dm T z
    rw [nT] at ho
    cases ho
theorem GOk.bt {W : Addr → Prop} (hp : ∀ a, Z.p = some a → W a) (e : Bt Z.p H H') : ∀ {r : Rv} {v : V}, GOk C Z W H r v → GOk C Z W H' r v
  | .val d, _, h => Rep.mono (keepB hp e) h
  | .bor d, _, .inl h => .inl (Rep.mono (keepB hp e) h)
  | .bor d, _, .inr ⟨a, o, e1, na, h0, r⟩ => .inr ⟨a, o, e1, na, h0, r.mono (keepB hp e) fun o => e a o na⟩
  | .tmp d, _, ⟨a, e1, na, h0, r⟩ => ⟨a, e1, na, h0, r.mono (keepB hp e) fun o => e a o na⟩
theorem ri_zip {t u : TE} {T U : TX} (h : RE C Z t T) (h2 : RE C Z u U) : RI C Z (iZipA K (tCons t (tCons u tNil))) (tlZip T U) := by
  intro G Γ σ H n Q R M h1 q
  refine h G Γ σ H n _ _ M h1 fun v H1 r n1 e1 p1 x1 r1 => ?_
  have M1 := M.bt e1 p1
  refine h2 G Γ σ H1 n1 _ _ M1 r1 fun u H2 s n2 e2 p2 x2 r2 => ?_
  have vw := (x1.view fun a h => Z.papart M.pdom h).bt (fun a z => Ws.pw z) e2
  have vu := x2.view fun a h => Z.papart M1.pdom h
  have g1 := (x1.asG fun a w => M.wdom w).bt (fun a z => Ws.pw z) e2
  have g2 := x2.asG fun a w => M1.wdom w
  have gs : ∀ g ∈ [(v, asG r), (u, asG s)], GOk C Z (Ws Z Γ σ) H2 g.2 g.1 := fun g hg => by
    rcases List.mem_cons.1 hg with e | hg
    · rw [e]; exact g1
    · rw [List.mem_singleton.1 hg]; exact g2
  have last : ∀ g ∈ [(v, asG r), (u, asG s)], min (rank r) (rank s) ≤ rank g.2 := fun g hg => by
    rcases List.mem_cons.1 hg with e | hg
    · rw [e]; exact Nat.le_trans (Nat.min_le_left _ _) (by cases r <;> exact Nat.le.refl)
    · rw [List.mem_singleton.1 hg]; exact Nat.le_trans (Nat.min_le_right _ _) (by cases s <;> exact Nat.le.refl)
  cases hd : r.d with
  | lst xs =>
    cases hs : s.d with
    | lst ys =>
      rw [hd, hs] at r2
      rw [hd] at vw
      rw [hs] at vu
      obtain ⟨a, vs, rfl, ha, _⟩ := vw.lst
      obtain ⟨b, us, rfl, hb, _⟩ := vu.lst
      exact ⟨a, b, vs, us, rfl, .inl ⟨SqL.of ha, SqL.of hb, q _ H2 n2 _ _ _ (e1.trans e2) p2 (wok_zip (by rw [asG_d, hd]) (by rw [asG_d, hs])) gs last r2⟩⟩
    | _ => rw [hd, hs] at r2; exact False.elim r2
  | tup xs =>
    cases hs : s.d with
    | tup ys =>
      rw [hd, hs] at r2
      rw [hd] at vw
      rw [hs] at vu
      obtain ⟨a, vs, rfl, ha, _⟩ := vw.tup
      obtain ⟨b, us, rfl, hb, _⟩ := vu.tup
      exact ⟨a, b, vs, us, rfl, .inr ⟨SqT.of ha, SqT.of hb, q _ H2 n2 _ _ _ (e1.trans e2) p2 (wok_zipT (by rw [asG_d, hd]) (by rw [asG_d, hs])) gs last r2⟩⟩
    | _ => rw [hd, hs] at r2; exact False.elim r2
  | _ => rw [hd] at r2; exact False.elim r2
end
end TL

-- TL6
set_option Elab.async false
set_option linter.all false
set_option maxRecDepth 100000
set_option maxHeartbeats 4100000
/-! TL6: comprehensions -/
namespace TL
open L2 PyProof.Rows PySem PySem.Spec TS RZ
section
variable {C : Addr} {Z : Zx} {G : List (V × Rv)} {Γ : Gm} {σ : L2.St} {H H1 H' : Hp} {n m : Nat} {K : PySem.W.Frag}
/-- some slots forgotten -/
def wipeG (Γ : Gm) : List Nat → Gm
  | [] => Γ
  | v :: vs => (wipeG Γ vs).set v none
/-- what is own is lent -/
def lend : Rv → Rv
  | .new d => .bor d
  | r => r
def borG (Γ : Gm) : Gm := Γ.map (Option.map lend)
def NoNew (Γ : Gm) : Prop := ∀ (i : Nat) (d : D), Γ[i]? ≠ some (some (.new d))
theorem noNew_bor : NoNew (borG Γ) := by
  intro i d e
  rw [borG, List.getElem?_map] at e
  obtain ⟨o, _, e⟩ := Option.map_eq_some_iff.1 e
  cases o with
  | none => cases e
  | some r =>
    have e := Option.some.inj e
    cases r <;> cases e
theorem NoNew.set {i : Nat} {o : Option Rv} (h : NoNew Γ) (ho : ∀ d, o ≠ some (.new d)) : NoNew (Γ.set i o) := by
  intro j d e
  rcases get_set e with ⟨_, e⟩ | ⟨_, e⟩
  · exact ho d e.symm
  · exact h j d e
theorem NoNew.wipe (h : NoNew Γ) : ∀ vs : List Nat, NoNew (wipeG Γ vs)
  | [] => h
  | v :: vs => (NoNew.wipe h vs).set fun d e => by cases e
theorem NoNew.all : ∀ (is : List Nat) (ds : List D) {Γ : Gm}, NoNew Γ → NoNew (setAll is ds Γ)
  | [], _, _, h => h
  | _ :: _, [], _, h => h
  | i :: is, d :: ds, _, h => NoNew.all is ds (h.set (i := i) (o := some (.val d)) fun e z => by cases z)
theorem NoNew.bind (h : NoNew Γ) {pt : Pat} {d : D} {Γ' : Gm} (e : bindP pt d Γ = some Γ') : NoNew Γ' := by
  unfold bindP at e
  split at e
  · obtain rfl := Option.some.inj e
    exact h.set fun e z => by cases z
  · split at e
    · obtain rfl := Option.some.inj e
      exact NoNew.all _ _ h
    · cases e
  · split at e
    · obtain rfl := Option.some.inj e
      exact NoNew.all _ _ h
    · cases e
  · cases e
theorem NoNew.ws (h : NoNew Γ) (a : Addr) : Ws Z Γ σ a → Z.W0 a := fun w => w.elim id fun ⟨i, ⟨d, hd⟩, _⟩ => absurd hd (h i d)
theorem Mt.forget (M : Mt C Z G Γ σ H n) {v : Nat} : Mt C Z G (Γ.set v none) (σ.set v none) H n := by
  have ow : ∀ {j : Nat} {a : Addr}, Ow (Γ.set v none) (σ.set v none) j a → Ow Γ σ j a := fun {j a} ⟨⟨e, he⟩, hv⟩ => by
    rcases get_set he with ⟨_, z⟩ | ⟨_, he⟩
    · cases z
    · rcases get_set hv with ⟨_, z⟩ | ⟨_, hv⟩
      · cases z
      · exact ⟨⟨e, he⟩, hv⟩
  have hw : ∀ a, Ws Z (Γ.set v none) (σ.set v none) a → Ws Z Γ σ a := fun a h => h.elim .inl fun ⟨j, h⟩ => .inr ⟨j, ow h⟩
  refine ⟨by rw [List.length_set, List.length_set, M.len], M.fr, M.pa, fun j s hj => ?_, fun g hg => ⟨(M.gs g hg).1.sub hw, (M.gs g hg).2⟩, fun j k a h1 h2 => M.inj j k a (ow h1) (ow h2)⟩
  rcases get_set hj with ⟨_, z⟩ | ⟨ne, hj⟩
  · cases z
  · obtain ⟨u, hu, su⟩ := M.sl j s hj
    exact ⟨u, by rw [List.getElem?_set_ne ne]; exact hu, su.sub hw⟩
theorem Mt.wipe (M : Mt C Z G Γ σ H n) : ∀ vs : List Nat, Mt C Z G (wipeG Γ vs) (L2.wipe σ vs) H n
  | [] => M
  | v :: vs => (M.wipe vs).forget
/-- a place within, from which nothing that stands may be changed -/
def Zx.at (p : Option Addr) (W : Addr → Prop) (H : Hp) (dom : ∀ a, W a → ∃ o, H a = some o) (pw : ∀ a, p = some a → W a) : Zx := ⟨p, W, H, dom, pw⟩
/-- the place of a comprehension's turn: D is its new list -/
theorem Mt.within (M : Mt C Z G Γ σ H1 n) {Dn : Addr} (nD : H1 Dn = none) (e : Bt Z.p H1 H) (pa : PAt Z.p H m) {W : Addr → Prop} (hW : ∀ a, W a ↔ Ws Z Γ σ a ∨ a = Dn) (dom : ∀ a, W a → ∃ o, H a = some o) (pw : ∀ a, Z.p = some a → W a) : Mt C (Zx.at Z.p W H dom pw) [] (borG Γ) σ H m := by
  have M' := M.bt e pa
  refine ⟨by rw [borG, List.length_map]; exact M.len, .refl, pa, fun i r hi => ?_, fun g hg => (nomatch hg), fun i j a h => ?_⟩
  · have hws : ∀ a, Ws (Zx.at Z.p W H dom pw) (borG Γ) σ a → Ws Z Γ σ a ∨ a = Dn := fun a w => (hW a).1 (noNew_bor.ws a w)
    rw [borG, List.getElem?_map] at hi
    obtain ⟨o, ho, e2⟩ := Option.map_eq_some_iff.1 hi
    cases o with
    | none => cases e2
    | some r0 =>
      obtain rfl := Option.some.inj e2
      obtain ⟨v, hv, s⟩ := M.sl i r0 ho
      refine ⟨v, hv, ?_⟩
      have key : ∀ c o, ¬ Ws Z Γ σ c → H1 c = some o → ¬ Ws (Zx.at Z.p W H dom pw) (borG Γ) σ c ∧ H c = some o := fun c o nc h =>
        ⟨fun z => (hws c z).elim nc (fun z => by rw [z, nD] at h; cases h), e c o (fun z => nc (.inl (Z.pw c z))) h⟩
      match r0, s with
      | .val d, s => exact Rep.mono key s
      | .new d, ⟨a, ea, h0, r⟩ =>
        obtain ⟨o, ho⟩ := r.at
        exact .inr ⟨a, o, ea, Z.apart h0, e a o (Z.apart h0) ho, r.mono key fun u => e a u (Z.apart h0)⟩
      | .bor d, .inl s => exact .inl (Rep.mono key s)
      | .bor d, .inr ⟨a, o, ea, na, h0, r⟩ =>
        exact .inr ⟨a, o, ea, na, e a o na (M.fr a o na h0), r.mono key fun u => e a u na⟩
  · obtain ⟨⟨d, hd⟩, _⟩ := h
    exact absurd hd (noNew_bor i d)
/-- the same place, later -/
theorem Mt.later {p : Option Addr} {W : Addr → Prop} {Hs : Hp} {ds : ∀ a, W a → ∃ o, Hs a = some o} {pw : ∀ a, p = some a → W a} (M : Mt C (Zx.at p W Hs ds pw) [] Γ σ H n) (nn : NoNew Γ) (e : Bt p H H') (pa : PAt p H' m) (dom : ∀ a, W a → ∃ o, H' a = some o) :
    Mt C (Zx.at p W H' dom pw) [] Γ σ H' m := by
  have M' := M.bt e pa
  refine ⟨M.len, .refl, pa, fun i r hi => ?_, fun g hg => (nomatch hg), fun i j a h => ?_⟩
  · obtain ⟨v, hv, s⟩ := M'.sl i r hi
    refine ⟨v, hv, ?_⟩
    have hws : ∀ a, Ws (Zx.at p W H' dom pw) Γ σ a → Ws (Zx.at p W Hs ds pw) Γ σ a := fun a w => .inl (nn.ws a w)
    have key : ∀ c o, ¬ Ws (Zx.at p W Hs ds pw) Γ σ c → H' c = some o → ¬ Ws (Zx.at p W H' dom pw) Γ σ c ∧ H' c = some o := fun c o nc h => ⟨fun z => nc (hws c z), h⟩
    match r, s, hi with
    | .val d, s, _ => exact Rep.mono key s
    | .new d, s, hi => exact absurd hi (nn i d)
    | .bor d, .inl s, _ => exact .inl (Rep.mono key s)
    | .bor d, .inr ⟨a, o, ea, na, h0, r⟩, _ =>
      exact .inr ⟨a, o, ea, na, M'.fr a o na h0, r.mono key fun u h => h⟩
  · obtain ⟨⟨d, hd⟩, _⟩ := h
    exact absurd hd (nn i d)
/-- turn by turn -/
def lcF (pt : Pat) (c : TBx) (e : TX) (Γ : Gm) : List D → List D → Nat → (List D → Nat → Prop) → Prop
  | [], acc, n, k => k acc n
  | d :: r, acc, n, k => match bindP pt d Γ with
    | some Γ' => c Γ' n fun b n1 => if b = true then e Γ' n1 fun rv n2 => sto rv = true ∧ lcF pt c e Γ r (acc ++ [rv.d]) n2 k else lcF pt c e Γ r acc n1 k
    | none => False
def tlYes : TBx := fun _ n R => R true n
theorem rt_yes : RT C Z tYes tlYes := fun G Γ σ H n Q R M h q => q true H n .refl M.pa h
def tlLc (I : TIx) (pt : Pat) (c : TBx) (e : TX) (vs : List Nat) : TX := fun Γ n R => I Γ n fun _ ds n1 => ds.length ≤ 1000000 ∧ lcF pt c e (wipeG (borG Γ) vs) ds [] n1 fun out n2 => R (.new (.lst out)) n2
theorem GOk.fresh {W W' : Addr → Prop} {b : Addr} (nb : H b = none) (hw : ∀ a, W' a → W a ∨ a = b) : ∀ {r : Rv} {v : V}, GOk C Z W H r v → GOk C Z W' H r v := by
  have key : ∀ c o, ¬ W c → H c = some o → ¬ W' c ∧ H c = some o := fun c o nc e => ⟨fun z => (hw c z).elim nc (fun q => by rw [q, nb] at e; cases e), e⟩
  intro r v
  match r with
  | .val d => exact fun h => Rep.mono key h
  | .new d => exact fun h => h
  | .bor d =>
    rintro (h | ⟨a, o, e1, na, h0, r⟩)
    · exact .inl (Rep.mono key h)
    · exact .inr ⟨a, o, e1, na, h0, r.mono key fun _ h => h⟩
  | .tmp d => exact fun ⟨a, e1, na, h0, r⟩ => ⟨a, e1, na, h0, r.mono key fun _ h => h⟩
theorem drop_cons {α : Type} {xs : List α} {i : Nat} {x : α} (h : xs[i]? = some x) : xs.drop i = x :: xs.drop (i + 1) := by
  obtain ⟨lt, rfl⟩ := List.getElem?_eq_some_iff.1 h
  exact List.drop_eq_getElem_cons lt
theorem small6 {n : Nat} (h : n ≤ 1000000) : n < sizeLine := Nat.lt_of_le_of_lt h (by decide +kernel)
/-- a turn's value goes to the list that is made -/
theorem put_next {p : Option Addr} {W : Addr → Prop} {H H4 : Hp} {Dn : Addr} {acc : List D} {vs : List V} {d : D} {v : V} (hp : ∀ a, p = some a → W a) (npD : p ≠ some Dn) (wD : W Dn) (hD : H Dn = some (.lst vs)) (e : Bt p H H4) (ra : RepL p C W H acc vs) (rv : Rep p C W H4 d v) :
    H4 Dn = some (.lst vs) ∧ RepL p C W (upd H4 Dn (.lst (vs ++ [v]))) (acc ++ [d]) (vs ++ [v]) := by
  refine ⟨e _ _ npD hD, ?_⟩
  have k1 := ra.mono (keepB hp e)
  have key : ∀ c o, ¬ W c → H4 c = some o → ¬ W c ∧ upd H4 Dn (.lst (vs ++ [v])) c = some o := fun c o nc h => ⟨nc, by rw [upd_ne fun z => nc (by rw [z]; exact wD)]; exact h⟩
  exact (k1.mono key).app ⟨v, [], rfl, rv.mono key, rfl⟩
theorem PAt.put {p : Option Addr} {H : Hp} {n : Nat} {a : Addr} {o : HO} (h : PAt p H n) (np : p ≠ some a) : PAt p (upd H a o) n := by
  cases hp : p with
  | none => trivial
  | some b =>
    rw [hp] at h np
    obtain ⟨k, ⟨p0, p1, p2, p3, h1, h2⟩, h3⟩ := h
    exact ⟨k, ⟨p0, p1, p2, p3, by rw [upd_ne fun z => np (by rw [z])]; exact h1, h2⟩, h3⟩
theorem wipe_wipe (σ : L2.St) (vs : List Nat) : L2.wipe (L2.wipe σ vs) vs = L2.wipe σ vs := by
  have key : ∀ (vs ws : List Nat) (σ : L2.St), (∀ v ∈ vs, v ∈ ws) → L2.wipe (L2.wipe σ vs) ws = L2.wipe σ ws := by
    intro vs
    induction vs with
    | nil => intro ws σ _; rfl
    | cons v r ih =>
      intro ws σ h
      show L2.wipe ((L2.wipe σ r).set v none) ws = L2.wipe σ ws
      rw [wipe_set (h v List.mem_cons_self)]
      exact ih ws σ fun u hu => h u (List.mem_cons_of_mem _ hu)
  exact key vs vs σ fun _ h => h
theorem re_lc {wi : TI} {g : TG} {tt : TT} {te : TE} {vs : List Nat} {I : TIx} {pt : Pat} {c : TBx} {e : TX} (hi : RI C Z wi I) (hg : RG C g pt) (hs : ∀ i ∈ pt.slots, i ∈ vs) (hc : ∀ Z, RT C Z tt c) (he : ∀ Z, RE C Z te e) :
    RE C Z (tLc wi g tt te vs) (tlLc I pt c e vs) := by
  intro G Γ σ H n Q R M h q
  refine hi G Γ σ H n _ _ M h fun J H1 n1 ds gs b e1 p1 wok gok _ ⟨few, r1⟩ => ?_
  intro Dn nD
  have M1 := M.bt e1 p1
  have npD : Z.p ≠ some Dn := fun z => by
    obtain ⟨o, ho⟩ := p1.at z
    rw [nD] at ho
    cases ho
  obtain ⟨Gd, Y, w, hG, hY⟩ := wok
  let W : Addr → Prop := fun a => Ws Z Γ σ a ∨ a = Dn
  have pw : ∀ a, Z.p = some a → W a := fun a z => .inl (Ws.pw z)
  -- what stays known
  have known : ∀ {H' : Hp} {k : Nat} {l : List V}, Bt Z.p H1 H' → PAt Z.p H' k → H' Dn = some (.lst l) → ∀ a, W a → ∃ o, H' a = some o := fun {H' k l} b pa hD a wa => wa.elim (fun z => M1.dom1 b pa a z) fun z => ⟨_, z ▸ hD⟩
  have views : ∀ {H' : Hp}, Bt Z.p H1 H' → ∀ g ∈ gs, View Z.p C W H' g.2.d g.1 := fun {H'} b g hg => (((gok g hg).fresh nD fun a z => z).bt pw b).view
  refine lc_it w (fun i H' => ∃ (acc : List D) (l : List V) (k : Nat), Bt Z.p H1 H' ∧ PAt Z.p H' k ∧ H' Dn = some (.lst l) ∧ RepL Z.p C W H' acc l ∧ acc.length ≤ i ∧ lcF pt c e (wipeG (borG Γ) vs) (ds.drop i) acc k fun out n2 => R (.new (.lst out)) n2) ?_ ?_ ?_ ?_
  · exact ⟨[], [], n1, .same (same_upd nD), p1.same (same_upd nD), upd_same, rfl, Nat.le.refl, r1⟩
  · rintro i H' _ ⟨acc, l, k, b, _⟩
    exact hG W H' (views b)
  · rintro i x H2 H3 hi ⟨acc, l, k, b2, pa2, hD2, ra, la, r2⟩ y
    obtain ⟨s3, d, hd, rd⟩ := hY W i H2 x H3 (known b2 pa2 hD2) (views b2) hi y
    rw [drop_cons hd] at r2
    unfold lcF at r2
    have b3 := b2.trans (.same s3)
    have pa3 := pa2.same s3
    have hD3 := s3 _ _ hD2
    have ra3 := ra.mono (W' := W) fun c o nc h => ⟨nc, s3 _ _ h⟩
    have MW := ((M1.within (W := W) nD b3 pa3 (fun a => Iff.rfl) (known b3 pa3 hD3) pw)).wipe vs
    split at r2
    · next Γ' eb =>
      have nn := (noNew_bor (Γ := Γ)).wipe vs
      have nn' := nn.bind eb
      refine hg _ [] _ _ H3 k d x Γ' _ MW (rd.mono fun c o nc h => ⟨fun z => nc (nn.ws c z), h⟩) eb fun σ2 M2 hw => ⟨?_, ?_⟩
      · rw [hw vs hs]
        exact wipe_wipe σ vs
      refine hc _ [] Γ' σ2 H3 k _ _ M2 r2 fun bb H4 n4 b4 pa4 r4 => ?_
      cases bb with
      | false => exact iteF ⟨acc, l, n4, b3.trans b4, pa4, b4 _ _ npD hD3, ra3.mono (keepB pw b4), by omega, r4⟩
      | true =>
        refine iteT (he _ [] Γ' σ2 H4 n4 _ _ (M2.bt b4 pa4) r4 fun v H5 rv n5 b5 pa5 x5 ⟨st, r5⟩ => ?_)
        have rep := x5.rep (fun a w => (M2.bt b4 pa4).wdom w) st
        have rep' : Rep Z.p C W H5 rv.d v := rep.mono fun c o nc h => ⟨fun z => nc (.inl z), h⟩
        have b35 := b4.trans b5
        obtain ⟨g1, g2⟩ := put_next pw npD (.inr rfl) hD3 b35 ra3 rep'
        refine ⟨l, g1, by rw [ra.len]; exact small6 (by omega), acc ++ [rv.d], l ++ [v], n5, fun c o nc h => ?_, pa5.put npD, upd_same, g2, by simp; omega, r5⟩
        rw [upd_ne fun z => by rw [z, nD] at h; cases h]
        exact (b3.trans b35) c o nc h
    · exact r2.elim
  · rintro H2 ⟨acc, l, k, b2, pa2, hD2, ra, la, r2⟩
    rw [List.drop_length] at r2
    exact q _ H2 (.new (.lst acc)) k (e1.trans b2) pa2 ⟨Dn, rfl, e1.free (fun a z => p1.at z) nD, l, hD2, ra⟩ r2
end
end TL

-- TL7
set_option Elab.async false
set_option linter.all false
set_option maxRecDepth 100000
set_option maxHeartbeats 4100000
/-! TL7: statements; defs -/
namespace TL
open L2 PyProof.Rows PySem PySem.Spec TS RZ
structure TEn where
  nx : Gm → Nat → Prop
  rt : Rv → Nat → Prop
  bk : Gm → Nat → Prop := fun _ _ => False
  ct : Gm → Nat → Prop := fun _ _ => False
abbrev TSt := TEn → Gm → Nat → Prop
/-- what is wanted behind, told both ways -/
structure Lk (C : Addr) (Z : Zx) (G : List (V × Rv)) (E : TEn) (F : Ends) : Prop where
  nx : ∀ Γ σ H n, Mt C Z G Γ σ H n → E.nx Γ n → F.nx σ H
  rt : ∀ v H r n, Bt Z.p Z.H0 H → PAt Z.p H n → sto r = true → XOk C Z Z.W0 Z.H0 H r v → E.rt r n → F.rt v H
  bk : ∀ Γ σ H n, Mt C Z G Γ σ H n → E.bk Γ n → F.bk σ H
  ct : ∀ Γ σ H n, Mt C Z G Γ σ H n → E.ct Γ n → F.ct σ H
def RS (C : Addr) (t : TS) (T : TSt) : Prop := ∀ (Z : Zx) (G : List (V × Rv)) (Γ : Gm) (σ : L2.St) (H : Hp) (n : Nat) (E : TEn) (F : Ends), Mt C Z G Γ σ H n → Lk C Z G E F → T E Γ n → t F σ H
section
variable {C : Addr} {K : PySem.W.Frag}
def tlNx : TSt := fun E Γ n => E.nx Γ n
def tlSq (T U : TSt) : TSt := fun E Γ n => T { E with nx := U E } Γ n
def tlBk : TSt := fun E Γ n => E.bk Γ n
def tlCt : TSt := fun E Γ n => E.ct Γ n
def tlNever : TSt := fun _ _ _ => False
theorem rs_nx : RS C tNext tlNx := fun Z G Γ σ H n E F M L h => L.nx Γ σ H n M h
theorem rs_bk : RS C tBreak tlBk := fun Z G Γ σ H n E F M L h => L.bk Γ σ H n M h
theorem rs_ct : RS C tCont tlCt := fun Z G Γ σ H n E F M L h => L.ct Γ σ H n M h
theorem rs_never : RS C tNever tlNever := fun Z G Γ σ H n E F M L h => h.elim
theorem rs_sq {t u : TS} {T U : TSt} (h1 : RS C t T) (h2 : RS C u U) : RS C (tSeq t u) (tlSq T U) := fun Z G Γ σ H n E F M L h =>
  h1 Z G Γ σ H n { E with nx := U E } { F with nx := u F } M ⟨fun Γ' σ' H' n' M' h' => h2 Z G Γ' σ' H' n' E F M' L h', L.rt, L.bk, L.ct⟩ h
/-- a value goes to a slot -/
def tlSet (i : Nat) (T : TX) : TSt := fun E Γ n => T Γ n fun r n1 => match r with
  | .val d => E.nx (Γ.set i (some (.val d))) n1
  | .new d => E.nx (Γ.set i (some (.new d))) n1
  | _ => False
theorem rs_set {t : TE} {T : TX} {i : Nat} (h : ∀ Z, RE C Z t T) : RS C (tAsg t (gName i)) (tlSet i T) := by
  intro Z G Γ σ H n E F M L h1
  refine h Z G Γ σ H n _ _ M h1 fun v H1 r n1 e1 p1 x1 r1 => ?_
  match r, x1, r1 with
  | .val d, x1, r1 => exact L.nx _ _ H1 n1 ((M.bt e1 p1).set_val x1) r1
  | .new d, ⟨a, ea, na, ro⟩, r1 =>
    subst ea
    exact L.nx _ _ H1 n1 (M.set_new e1 p1 na ro) r1
/-- several names from one tuple or list -/
def tlUnp (is : List Nat) (T : TX) : TSt := fun E Γ n => T Γ n fun r n1 => match r.d with
  | .lst ds => ds.length = is.length ∧ E.nx (setAll is ds Γ) n1
  | .tup ds => ds.length = is.length ∧ E.nx (setAll is ds Γ) n1
  | _ => False
theorem rs_un {t : TE} {T : TX} {is : List Nat} {m : Nat} (hm : m = is.length) (h : ∀ Z, RE C Z t T) : RS C (tAsg t (gUn K m (gNms is))) (tlUnp is T) := by
  subst hm
  intro Z G Γ σ H n E F M L h1
  refine h Z G Γ σ H n _ _ M h1 fun v H1 r n1 e1 p1 x1 r1 => ?_
  have vw := x1.view fun a h => Z.papart M.pdom h
  cases hd : r.d with
  | lst ds =>
    rw [hd] at r1 vw
    obtain ⟨a, vs, rfl, ha, rr⟩ := vw.lst
    exact .inr ⟨a, vs, rfl, SqL.of ha, by rw [rr.len, r1.1], rgs_nms ds vs Z G Γ σ H1 n1 _ (M.bt e1 p1) rr r1.1 fun σ' M' _ => L.nx _ _ H1 n1 M' r1.2⟩
  | tup ds =>
    rw [hd] at r1 vw
    obtain ⟨a, vs, rfl, ha, rr⟩ := vw.tup
    exact .inl ⟨a, vs, rfl, SqT.of ha, by rw [rr.len, r1.1], rgs_nms ds vs Z G Γ σ H1 n1 _ (M.bt e1 p1) rr r1.1 fun σ' M' _ => L.nx _ _ H1 n1 M' r1.2⟩
  | _ => rw [hd] at r1; exact False.elim r1
/-- a, b = x, y: each into its own slot -/
def tlSto2 (i j : Nat) (d : Rv) (s : Rv) (E : TEn) (Γ : Gm) (n : Nat) : Prop := match s with
  | .val e => E.nx ((Γ.set i (some d)).set j (some (.val e))) n
  | .new e => E.nx ((Γ.set i (some d)).set j (some (.new e))) n
  | _ => False
def tlPar (i j : Nat) (T U : TX) : TSt := fun E Γ n => T Γ n fun r n1 => match r with
  | .val d => U Γ n1 fun s n2 => tlSto2 i j (.val d) s E Γ n2
  | .new d => U (borG Γ) n1 fun s n2 => tlSto2 i j (.new d) s E Γ n2
  | _ => False
theorem rs_par {t u : TE} {T U : TX} {i j : Nat} (h : ∀ Z, RE C Z t T) (h2 : ∀ Z, RE C Z u U) : RS C (tPar i j (tCons t (tCons u tNil))) (tlPar i j T U) := by
  intro Z G Γ σ H n E F M L h1
  refine h Z G Γ σ H n _ _ M h1 fun v H1 r n1 e1 p1 x1 r1 => ?_
  have M1 := M.bt e1 p1
  match r, x1, r1 with
  | .val d, x1, r1 =>
    refine h2 Z G Γ σ H1 n1 _ _ M1 r1 fun u H2 s n2 e2 p2 x2 r2 => ⟨v, u, rfl, ?_⟩
    have MV := M1.set_val (i := i) x1
    have sub : ∀ a, Ws Z (Γ.set i (some (.val d))) (σ.set i (some v)) a → Ws Z Γ σ a := fun a h => h.elim .inl fun ⟨j, h⟩ => .inr ⟨j, h.of_set.1⟩
    match s, x2, r2 with
    | .val e, x2, r2 => exact L.nx _ _ H2 n2 ((MV.bt e2 p2).set_val (Rep.mono (fun c o nc h => ⟨fun z => nc (sub c z), h⟩) x2)) r2
    | .new e, ⟨b, eb, nb, ro⟩, r2 =>
      subst eb
      exact L.nx _ _ H2 n2 (MV.set_new e2 p2 nb (ro.mono (fun c o nc h => ⟨fun z => nc (z.imp (sub c) id), h⟩) fun _ h => h)) r2
  | .new d, ⟨a, ea, na, ro⟩, r1 =>
    subst ea
    obtain ⟨oa, ha⟩ := ro.at
    have MN := M.set_new (i := i) e1 p1 na ro
    have pw : ∀ b, Z.p = some b → (Ws Z Γ σ b ∨ b = a) := fun b z => .inl (Ws.pw z)
    have dom : ∀ b, (Ws Z Γ σ b ∨ b = a) → ∃ o, H1 b = some o := fun b w => w.elim (fun z => M1.wdom z) fun z => ⟨oa, by rw [z]; exact ha⟩
    have MW := M.within (Dn := a) na e1 p1 (W := fun b => Ws Z Γ σ b ∨ b = a) (fun b => Iff.rfl) dom pw
    refine h2 _ [] _ σ H1 n1 _ _ MW r1 fun u H2 s n2 e2 p2 x2 r2 => ⟨_, u, rfl, ?_⟩
    have sub : ∀ c, Ws Z (Γ.set i (some (.new d))) (σ.set i (some (.ref a))) c → Ws (Zx.at Z.p (fun b => Ws Z Γ σ b ∨ b = a) H1 dom pw) (borG Γ) σ c := fun c h =>
      .inl (h.elim (fun z => .inl (.inl z)) fun ⟨k, h⟩ => h.of_setN.elim (fun z => .inr z.2) fun z => .inl (.inr ⟨k, z.1⟩))
    match s, x2, r2 with
    | .val e, x2, r2 => exact L.nx _ _ H2 n2 ((MN.bt e2 p2).set_val (Rep.mono (fun c o nc h => ⟨fun z => nc (sub c z), h⟩) x2)) r2
    | .new e, ⟨b, eb, nb, ro2⟩, r2 =>
      subst eb
      exact L.nx _ _ H2 n2 (MN.set_new e2 p2 nb (RepO.mono (fun c o nc h => ⟨fun z => nc (z.imp (sub c) id), h⟩) (fun _ h => h) ro2)) r2
/-! ### return, tests, walks -/
def tlRet (T : TX) : TSt := fun E Γ n => T Γ n fun r n1 => sto r = true ∧ E.rt r n1
/-- an own object is given back -/
def tlRetV (i : Nat) : TSt := fun E Γ n => match Γ[i]? with
  | some (some (.new d)) => E.rt (.new d) n
  | some (some (.val d)) => E.rt (.val d) n
  | _ => False
def tlRetN : TSt := fun E _ n => E.rt (.val .non) n
theorem XOk.ret {Z : Zx} {Γ : Gm} {σ : L2.St} {H0 H H' : Hp} (h0 : ∀ a, H a = none → H0 a = none) : ∀ {r : Rv} {v : V}, sto r = true → XOk C Z (Ws Z Γ σ) H H' r v → XOk C Z Z.W0 H0 H' r v
  | .val d, _, _, h => Rep.mono (fun c o nc h => ⟨fun z => nc (.inl z), h⟩) h
  | .new d, _, _, ⟨a, e, na, r⟩ => ⟨a, e, h0 a na, r.mono (fun c o nc h => ⟨fun z => nc (z.imp .inl id), h⟩) fun _ h => h⟩
theorem rs_ret {t : TE} {T : TX} (h : ∀ Z, RE C Z t T) : RS C (tRet t) (tlRet T) := by
  intro Z G Γ σ H n E F M L h1
  refine h Z G Γ σ H n _ _ M h1 fun v H1 r n1 e1 p1 x1 ⟨st, r1⟩ => ?_
  exact L.rt v H1 r n1 (M.fr.trans e1) p1 st (x1.ret (fun a na => M.fr.free M.pdom na) st) r1
theorem rs_retV {i : Nat} : RS C (tRet (tVar i)) (tlRetV i) := by
  intro Z G Γ σ H n E F M L h1
  unfold tlRetV at h1
  split at h1
  · next d e =>
    obtain ⟨v, hv, a, rfl, h0, r⟩ := M.sl i _ e
    have ow : Ow Γ σ i a := ⟨⟨d, e⟩, hv⟩
    exact ⟨_, hv, L.rt _ H (.new d) n M.fr M.pa rfl ⟨a, rfl, h0, r.mono (fun c o nc h => ⟨fun z => nc (z.elim .inl fun q => by rw [q]; exact .inr ⟨i, ow⟩), h⟩) fun _ h => h⟩ h1⟩
  · next d e =>
    obtain ⟨v, hv, r⟩ := M.sl i _ e
    exact ⟨_, hv, L.rt _ H (.val d) n M.fr M.pa rfl (Rep.mono (fun c o nc h => ⟨fun z => nc (.inl z), h⟩) r) h1⟩
  · exact h1.elim
theorem rs_retN : RS C tRetN tlRetN := fun Z G Γ σ H n E F M L h => L.rt .non H (.val .non) n M.fr M.pa rfl (rfl : V.non = V.non) h
def tlIf (c : TBx) (T U : TSt) : TSt := fun E Γ n => c Γ n fun b n1 => if b = true then T E Γ n1 else U E Γ n1
theorem rs_if {c : TT} {t u : TS} {Tc : TBx} {T U : TSt} (hc : ∀ Z, RT C Z c Tc) (h1 : RS C t T) (h2 : RS C u U) : RS C (tIfS c t u) (tlIf Tc T U) := by
  intro Z G Γ σ H n E F M L h
  refine hc Z G Γ σ H n _ _ M h fun b H1 n1 e1 p1 r1 => ?_
  have M1 := M.bt e1 p1
  cases b with
  | true => exact iteT (h1 Z G Γ σ H1 n1 E F M1 L r1)
  | false => exact iteF (h2 Z G Γ σ H1 n1 E F M1 L r1)
def tlEx (T : TX) : TSt := fun E Γ n => T Γ n fun _ n1 => E.nx Γ n1
theorem rs_ex {t : TE} {T : TX} (h : ∀ Z, RE C Z t T) : RS C (tDrop t) (tlEx T) := by
  intro Z G Γ σ H n E F M L h1
  exact h Z G Γ σ H n _ _ M h1 fun v H1 r n1 e1 p1 x1 r1 => L.nx Γ σ H1 n1 (M.bt e1 p1) r1
/-- ahead of a statement an own slot may be given free -/
def relG (i : Nat) (Γ : Gm) : Gm := match Γ[i]? with
  | some (some (.new d)) => Γ.set i (some (.val d))
  | _ => Γ
def tlRel (i : Nat) (T : TSt) : TSt := fun E Γ n => T E (relG i Γ) n
theorem rs_rel {t : TS} {T : TSt} (i : Nat) (h : RS C t T) : RS C t (tlRel i T) := by
  intro Z G Γ σ H n E F M L h1
  unfold tlRel relG at h1
  split at h1
  · next d e => exact h Z G _ σ H n E F (M.release e) L h1
  · exact h Z G Γ σ H n E F M L h1
/-- a walk, turn by turn -/
def forF (pt : Pat) (T : TSt) (E : TEn) : List D → Gm → Nat → Prop
  | [], Γ, n => E.nx Γ n
  | d :: r, Γ, n => match bindP pt d Γ with
    | some Γ' => T { nx := forF pt T E r, ct := forF pt T E r, bk := E.nx, rt := E.rt } Γ' n
    | none => False
def tlFor (I : TIx) (pt : Pat) (T : TSt) : TSt := fun E Γ n => I Γ n fun b ds n1 => 1 ≤ b ∧ forF pt T E ds Γ n1
theorem GOk.sok {Z : Zx} {W : Addr → Prop} {H : Hp} : ∀ {r : Rv} {v : V}, 1 ≤ rank r → GOk C Z W H r v → SOk C Z W H r v ∧ ∀ d, r ≠ .new d
  | .val d, _, _, h => ⟨h, fun e z => by cases z⟩
  | .bor d, _, _, h => ⟨h, fun e z => by cases z⟩
  | .tmp d, _, l, _ => (Nat.not_succ_le_zero 0 l).elim
theorem SOk.view {Z : Zx} {W : Addr → Prop} {H : Hp} (own : ∀ a, Z.H0 a = none → Z.p ≠ some a) : ∀ {r : Rv} {v : V}, SOk C Z W H r v → View Z.p C W H r.d v
  | .val d, _, h => .inl h
  | .new d, _, ⟨a, e, h0, r⟩ => .inr ⟨a, e, own a h0, r⟩
  | .bor d, _, .inl h => .inl h
  | .bor d, _, .inr ⟨a, o, e, na, _, r⟩ => .inr ⟨a, e, na, r⟩
theorem rs_for {wi : TI} {g : TG} {tb : TS} {I : TIx} {pt : Pat} {T : TSt} (hi : ∀ Z, RI C Z wi I) (hg : RG C g pt) (hb : RS C tb T) : RS C (tFor wi g tb) (tlFor I pt T) := by
  intro Z G Γ σ H n E F M L h
  refine hi Z G Γ σ H n _ _ M h fun J H1 n1 ds gs b e1 p1 wok gok last ⟨eb, r1⟩ => ?_
  have lst : ∀ g ∈ gs, 1 ≤ rank g.2 := fun g hg => Nat.le_trans eb (last g hg)
  obtain ⟨Gd, Y, w, hG, hY⟩ := wok
  have M1 := M.bt e1 p1
  have M2 : Mt C Z (gs ++ G) Γ σ H1 n1 := ⟨M1.len, M1.fr, M1.pa, M1.sl, fun g hg => (List.mem_append.1 hg).elim (fun z => (gok g z).sok (lst g z)) (M1.gs g), M1.inj⟩
  have views : ∀ {Γ' : Gm} {σ' : L2.St} {H' : Hp} {k : Nat}, Mt C Z (gs ++ G) Γ' σ' H' k → ∀ g ∈ gs, View Z.p C (Ws Z Γ' σ') H' g.2.d g.1 := fun M' g hg => (M'.gs g (List.mem_append_left _ hg)).1.view fun a => Z.apart
  have drop : ∀ {Γ' : Gm} {σ' : L2.St} {H' : Hp} {k : Nat}, Mt C Z (gs ++ G) Γ' σ' H' k → Mt C Z G Γ' σ' H' k := fun M' => ⟨M'.len, M'.fr, M'.pa, M'.sl, fun g hg => M'.gs g (List.mem_append_right _ hg), M'.inj⟩
  refine for_it w (D := F) (fun i σ' H' => ∃ (Γ' : Gm) (k : Nat), Mt C Z (gs ++ G) Γ' σ' H' k ∧ forF pt T E (ds.drop i) Γ' k) ⟨Γ, n1, M2, r1⟩ ?_ ?_ ?_
  · rintro i σ' H' _ ⟨Γ', k, M', _⟩
    exact hG _ H' (views M')
  · rintro i x σ' H' H3 hi ⟨Γ', k, M', r2⟩ y
    obtain ⟨s3, d, hd, rd⟩ := hY _ i H' x H3 (fun a w => M'.wdom w) (views M') hi y
    rw [drop_cons hd] at r2
    unfold forF at r2
    split at r2
    · next Γ2 eb2 =>
      refine hg Z (gs ++ G) Γ' σ' H3 k d x Γ2 _ (M'.same s3) rd eb2 fun σ2 M3 _ => ?_
      refine hb Z (gs ++ G) Γ2 σ2 H3 k { nx := forF pt T E (ds.drop (i + 1)), ct := forF pt T E (ds.drop (i + 1)), bk := E.nx, rt := E.rt } _ M3 ⟨fun Γ4 σ4 H4 k4 M4 r4 => ⟨Γ4, k4, M4, r4⟩, L.rt, fun Γ4 σ4 H4 k4 M4 r4 => L.nx Γ4 σ4 H4 k4 (drop M4) r4, fun Γ4 σ4 H4 k4 M4 r4 => ⟨Γ4, k4, M4, r4⟩⟩ r2
    · exact r2.elim
  · rintro σ' H' ⟨Γ', k, M', r2⟩
    rw [List.drop_length] at r2
    exact L.nx Γ' σ' H' k (drop M') r2
def tlWhile (c : TBx) (T : TSt) : TSt := fun E Γ n => ∃ I : Nat → Gm → Nat → Prop, (∃ m, I m Γ n) ∧ ∀ m Γ n, I m Γ n →
  c Γ n fun b n1 => if b = true then T { nx := fun Γ' n' => ∃ m', m' < m ∧ I m' Γ' n', ct := fun Γ' n' => ∃ m', m' < m ∧ I m' Γ' n', bk := E.nx, rt := E.rt } Γ n1 else E.nx Γ n1
theorem rs_while {c : TT} {tb : TS} {Tc : TBx} {T : TSt} (hc : ∀ Z, RT C Z c Tc) (hb : RS C tb T) : RS C (tWhile c tb) (tlWhile Tc T) := by
  intro Z G Γ σ H n E F M L ⟨I, ⟨m0, i0⟩, turn⟩
  refine ⟨fun m σ' H' => ∃ Γ' n', Mt C Z G Γ' σ' H' n' ∧ I m Γ' n', ⟨m0, Γ, n, M, i0⟩, ?_⟩
  rintro m σ' H' ⟨Γ', n', M', i'⟩
  refine hc Z G Γ' σ' H' n' _ _ M' (turn m Γ' n' i') fun b H1 n1 e1 p1 r1 => ?_
  have M1 := M'.bt e1 p1
  cases b with
  | true =>
    refine iteT ⟨fun σ2 H2 => ∃ m', m' < m ∧ ∃ Γ2 n2, Mt C Z G Γ2 σ2 H2 n2 ∧ I m' Γ2 n2, fun _ _ h => h, ?_⟩
    refine hb Z G Γ' σ' H1 n1 { nx := fun Γ' n' => ∃ m', m' < m ∧ I m' Γ' n', ct := fun Γ' n' => ∃ m', m' < m ∧ I m' Γ' n', bk := E.nx, rt := E.rt } _ M1 ⟨fun Γ4 σ4 H4 k4 M4 ⟨m', l, i4⟩ => ⟨m', l, Γ4, k4, M4, i4⟩, L.rt, L.nx, fun Γ4 σ4 H4 k4 M4 ⟨m', l, i4⟩ => ⟨m', l, Γ4, k4, M4, i4⟩⟩ r1
  | false => exact iteF (L.nx Γ' σ' H1 n1 M1 r1)
/-! ### own lists changed -/
/-- x.append(e) -/
def tlApp (i : Nat) (T : TX) : TSt := fun E Γ n => match Γ[i]? with
  | some (some (.new (.lst ds))) => T Γ n fun r n1 => sto r = true ∧ ds.length ≤ 1000000 ∧ E.nx (Γ.set i (some (.new (.lst (ds ++ [r.d]))))) n1
  | _ => False
theorem rs_app {i : Nat} {t : TE} {T : TX} (h : ∀ Z, RE C Z t T) : RS C (tDrop (tBM K "list" rAppend (tVar i) (tCons t tNil))) (tlApp i T) := by
  intro Z G Γ σ H n E F M L h1
  unfold tlApp at h1
  split at h1
  · next ds e =>
    obtain ⟨v, hv, a, rfl, h0, vs, ha, rr⟩ := M.sl i _ e
    refine ⟨_, hv, .inl ⟨rfl, vs, SqL.of ha⟩, ?_⟩
    refine h Z G Γ σ H n _ _ M h1 fun v H1 r n1 e1 p1 x1 ⟨st, few, r1⟩ => ?_
    have M1 := M.bt e1 p1
    have ha1 := e1 a _ (Z.apart h0) ha
    have rr1 := rr.mono (keepB (fun _ => Ws.pw) e1)
    have rep := x1.rep (fun b w => M.wdom w) st
    have wa : Ws Z Γ σ a := .inr ⟨i, ⟨⟨_, e⟩, hv⟩⟩
    have key : ∀ c o, ¬ Ws Z Γ σ c → H1 c = some o → ¬ Ws Z Γ σ c ∧ upd H1 a (.lst (vs ++ [v])) c = some o := fun c o nc h => ⟨nc, by rw [upd_ne fun z => nc (by rw [z]; exact wa)]; exact h⟩
    refine ⟨a, vs, v, rfl, rfl, ha1, by rw [rr.len]; exact small6 few, ?_⟩
    exact L.nx _ σ _ n1 (M1.mut (d' := .lst (ds ++ [r.d])) e hv ⟨_, upd_same, (rr1.mono key).app ⟨v, [], rfl, rep.mono key, rfl⟩⟩) r1
  · exact h1.elim
/-- x[k] = e -/
def tlSetIx (i : Nat) (T U : TX) : TSt := fun E Γ n => T Γ n fun r n1 => match Γ[i]? with
  | some (some (.new (.lst ds))) => U Γ n1 fun s n2 => sto r = true ∧ (match s.d with
    | .int k => ∃ j, ixN ds.length k = some j ∧ E.nx (Γ.set i (some (.new (.lst (ds.set j r.d))))) n2
    | _ => False)
  | _ => False
theorem rs_setIx {i : Nat} {t u : TE} {T U : TX} (h : ∀ Z, RE C Z t T) (h2 : ∀ Z, RE C Z u U) : RS C (tAsg t (gSub (tVar i) u rSetL)) (tlSetIx i T U) := by
  intro Z G Γ σ H n E F M L h1
  refine h Z G Γ σ H n _ _ M h1 fun v H1 r n1 e1 p1 x1 r1 => ?_
  have M1 := M.bt e1 p1
  split at r1
  · next ds e =>
    obtain ⟨w, hw, a, rfl, h0, vs, ha, rr⟩ := M.sl i _ e
    refine ⟨_, hw, ?_⟩
    refine h2 Z G Γ σ H1 n1 _ _ M1 r1 fun u H2 s n2 e2 p2 x2 ⟨st, r2⟩ => ?_
    have M2 := M1.bt e2 p2
    have vu := x2.view fun a h => Z.papart M1.pdom h
    cases hs : s.d with
    | int k =>
      rw [hs] at r2 vu
      obtain ⟨j, hj, r2⟩ := r2
      have e12 := e1.trans e2
      have ha1 := e12 a _ (Z.apart h0) ha
      have rr1 := rr.mono (keepB (fun _ => Ws.pw) e12)
      have rep := (x1.bt (fun a z => Ws.pw z) M.pdom e2).rep (fun b w => M.wdom w) st
      have wa : Ws Z Γ σ a := .inr ⟨i, ⟨⟨_, e⟩, hw⟩⟩
      have key : ∀ c o, ¬ Ws Z Γ σ c → H2 c = some o → ¬ Ws Z Γ σ c ∧ upd H2 a (.lst (vs.set j v)) c = some o := fun c o nc h => ⟨nc, by rw [upd_ne fun z => nc (by rw [z]; exact wa)]; exact h⟩
      refine ⟨a, vs, k, j, rfl, vu.int, ha1, by rw [rr.len]; exact hj, ?_⟩
      exact L.nx _ σ _ n2 (M2.mut (d' := .lst (ds.set j r.d)) e hw ⟨_, upd_same, (rr1.mono key).set j (rep.mono key)⟩) r2
    | _ => rw [hs] at r2; exact False.elim r2
  · exact r1.elim
end
end TL

-- TL8
set_option Elab.async false
set_option linter.all false
set_option maxRecDepth 100000
set_option maxHeartbeats 4100000
/-! TL8: defs and their calls; shelves; isinstance; places -/
namespace TL
open L2 PyProof.Rows PySem PySem.Spec TS RZ
section
variable {C : Addr} {K : PySem.W.Frag}
/-! ### defs -/
/-- what a def gives back -/
def ROk (C : Addr) (p : Option Addr) (W : Addr → Prop) (H H' : Hp) : Rv → V → Prop
  | .val d, v => Rep p C W H' d v
  | .new d, v => ∃ a, v = .ref a ∧ H a = none ∧ RepO p C (fun c => W c ∨ c = a) H' a d
  | _, _ => False
/-- arguments: true where the place itself may be lent -/
def ARep (C : Addr) (p : Option Addr) (W : Addr → Prop) (H : Hp) : List Bool → List D → List V → Prop
  | [], ds, vs => ds = [] ∧ vs = []
  | k :: ks, ds, vs => ∃ d dr v vr, ds = d :: dr ∧ vs = v :: vr ∧ (if k = true then View p C W H d v else Rep p C W H d v) ∧ ARep C p W H ks dr vr
/-- the promise of a def, told by trees -/
def spOf (C : Addr) (ks : List Bool) (S : ST) : Sp := fun vs H Q _ => ∃ (p : Option Addr) (W : Addr → Prop) (n : Nat) (ds : List D) (R : Rv → Nat → Prop), (∀ a, W a → ∃ o, H a = some o) ∧ (∀ a, p = some a → W a) ∧ PAt p H n ∧
  ARep C p W H ks ds vs ∧ S ds n R ∧ ∀ v H' r n', Bt p H H' → PAt p H' n' → ROk C p W H H' r v → R r n' → Q v H'
theorem ARep.len {p : Option Addr} {W : Addr → Prop} {H : Hp} : ∀ {ks : List Bool} {ds : List D} {vs : List V}, ARep C p W H ks ds vs → vs.length = ks.length ∧ ds.length = ks.length
  | [], _, _, ⟨e1, e2⟩ => by rw [e1, e2]; exact ⟨rfl, rfl⟩
  | k :: ks, _, _, ⟨d, dr, v, vr, e1, e2, _, r⟩ => by
    rw [e1, e2, List.length_cons, List.length_cons, List.length_cons, r.len.1, r.len.2]
    exact ⟨rfl, rfl⟩
def slot (k : Bool) (d : D) : Option Rv := some (if k = true then .bor d else .val d)
def slots (ks : List Bool) (ds : List D) (m : Nat) : Gm := List.zipWith slot ks ds ++ List.replicate m none
theorem ARep.get {p : Option Addr} {W : Addr → Prop} {H : Hp} : ∀ {ks : List Bool} {ds : List D} {vs : List V} {i : Nat} {r : Rv}, ARep C p W H ks ds vs → (List.zipWith slot ks ds)[i]? = some (some r) →
    ∃ v d, vs[i]? = some v ∧ ((r = .val d ∧ Rep p C W H d v) ∨ (r = .bor d ∧ View p C W H d v))
  | [], _, _, i, r, _, e => by simp at e
  | k :: ks, _, _, i, r, ⟨d, dr, v, vr, e1, e2, h, q⟩, e => by
    subst e1 e2
    cases i with
    | zero =>
      have e : slot k d = some r := by simpa using e
      refine ⟨v, d, rfl, ?_⟩
      cases k with
      | true => exact .inr ⟨(Option.some.inj e).symm, h⟩
      | false => exact .inl ⟨(Option.some.inj e).symm, h⟩
    | succ i =>
      obtain ⟨u, d2, h1, h2⟩ := q.get (i := i) (r := r) (by simpa using e)
      exact ⟨u, d2, by simpa using h1, h2⟩
theorem slots_old {ks : List Bool} {ds : List D} {m i : Nat} {r : Rv} (e : (slots ks ds m)[i]? = some (some r)) : (List.zipWith slot ks ds)[i]? = some (some r) := by
  unfold slots at e
  rw [List.getElem?_append] at e
  split at e
  · exact e
  · rw [List.getElem?_replicate] at e
    split at e <;> cases e
theorem slot_not {k : Bool} {d e : D} : slot k d ≠ some (.new e) := by
  unfold slot
  cases k <;> intro h <;> cases h
theorem slots_not {ks : List Bool} {ds : List D} {m : Nat} : NoNew (slots ks ds m) := by
  intro i d e
  have e := slots_old e
  rw [List.getElem?_zipWith] at e
  split at e
  · exact slot_not (Option.some.inj e)
  · cases e
/-- the start of a def's body -/
theorem mt_start {p : Option Addr} {W : Addr → Prop} {H : Hp} {n : Nat} {ks : List Bool} {ds : List D} {vs : List V} {N : List Str} (dom : ∀ a, W a → ∃ o, H a = some o) (pw : ∀ a, p = some a → W a) (pa : PAt p H n) (ar : ARep C p W H ks ds vs) :
    Mt C (Zx.at p W H dom pw) [] (slots ks ds (N.length - ks.length)) (L2.start N vs) H n := by
  have nn : NoNew (slots ks ds (N.length - ks.length)) := slots_not
  refine ⟨?_, .refl, pa, fun i r hi => ?_, fun g hg => (nomatch hg), fun i j a h => absurd h.1.choose_spec (nn i _)⟩
  · unfold L2.start slots
    simp [ar.len.1, ar.len.2]
  · have hi := slots_old hi
    obtain ⟨v, d, hv, h⟩ := ar.get hi
    have ws : ∀ a, Ws (Zx.at p W H dom pw) (slots ks ds (N.length - ks.length)) (L2.start N vs) a → W a := nn.ws
    have key : ∀ c o, ¬ W c → H c = some o → ¬ Ws (Zx.at p W H dom pw) (slots ks ds (N.length - ks.length)) (L2.start N vs) c ∧ H c = some o := fun c o nc h => ⟨fun z => nc (ws c z), h⟩
    have lt := (List.getElem?_eq_some_iff.1 hv).1
    refine ⟨v, ?_, ?_⟩
    · unfold L2.start
      rw [List.getElem?_append_left (by rw [List.length_map]; exact lt), List.getElem?_map, hv]
      rfl
    · rcases h with ⟨rfl, h⟩ | ⟨rfl, h | ⟨a, e, na, h⟩⟩
      · exact Rep.mono key h
      · exact .inl (Rep.mono key h)
      · obtain ⟨o, ho⟩ := h.at
        exact .inr ⟨a, o, e, na, ho, h.mono key fun _ h => h⟩
/-- fewer draws may be left over -/
def dn (R : Rv → Nat → Prop) : Rv → Nat → Prop := fun r n => ∃ m, m ≤ n ∧ R r m
theorem dn_of {R : Rv → Nat → Prop} {r : Rv} {n : Nat} (h : R r n) : dn R r n := ⟨n, Nat.le.refl, h⟩
/-- what is wanted behind a body -/
def ends (R : Rv → Nat → Prop) : TEn := { nx := fun _ n => dn R (.val .non) n, rt := dn R }
theorem bridge {t : TS} {T : TSt} {ks : List Bool} {S : ST} {N : List Str} {vs : List V} {H : Hp} {Q : VK} {E : XK} (rs : RS C t T)
    (tree : ∀ ds n R, S ds n R → T (ends R) (slots ks ds (N.length - ks.length)) n) (h : spOf C ks S vs H Q E) : t { nx := fun _ H' => Q .non H', rt := Q } (L2.start N vs) H := by
  obtain ⟨p, W, n, ds, R, dom, pw, pa, ar, hS, q⟩ := h
  refine rs (Zx.at p W H dom pw) [] _ _ H n (ends R) _ (mt_start dom pw pa ar) ⟨fun Γ σ H' n' M ⟨m, l, h⟩ => ?_, fun v H' r n' b pa' st x ⟨m, l, h⟩ => ?_, fun Γ σ H' n' M h => h, fun Γ σ H' n' M h => h⟩ (tree ds n R hS)
  · exact q .non H' (.val .non) m M.fr (M.pa.le l) (rfl : V.non = V.non) h
  · refine q v H' r m b (pa'.le l) ?_ h
    match r, st, x with
    | .val d, _, x => exact x
    | .new d, _, x => exact x
section
variable {P : Program} {w : World} {mg : Str → Option Value} {base : Heap}
/-- a def keeps its promise: its body's term, its trees' reading -/
theorem def_ok {x q : Str} {st : Stmt} {f : Addr} {fd : FuncData} {N ps : List Str} {k : Nat} {ks : List Bool} {S : ST} {T : TSt} (F : Fun K x q st f fd) (sc : FnScope N ps (defScope st)) (hk : ks.length = ps.length)
    (body : ∀ (cdv : Value) (A : Around) (outer : List Env) (s : Shared) (H : Hp) (E : XK), Room k (A.deeper (envOfC q (defScope st) s.heap.objs.size f cdv)) → ∃ t, PSs (cxOf CX0 P w K mg base N q (defScope st) f cdv A outer s H E).nox (defBody st) t ∧ RS C t T)
    (tree : ∀ ds n R, S ds n R → T (ends R) (slots ks ds (N.length - ks.length)) n) : FnOk P w K mg base CX0 (k + 1) f fd ps (spOf C ks S) := by
  refine F.ok sc (fun vs H Q E h => ?_) (fun cdv A outer s H vs Q E hr h => ?_)
  · obtain ⟨p, W, n, ds, R, _, _, _, ar, _⟩ := h
    rw [ar.len.1, hk]
  · obtain ⟨t, h1, h2⟩ := body cdv A outer s H E hr
    exact ⟨t, h1, bridge h2 tree h⟩
/-- a def of the module's that keeps its promise -/
def Has (P : Program) (w : World) (K : PySem.W.Frag) (mg : Str → Option Value) (base : Heap) (C : Addr) (k : Nat) (x : Str) (ps : List Str) (ks : List Bool) (S : ST) : Prop :=
  ∃ f fd, FnOk P w K mg base CX0 k f fd ps (spOf C ks S) ∧ mg x = some (.ref f) ∧ PySem.W.keepIn K (.ref f) = true ∧ Binds K fd ps []
end
/-! ### calls -/
def kOk : List Bool → List Rv → Bool
  | [], [] => true
  | k :: ks, r :: rs => (k || sto r) && kOk ks rs
  | _, _ => false
def tlCall (ks : List Bool) (S : ST) (T : TXs) : TX := fun Γ n R => T Γ n fun rs n1 => kOk ks rs = true ∧ S (rs.map Rv.d) n1 R
theorem XOks.args {Z : Zx} {W : Addr → Prop} {H H1 : Hp} (dm : ∀ a, W a → ∃ o, H a = some o) (own : ∀ a, H a = none → Z.p ≠ some a) : ∀ {ks : List Bool} {rs : List Rv} {vs : List V}, kOk ks rs = true → XOks C Z W H H1 rs vs → ARep C Z.p W H1 ks (rs.map Rv.d) vs
  | [], [], _, _, e => ⟨rfl, e⟩
  | k :: ks, r :: rs, _, h, ⟨v, vr, e, x, q⟩ => by
    rw [kOk, Bool.and_eq_true, Bool.or_eq_true] at h
    refine ⟨r.d, rs.map Rv.d, v, vr, rfl, e, ?_, q.args dm own h.2⟩
    cases k with
    | true => exact x.view own
    | false => exact x.rep dm (h.1.resolve_left (by simp))
theorem ROk.xok {Z : Zx} {W : Addr → Prop} {H H1 H2 : Hp} (e : Bt Z.p H H1) (dm : ∀ a, Z.p = some a → ∃ o, H1 a = some o) : ∀ {r : Rv} {v : V}, ROk C Z.p W H1 H2 r v → XOk C Z W H H2 r v
  | .val d, _, h => h
  | .new d, _, ⟨a, ea, na, r⟩ => ⟨a, ea, e.free dm na, r⟩
theorem re_call {Z : Zx} {ks : List Bool} {S : ST} {ta : TA} {T : TXs} {E : XK} (ha : RA C Z ta T) : RE C Z (tCall (spOf C ks S) [] E ta) (tlCall ks S T) := by
  intro G Γ σ H n Q R M h q
  refine ha G Γ σ H n _ _ M h fun vs H1 rs n1 e1 p1 x1 ⟨k1, h1⟩ => ?_
  have M1 := M.bt e1 p1
  rw [List.append_nil]
  exact ⟨Z.p, Ws Z Γ σ, n1, rs.map Rv.d, R, fun a w => M1.wdom w, fun a z => Ws.pw z, p1, x1.args (fun a w => M.wdom w) (fun a h => Z.papart M.pdom h) k1, h1, fun v H' r n' b pa ro hr => q v H' r n' (e1.trans b) pa (ro.xok e1 M1.pdom) hr⟩
/-- o.m(..) of a shelf -/
def tlMeth (ks : List Bool) (S : ST) (T : TX) (U : TXs) : TX := fun Γ n R => T Γ n fun r n1 => match r.d with
  | .sh _ _ => U Γ n1 fun rs n2 => kOk ks (r :: rs) = true ∧ S (r.d :: rs.map Rv.d) n2 R
  | _ => False
theorem re_meth {Z : Zx} {ks : List Bool} {S : ST} {to : TE} {ta : TA} {T : TX} {U : TXs} {E : XK} {m : Str} (hm1 : (m == "_catalogue") = false) (hm2 : (m == "_row") = false) (ho : RE C Z to T) (ha : RA C Z ta U) : RE C Z (tMeth C m (spOf C ks S) [] E to ta) (tlMeth ks S T U) := by
  intro G Γ σ H n Q R M h q
  refine ho G Γ σ H n _ _ M h fun v H1 r n1 e1 p1 x1 h1 => ?_
  have M1 := M.bt e1 p1
  cases hd : r.d with
  | sh xs ys =>
    have vw := x1.view fun a h => Z.papart M.pdom h
    rw [hd] at h1 vw
    obtain ⟨a, dx, c, rw_, rfl, ha1, _, _⟩ := vw.sh
    refine ⟨a, dx, _, rfl, ha1, ?_, ?_⟩
    · simp [List.lookup, hm1, hm2]
    refine ha G Γ σ H1 n1 _ _ M1 h1 fun vs H2 rs n2 e2 p2 x2 ⟨k2, h2⟩ => ?_
    have M2 := M1.bt e2 p2
    rw [List.append_nil]
    have xx : XOks C Z (Ws Z Γ σ) H H2 (r :: rs) (.ref a :: vs) := ⟨_, _, rfl, x1.bt (fun a z => Ws.pw z) M.pdom e2, x2.up e1 M1.pdom⟩
    refine ⟨Z.p, Ws Z Γ σ, n2, (r :: rs).map Rv.d, R, fun a w => M2.wdom w, fun a z => Ws.pw z, p2, xx.args (fun a w => M.wdom w) (fun a h => Z.papart M.pdom h) k2, ?_, fun v H' r n' b pa ro hr => q v H' r n' ((e1.trans e2).trans b) pa (ro.xok (e1.trans e2) M2.pdom) hr⟩
    rw [List.map_cons, hd]
    exact h2
  | _ => rw [hd] at h1; exact False.elim h1
/-! ### books, catalogues, rows -/
def isWord (z : Str) : Prop := 1 ≤ z.length ∧ z.length ≤ 8 ∧ ∀ c ∈ z.cps.toList, 97 ≤ c ∧ c ≤ 122
/-- a list of unlike books -/
def Cat (xs : List Str) : Prop := xs ≠ [] ∧ xs.length ≤ 100 ∧ (∀ x ∈ xs, isWord x) ∧ xs.Nodup
/-- a row of a catalogue -/
def Row (xs ys : List Str) : Prop := (∀ y ∈ ys, y ∈ xs) ∧ ys.Nodup ∧ ys.length = xs.length
/-- a shelf at a whose lists were not there at H -/
def ShNew (H H' : Hp) (C a : Addr) (xs ys : List Str) : Prop := ∃ dx c r, H' a = some (.ins C dx [("_catalogue", .ref c), ("_row", .ref r)]) ∧ H' c = some (.lst (xs.map V.str)) ∧ H' r = some (.lst (ys.map V.str)) ∧ H c = none ∧ H r = none
def spInit (C : Addr) : Sp := fun vs H Q _ => ∃ (a dx l m : Addr) (xs ys : List Str), vs = [.ref a, .ref l, .ref m] ∧ H a = some (.ins C dx []) ∧ H dx = some (.own a) ∧ H l = some (.lst (xs.map V.str)) ∧ H m = some (.lst (ys.map V.str)) ∧ Cat xs ∧ Row xs ys ∧
  ∀ H', (∀ b o, b ≠ a → H b = some o → H' b = some o) → ShNew H H' C a xs ys → Q .non H'
/-- Shelf(catalogue, row) -/
def tlShelf (T U : TX) : TX := fun Γ n R => T Γ n fun r n1 => U Γ n1 fun s n2 => ∃ xs ys, r.d = dS xs ∧ s.d = dS ys ∧ Cat xs ∧ Row xs ys ∧ R (.new (.sh xs ys)) n2
theorem re_shelf {Z : Zx} {t u : TE} {T U : TX} {E : XK} (h1 : RE C Z t T) (h2 : RE C Z u U) : RE C Z (tMake C (spInit C) [] E (tCons t (tCons u tNil))) (tlShelf T U) := by
  intro G Γ σ H n Q R M h q
  refine h1 G Γ σ H n _ _ M h fun v H1 r n1 e1 p1 x1 r1 => ?_
  have M1 := M.bt e1 p1
  refine h2 G Γ σ H1 n1 _ _ M1 r1 fun u H2 s n2 e2 p2 x2 ⟨xs, ys, er, es, cat, row, r2⟩ => ?_
  have M2 := M1.bt e2 p2
  have vw := (x1.view fun a h => Z.papart M.pdom h).bt (fun a z => Ws.pw z) e2
  have vu := x2.view fun a h => Z.papart M1.pdom h
  rw [er] at vw
  rw [es] at vu
  obtain ⟨l, vs, rfl, hl, rl⟩ := vw.lst
  obtain ⟨m, us, rfl, hm, rm⟩ := vu.lst
  rw [rl.strs] at hl
  rw [rm.strs] at hm
  intro x dx hx hdx ne
  have old : ∀ b o, H2 b = some o → (upd (upd H2 dx (.own x)) x (.ins C dx [])) b = some o := fun b o e => by
    rw [upd_ne (ne_of_none e hx), upd_ne (ne_of_none e hdx)]
    exact e
  have back : ∀ c, (upd (upd H2 dx (.own x)) x (.ins C dx [])) c = none → H2 c = none := fun c h => by
    cases e : H2 c with
    | none => rfl
    | some o => rw [old c o e] at h; cases h
  refine ⟨x, dx, l, m, xs, ys, rfl, upd_same, by rw [upd_ne ne]; exact upd_same, old _ _ hl, old _ _ hm, cat, row, fun H' keep ⟨dx', c, rr, g1, g2, g3, g4, g5⟩ => ⟨rfl, ?_⟩⟩
  have s3 : Same H2 H' := fun b o e => keep b o (ne_of_none e hx) (old b o e)
  have e12 := e1.trans e2
  have apart : ∀ c, H2 c = none → ¬ Ws Z Γ σ c := fun c h w => by
    obtain ⟨o, ho⟩ := M2.wdom w
    rw [h] at ho
    cases ho
  have gx : ∀ c {o : HO}, H' c = some o → (upd (upd H2 dx (.own x)) x (.ins C dx [])) c = none → c ≠ x := fun c o _ h z => by
    rw [z, upd_same] at h
    cases h
  refine q _ H' (.new (.sh xs ys)) n2 (e12.trans (.same s3)) (p2.same s3) ⟨x, rfl, e12.free M2.pdom hx, dx', c, rr, g1, g2, g3, fun z => z.elim (apart c (back c g4)) (gx c g2 g4), fun z => z.elim (apart rr (back rr g5)) (gx rr g3 g5)⟩ r2
/-! ### isinstance -/
/-- what the class of shelves is, for isinstance -/
structure IsC (K : PySem.W.Frag) (C : Addr) : Prop where
  ty : ∀ (H : Hp) (a dx : Addr) (fs : List (Str × V)), H a = some (.ins C dx fs) → TyX K H (.ref a) (.ref C)
  own : PySem.W.kitOne K (.ref C) (.ref C) = some true
  str : PySem.W.kitOne K (.ref C) (.type "str") = some false
  list : PySem.W.kitOne K (.ref C) (.type "list") = some false
  tuple : PySem.W.kitOne K (.ref C) (.type "tuple") = some false
  dict : PySem.W.kitOne K (.ref C) (.type "dict") = some false
  int : PySem.W.kitOne K (.ref C) (.type "int") = some false
  bool : PySem.W.kitOne K (.ref C) (.type "bool") = some false
  of : ∀ t, t ∈ ["NoneType", "bool", "int", "str", "list", "tuple", "dict"] → PySem.W.kitOne K (.type t) (.ref C) = some false
/-- the built-in class of a tree -/
def tyD : D → Option String
  | .non => some "NoneType"
  | .bl _ => some "bool"
  | .int _ => some "int"
  | .str _ => some "str"
  | .lst _ => some "list"
  | .tup _ => some "tuple"
  | .dk _ _ => some "dict"
  | .dt _ _ => some "dict"
  | .sh _ _ => none
  | .ob _ _ _ => none
  | .purse => some "list"
theorem tyX_of {p : Option Addr} {W : Addr → Prop} {H : Hp} (hp : ∀ a, p = some a → ∃ xs, H a = some (.lst xs)) : ∀ {d : D} {v : V} {t : String}, View p C W H d v → tyD d = some t → TyX K H v (.type t)
  | .non, _, _, h, e => by cases e; rw [h.non]; exact .base .non
  | .bl b, _, _, h, e => by cases e; rw [h.bl]; exact .base (.bl b)
  | .int b, _, _, h, e => by cases e; rw [h.int]; exact .base (.int b)
  | .str b, _, _, h, e => by cases e; rw [h.str]; exact .base (.str b)
  | .lst ds, _, _, h, e => by cases e; obtain ⟨a, vs, rfl, ha, _⟩ := h.lst; exact .base (.lst ha)
  | .tup ds, _, _, h, e => by cases e; obtain ⟨a, vs, rfl, ha, _⟩ := h.tup; exact .base (.tup ha)
  | .dk ks ds, _, _, h, e => by cases e; obtain ⟨a, vs, rfl, ha, _⟩ := h.dk; exact .base (.dK ha)
  | .dt ks ds, _, _, h, e => by
    cases e
    rcases h with ⟨a, rfl, _, vs, ha, _⟩ | ⟨a, rfl, _, vs, ha, _⟩
    · exact .base (.dT ha)
    · exact .base (.dT ha)
  | .purse, _, _, h, e => by
    cases e
    rcases h with ⟨a, rfl, e⟩ | ⟨a, _, _, h⟩
    · obtain ⟨xs, hx⟩ := hp a e
      exact .base (.lst hx)
    · exact h.elim
theorem PAt.lst {p : Option Addr} {H : Hp} {n : Nat} (h : PAt p H n) : ∀ a, p = some a → ∃ xs, H a = some (.lst xs) := fun a e => by
  subst e
  obtain ⟨b, ⟨_, _, _, _, hp, _⟩, _⟩ := h
  exact ⟨_, hp⟩
/-- isinstance(x, T) of a built-in class -/
def tlIsB (t : String) (T : TX) : TX := fun Γ n R => T Γ n fun r n1 => match tyD r.d with
  | some u => ∃ b, kitB u t = some b ∧ R (.val (.bl b)) n1
  | none => match r.d with
    | .sh _ _ => R (.val (.bl false)) n1
    | _ => False
theorem re_isB {Z : Zx} {t : String} {te : TE} {T : TX} (I : IsC K C) (ht : t ∈ ["str", "list", "tuple", "dict", "int", "bool"]) (h : RE C Z te T) : RE C Z (tCB (rIsi K) (tCons te (tCons (tC (.ty t)) tNil))) (tlIsB t T) := by
  intro G Γ σ H n Q R M h1 q
  refine h G Γ σ H n _ _ M h1 fun v H1 r n1 e1 p1 x1 r1 => ?_
  have vw := x1.view fun a h => Z.papart M.pdom h
  have fin : ∀ b, R (.val (.bl b)) n1 → Q (.bl b) H1 := fun b hb => q _ H1 (.val (.bl b)) n1 e1 p1 (rfl : V.bl b = V.bl b) hb
  split at r1
  · next u e =>
    obtain ⟨b, hb, r1⟩ := r1
    exact ⟨v, .ty t, _, _, b, rfl, .ty t, tyX_of p1.lst vw e, kit_ty hb, fin b r1⟩
  · next e =>
    cases hd : r.d with
    | sh xs ys =>
      rw [hd] at vw r1
      obtain ⟨a, dx, c, rr, rfl, ha, _, _⟩ := vw.sh
      refine ⟨.ref a, .ty t, .ref C, .type t, false, rfl, .ty t, I.ty H1 a dx _ ha, ?_, fin false r1⟩
      simp only [List.mem_cons, List.mem_nil_iff, or_false] at ht
      rcases ht with rfl | rfl | rfl | rfl | rfl | rfl
      · exact I.str
      · exact I.list
      · exact I.tuple
      · exact I.dict
      · exact I.int
      · exact I.bool
    | ob _ _ _ => rw [hd] at r1; exact False.elim r1
    | _ => rw [hd] at e; cases e
/-- isinstance(x, Shelf) -/
def tlIsS (T : TX) : TX := fun Γ n R => T Γ n fun r n1 => match tyD r.d with
  | some _ => R (.val (.bl false)) n1
  | none => match r.d with
    | .sh _ _ => R (.val (.bl true)) n1
    | _ => False
theorem re_isS {Z : Zx} {te : TE} {T : TX} (I : IsC K C) (h : RE C Z te T) : RE C Z (tCB (rIsi K) (tCons te (tCons (tC (.ref C)) tNil))) (tlIsS T) := by
  intro G Γ σ H n Q R M h1 q
  refine h G Γ σ H n _ _ M h1 fun v H1 r n1 e1 p1 x1 r1 => ?_
  have vw := x1.view fun a h => Z.papart M.pdom h
  have fin : ∀ b, R (.val (.bl b)) n1 → Q (.bl b) H1 := fun b hb => q _ H1 (.val (.bl b)) n1 e1 p1 (rfl : V.bl b = V.bl b) hb
  split at r1
  · next u e =>
    refine ⟨v, .ref C, _, .ref C, false, rfl, .own C, tyX_of p1.lst vw e, I.of u ?_, fin false r1⟩
    cases hd : r.d <;> rw [hd] at e <;> cases e <;> decide
  · next e =>
    cases hd : r.d with
    | sh xs ys =>
      rw [hd] at vw r1
      obtain ⟨a, dx, c, rr, rfl, ha, _, _⟩ := vw.sh
      exact ⟨.ref a, .ref C, .ref C, .ref C, true, rfl, .own C, I.ty H1 a dx _ ha, I.own, fin true r1⟩
    | ob _ _ _ => rw [hd] at r1; exact False.elim r1
    | _ => rw [hd] at e; cases e
/-- isinstance(x, (T, U)) of two built-in classes -/
def tlIsT (t u : String) (T : TX) : TX := fun Γ n R => T Γ n fun r n1 => match tyD r.d with
  | some k => ∃ b c, kitB k t = some b ∧ kitB k u = some c ∧ R (.val (.bl (b || c))) n1
  | none => match r.d with
    | .sh _ _ => R (.val (.bl false)) n1
    | _ => False
theorem kit_two {a b c : Value} {x y : Bool} (h1 : PySem.W.kitOne K a b = some x) (h2 : PySem.W.kitOne K a c = some y) : PySem.W.kitAny K a [b, c] = some (x || y) := by
  refine kitAny_cons h1 (fun e => ?_) fun e => by rw [e]; rfl
  rw [e, Bool.false_or]
  exact kitAny_cons h2 (fun e => by rw [e]; exact kitAny_nil) fun e => e
theorem re_isT {Z : Zx} {t u : String} {te : TE} {T : TX} (I : IsC K C) (ht : t = "list") (hu : u = "tuple") (h : RE C Z te T) : RE C Z (tCB (rIsiT K) (tCons te (tCons (tTup (tCons (tC (.ty t)) (tCons (tC (.ty u)) tNil))) tNil))) (tlIsT t u T) := by
  subst ht hu
  intro G Γ σ H n Q R M h1 q
  refine h G Γ σ H n _ _ M h1 fun v H1 r n1 e1 p1 x1 r1 => ?_
  refine ⟨by show 2 ≤ sizeLine; decide +kernel, fun a na => ?_⟩
  have s := same_upd (o := .tup [V.ty "list", V.ty "tuple"]) na
  have p2 := p1.same s
  have vw := (x1.view fun a h => Z.papart M.pdom h).bt (fun a z => Ws.pw z) (.same s)
  have fin : ∀ b, R (.val (.bl b)) n1 → Q (.bl b) (upd H1 a (.tup [V.ty "list", V.ty "tuple"])) := fun b hb => q _ _ (.val (.bl b)) n1 (e1.trans (.same s)) p2 (rfl : V.bl b = V.bl b) hb
  split at r1
  · next k e =>
    obtain ⟨b, c, hb, hc, r1⟩ := r1
    exact ⟨v, a, _, .type k, _, b || c, rfl, upd_same, .cons (.ty _) (.cons (.ty _) .nil), tyX_of p2.lst vw e, kit_two (kit_ty hb) (kit_ty hc), fin _ r1⟩
  · next e =>
    cases hd : r.d with
    | sh xs ys =>
      rw [hd] at vw r1
      obtain ⟨b, dx, c, rr, rfl, ha, _, _⟩ := vw.sh
      exact ⟨.ref b, a, _, .ref C, _, false, rfl, upd_same, .cons (.ty _) (.cons (.ty _) .nil), I.ty _ b dx _ ha, kit_two (x := false) (y := false) I.list I.tuple, fin _ r1⟩
    | ob _ _ _ => rw [hd] at r1; exact False.elim r1
    | _ => rw [hd] at e; cases e
end
end TL

-- TL9
set_option Elab.async false
set_option linter.all false
set_option maxRecDepth 100000
set_option maxHeartbeats 4100000
/-! TL9: further rules -/
namespace TL
open L2 PyProof.Rows PySem PySem.Spec TS RZ
theorem units62 {k : Nat} {A : Around} (r : Room k A) : A.units + 62 < cLine := by
  have := r.units
  omega
/-! ### the names of the built-in functions -/
theorem b_len : bootBuiltins "len" = some (.builtin "len") := by decide +kernel
theorem b_list : bootBuiltins "list" = some (.type "list") := by decide +kernel
theorem b_tuple : bootBuiltins "tuple" = some (.type "tuple") := by decide +kernel
theorem b_str : bootBuiltins "str" = some (.type "str") := by decide +kernel
theorem b_dict : bootBuiltins "dict" = some (.type "dict") := by decide +kernel
theorem b_bool : bootBuiltins "bool" = some (.type "bool") := by decide +kernel
theorem b_int : bootBuiltins "int" = some (.type "int") := by decide +kernel
theorem b_sum : bootBuiltins "sum" = some (.builtin "sum") := by decide +kernel
theorem b_all : bootBuiltins "all" = some (.builtin "all") := by decide +kernel
theorem b_any : bootBuiltins "any" = some (.builtin "any") := by decide +kernel
theorem b_min : bootBuiltins "min" = some (.builtin "min") := by decide +kernel
theorem b_max : bootBuiltins "max" = some (.builtin "max") := by decide +kernel
theorem b_sorted : bootBuiltins "sorted" = some (.builtin "sorted") := by decide +kernel
theorem b_isinstance : bootBuiltins "isinstance" = some (.builtin "isinstance") := by decide +kernel
/-- the built-in names that no module's name hides -/
structure Nm (mg : Str → Option Value) : Prop where
  len : mg "len" = none
  list : mg "list" = none
  tuple : mg "tuple" = none
  str : mg "str" = none
  dict : mg "dict" = none
  bool : mg "bool" = none
  int : mg "int" = none
  sum : mg "sum" = none
  all : mg "all" = none
  any : mg "any" = none
  min : mg "min" = none
  max : mg "max" = none
  sorted : mg "sorted" = none
  isinstance : mg "isinstance" = none
  range : mg "range" = none
  zip : mg "zip" = none
  enumerate : mg "enumerate" = none
  set : mg "set" = none
section
variable {C : Addr} {Z : Zx} {K : PySem.W.Frag}
/-! ### a sign in a text; x in .. -/
def rInA (K : PySem.W.Frag) : R2 := orR (rInP K) fun x y H Q => ∃ (c : Nat) (z : Str), x = .str ⟨#[c]⟩ ∧ y = .str z ∧ Q (.bl (decide (c ∈ z.cps.toList))) H
theorem op_inA {X : Cx} (hu : X.A.units + 62 < cLine) : OpR X (compareOp .In) (rInA X.K) := OpR.or (op_inP hu) op_in_sign
def dInA : D → D → (Rv → Prop) → Prop
  | .str x, .str z, R => ∃ c, x = ⟨#[c]⟩ ∧ R (.val (.bl (decide (c ∈ z.cps.toList))))
  | d, e, R => dIn d e R
theorem r2_inA : R2T C Z (rInA K) dInA := by
  intro W H x y d e R Q hp dm hx hy h q
  unfold dInA at h
  split at h
  · obtain ⟨c, rfl, h⟩ := h
    exact .inr ⟨c, _, hx.str, hy.str, same_bl h q⟩
  · exact .inl (r2_in W H x y d e R Q hp dm hx hy h q)
/-! ### chains -/
def tlChain (f g : D → D → (Rv → Prop) → Prop) (T U V1 : TX) : TX := fun Γ n R => T Γ n fun x n1 => U Γ n1 fun y n2 => f x.d y.d fun b => match b with
  | .val (.bl true) => V1 Γ n2 fun z n3 => g y.d z.d fun r => R r n3
  | .val (.bl false) => R (.val (.bl false)) n2
  | _ => False
theorem re_chain {r s : R2} {ta tb tc : TE} {T U V1 : TX} {f g : D → D → (Rv → Prop) → Prop} (hr : R2T C Z r f) (hs : R2T C Z s g) (ha : RE C Z ta T) (hb : RE C Z tb U) (hc : RE C Z tc V1) : RE C Z (tChain r s ta tb tc) (tlChain f g T U V1) := by
  intro G Γ σ H n Q R M h q
  refine ha G Γ σ H n _ _ M h fun v H1 x n1 e1 p1 x1 h1 => ?_
  have M1 := M.bt e1 p1
  refine hb G Γ σ H1 n1 _ _ M1 h1 fun u H2 y n2 e2 p2 x2 h2 => ?_
  have M2 := M1.bt e2 p2
  refine hr _ H2 v u _ _ _ _ (fun a z => Ws.pw z) (fun a w => M2.wdom w) ((x1.view fun a h => Z.papart M.pdom h).bt (fun a z => Ws.pw z) e2) (x2.view fun a h => Z.papart M1.pdom h) h2 fun w H3 b s3 x3 h3 => ?_
  have M3 := M2.same s3
  match b, x3, h3 with
  | .val (.bl true), x3, h3 =>
    refine ⟨true, x3, iteT ?_⟩
    refine hc G Γ σ H3 n2 _ _ M3 h3 fun t H4 z n3 e4 p4 x4 h4 => ?_
    have M4 := M3.bt e4 p4
    refine hs _ H4 u t _ _ _ _ (fun a z => Ws.pw z) (fun a w => M4.wdom w) ((x2.view fun a h => Z.papart M1.pdom h).bt (fun a z => Ws.pw z) ((Bt.same s3).trans e4)) (x4.view fun a h => Z.papart M3.pdom h) h4 fun w H5 r5 s5 x5 h5 => ?_
    have e14 := ((e1.trans e2).trans (.same s3)).trans e4
    exact q w H5 r5 n3 (e14.trans (.same s5)) (p4.same s5) (x5.up e14 M4.pdom) h5
  | .val (.bl false), x3, h3 =>
    exact ⟨false, x3, iteF (q _ H3 (.val (.bl false)) n2 ((e1.trans e2).trans (.same s3)) (p2.same s3) (rfl : V.bl false = V.bl false) h3)⟩
/-! ### list(range(..)), len(set(..)), xs[::-1], xs.index(x) -/
def tlLRg1 (T : TX) : TX := fun Γ n R => T Γ n fun r n1 => match r.d with
  | .int j => 0 ≤ j ∧ j ≤ 1000000 ∧ R (.new (.lst ((rng 0 j).map .int))) n1
  | _ => False
theorem rgV_rng {j : Int} (h : 0 ≤ j) : rgV 0 j = (rng 0 j).map V.int := by
  unfold rgV rng
  simp
theorem re_lrg1 {t : TE} {T : TX} (h : RE C Z t T) : RE C Z (tLstRg (tRg1 t)) (tlLRg1 T) := by
  intro G Γ σ H n Q R M h1 q
  refine h G Γ σ H n _ _ M h1 fun v H1 r n1 e1 p1 x1 r1 => ?_
  have vw := x1.view fun a h => Z.papart M.pdom h
  cases hd : r.d with
  | int j =>
    rw [hd] at r1 vw
    obtain ⟨h0, h6, r1⟩ := r1
    refine ⟨j, vw.int, ?_, fun a na => ?_⟩
    · unfold RgOk
      have : sizeLine = 16777216 := sizeLine_eq
      omega
    · rw [rgV_rng h0]
      exact q _ _ (.new (.lst ((rng 0 j).map .int))) n1 (e1.trans (.same (same_upd na))) (p1.same (same_upd na)) ⟨a, rfl, e1.free (fun b z => p1.at z) na, _, upd_same, (repL_ints _)⟩ r1
  | _ => rw [hd] at r1; exact False.elim r1
def tlLenSet (T : TX) : TX := fun Γ n R => T Γ n fun r n1 => match r.d with
  | .lst ds => ∃ xs : List Str, ds = xs.map .str ∧ xs.length ≤ 1000 ∧ R (.val (.int ((met xs xs.length : Nat) : Int))) n1
  | _ => False
theorem re_lenSet {t : TE} {T : TX} (h : RE C Z t T) : RE C Z (tLenSetT K t) (tlLenSet T) := by
  intro G Γ σ H n Q R M h1 q
  refine h G Γ σ H n _ _ M h1 fun v H1 r n1 e1 p1 x1 r1 => ?_
  have vw := x1.view fun a h => Z.papart M.pdom h
  cases hd : r.d with
  | lst ds =>
    rw [hd] at r1 vw
    obtain ⟨xs, rfl, few, r1⟩ := r1
    obtain ⟨a, vs, rfl, ha, rr⟩ := vw.lst
    rw [rr.strs] at ha
    exact ⟨a, xs, rfl, SqL.of ha, few, q _ H1 (.val (.int _)) n1 e1 p1 (rfl : V.int ((met xs xs.length : Nat) : Int) = V.int ((met xs xs.length : Nat) : Int)) r1⟩
  | _ => rw [hd] at r1; exact False.elim r1
def tlRev (T : TX) : TX := fun Γ n R => T Γ n fun r n1 => match r.d with
  | .lst ds => R (.new (.lst ds.reverse)) n1
  | _ => False
theorem re_rev {t : TE} {T : TX} (h : RE C Z t T) : RE C Z (tRevL K t) (tlRev T) := by
  intro G Γ σ H n Q R M h1 q
  refine h G Γ σ H n _ _ M h1 fun v H1 r n1 e1 p1 x1 r1 => ?_
  have vw := x1.view fun a h => Z.papart M.pdom h
  cases hd : r.d with
  | lst ds =>
    rw [hd] at r1 vw
    obtain ⟨a, vs, rfl, ha, rr⟩ := vw.lst
    exact ⟨a, vs, rfl, SqL.of ha, fun b nb => q _ _ (.new (.lst ds.reverse)) n1 (e1.trans (.same (same_upd nb))) (p1.same (same_upd nb)) ⟨b, rfl, e1.free (fun c z => p1.at z) nb, _, upd_same, rr.rev.mono (fresh_rep (p := Z.p) (C := C) nb)⟩ r1⟩
  | _ => rw [hd] at r1; exact False.elim r1
/-- list.index, by values of any depth, without a wish about texts -/
def rIdx (K : PySem.W.Frag) : V → List V → Hp → VK → Prop := fun x vs H Q => ∃ (a : Addr) (ys : List V) (y : V) (j : Nat) (z : V), x = V.ref a ∧ vs = [y] ∧ SqL K H a ys ∧ flatV y = true ∧ ys.all flatV = true ∧ ys[j]? = some z ∧ eqV z y = true ∧ (∀ (m : Nat) (z' : V), m < j → ys[m]? = some z' → eqV z' y = false) ∧ Q (.int (j : Nat)) H
theorem mt_idx {X : Cx} : MtR X "list.index" (rIdx X.K) := mt_index
/-- the place of a text, a number in a list of such -/
def tlIdx (T U : TX) : TX := fun Γ n R => T Γ n fun r n1 => match r.d with
  | .lst ds => U Γ n1 fun s n2 => match s.d with
    | .str z => ∃ xs : List Str, ds = xs.map .str ∧ z ∈ xs ∧ R (.val (.int ((xs.idxOf z : Nat) : Int))) n2
    | .int i => ∃ xs : List Int, ds = xs.map .int ∧ i ∈ xs ∧ R (.val (.int ((xs.idxOf i : Nat) : Int))) n2
    | _ => False
  | _ => False
theorem idx_at {α : Type} [DecidableEq α] : ∀ {xs : List α} {z : α}, z ∈ xs → xs[xs.idxOf z]? = some z ∧ ∀ (m : Nat) (y : α), m < xs.idxOf z → xs[m]? = some y → y ≠ z
  | x :: r, z, h => by
    by_cases e : x = z
    · subst e
      simp
    · have ih := idx_at ((List.mem_cons.1 h).resolve_left fun q => e q.symm)
      have ix : (x :: r).idxOf z = r.idxOf z + 1 := by simp [List.idxOf_cons, show (x == z) = false from by simpa using e]
      rw [ix]
      refine ⟨by simpa using ih.1, fun m y lt hy => ?_⟩
      cases m with
      | zero => rintro rfl; exact e (Option.some.inj (by simpa using hy))
      | succ m => exact ih.2 m y (by omega) (by simpa using hy)
theorem flat_all {α : Type} (f : α → V) (hf : ∀ x, flatV (f x) = true) (xs : List α) : (xs.map f).all flatV = true := by
  rw [List.all_eq_true]
  intro v hv
  obtain ⟨z, _, rfl⟩ := List.mem_map.1 hv
  exact hf z
theorem re_idx {to t : TE} {T U : TX} (ho : RE C Z to T) (h : RE C Z t U) : RE C Z (tBM K "list" (rIdx K) to (tCons t tNil)) (tlIdx T U) := by
  intro G Γ σ H n Q R M h1 q
  refine ho G Γ σ H n _ _ M h1 fun v H1 r n1 e1 p1 x1 r1 => ?_
  have M1 := M.bt e1 p1
  have vw0 := x1.view fun a h => Z.papart M.pdom h
  cases hd : r.d with
  | lst ds =>
    rw [hd] at vw0 r1
    obtain ⟨a, vs, rfl, ha, rr⟩ := vw0.lst
    refine ⟨.inl ⟨rfl, vs, SqL.of ha⟩, ?_⟩
    refine h G Γ σ H1 n1 _ _ M1 r1 fun u H2 s n2 e2 p2 x2 r2 => ?_
    have vu := x2.view fun a h => Z.papart M1.pdom h
    have vl := (x1.view fun a h => Z.papart M.pdom h).bt (fun a z => Ws.pw z) e2
    rw [hd] at vl
    obtain ⟨_, us, e, ha2, rr2⟩ := vl.lst
    cases e
    have fin : ∀ i : Int, R (.val (.int i)) n2 → Q (.int i) H2 := fun i hi => q _ H2 (.val (.int i)) n2 (e1.trans e2) p2 (rfl : V.int i = V.int i) hi
    cases hs : s.d with
    | str z =>
      rw [hs] at r2 vu
      obtain ⟨xs, rfl, hz, r2⟩ := r2
      rw [rr2.strs] at ha2
      obtain ⟨g1, g2⟩ := idx_at hz
      refine ⟨a, xs.map V.str, u, xs.idxOf z, .str z, rfl, rfl, SqL.of ha2, by rw [vu.str]; rfl, flat_all _ (fun _ => rfl) xs, by rw [List.getElem?_map, g1]; rfl, by rw [vu.str]; simp [eqV], fun m y lt hy => ?_, fin _ r2⟩
      rw [List.getElem?_map] at hy
      obtain ⟨y', hy', rfl⟩ := Option.map_eq_some_iff.1 hy
      rw [vu.str]
      simpa [eqV] using g2 m y' lt hy'
    | int i =>
      rw [hs] at r2 vu
      obtain ⟨xs, rfl, hz, r2⟩ := r2
      rw [rr2.ints] at ha2
      obtain ⟨g1, g2⟩ := idx_at hz
      refine ⟨a, xs.map V.int, u, xs.idxOf i, .int i, rfl, rfl, SqL.of ha2, by rw [vu.int]; rfl, flat_all _ (fun _ => rfl) xs, by rw [List.getElem?_map, g1]; rfl, by rw [vu.int]; simp [eqV], fun m y lt hy => ?_, fin _ r2⟩
      rw [List.getElem?_map] at hy
      obtain ⟨y', hy', rfl⟩ := Option.map_eq_some_iff.1 hy
      rw [vu.int]
      simpa [eqV] using g2 m y' lt hy'
    | _ => rw [hs] at r2; exact False.elim r2
  | _ => rw [hd] at r1; exact False.elim r1
end
end TL

-- TLA
set_option Elab.async false
set_option linter.all false
set_option maxRecDepth 100000
set_option maxHeartbeats 4100000
/-! TLA: comprehensions with two walks; own lists changed further -/
namespace TL
open L2 PyProof.Rows PySem PySem.Spec TS RZ
section
variable {C : Addr} {Z : Zx} {K : PySem.W.Frag}
/-- turn by turn, each with its own walk -/
def lcF2 (pt : Pat) (c : TBx) (I1 : TIx) (pt1 : Pat) (c1 : TBx) (e : TX) (vs1 : List Nat) (Γ : Gm) : List D → List D → Nat → (List D → Nat → Prop) → Prop
  | [], acc, n, k => k acc n
  | d :: r, acc, n, k => match bindP pt d Γ with
    | some Γ' => c Γ' n fun b n1 => if b = true then I1 Γ' n1 fun b1 ds1 n2 => b1 = 2 ∧ acc.length + ds1.length ≤ 1000000 ∧ lcF pt1 c1 e (wipeG Γ' vs1) ds1 acc n2 fun acc' n3 => lcF2 pt c I1 pt1 c1 e vs1 Γ r acc' n3 k else lcF2 pt c I1 pt1 c1 e vs1 Γ r acc n1 k
    | none => False
def tlLc2 (I : TIx) (pt : Pat) (c : TBx) (I1 : TIx) (pt1 : Pat) (c1 : TBx) (e : TX) (vs vs1 : List Nat) : TX := fun Γ n R => I Γ n fun _ ds n1 => lcF2 pt c I1 pt1 c1 e vs1 (wipeG (borG Γ) vs) ds [] n1 fun out n2 => R (.new (.lst out)) n2
theorem wok_views {Z : Zx} {W : Addr → Prop} {H1 : Hp} {gs : List (V × Rv)} (pw : ∀ a, Z.p = some a → W a) (gok : ∀ g ∈ gs, GOk C Z W H1 g.2 g.1) : ∀ {H' : Hp}, Bt Z.p H1 H' → ∀ g ∈ gs, View Z.p C W H' g.2.d g.1 := fun {H'} b g hg => ((gok g hg).bt pw b).view
/-- a walk's invariant for a comprehension's inner clause -/
theorem walk_in {J : It} {n : Nat} {Gd : Hp → Prop} {Y : Nat → Hp → V → Hp → Prop} (w : Walk J n Gd Y) {g : TG} {tt : TT} {te : TE} {vs : List Nat} {σ : L2.St} {H4 : Hp} {Dn : Addr} {Nx : Hp → Prop} (Pv : Nat → Hp → Prop) (h0 : Pv 0 H4) (hG : ∀ i H, i ≤ n → Pv i H → Gd H)
    (hs : ∀ i x H H', i < n → Pv i H → Y i H x H' → g x (wipe σ vs) H' fun σ3 H5 => wipe σ3 vs = wipe σ vs ∧ tt σ3 H5 fun b H6 => if b = true then te σ3 H6 fun y H7 => ∃ acc, H7 Dn = some (.lst acc) ∧ acc.length < sizeLine ∧ Pv (i + 1) (upd H7 Dn (.lst (acc ++ [y]))) else Pv (i + 1) H6) (hd : ∀ H, Pv n H → Nx H) :
    ∃ W1 : Nat → Nat → Hp → Prop, (∃ m, W1 0 m H4) ∧ ∀ j k H, W1 j k H →
      (J.stop j H ∧ Nx H) ∨ (J.go j H ∧ ∃ Nx1 : Hp → Prop, (∀ H', Nx1 H' → ∃ k', k' < k ∧ W1 (j + 1) k' H') ∧ ∀ x H', J.yld j H x H' → g x (wipe σ vs) H' fun σ3 H5 => wipe σ3 vs = wipe σ vs ∧ tt σ3 H5 fun b H6 =>
        if b = true then te σ3 H6 fun y H7 => ∃ acc, H7 Dn = some (.lst acc) ∧ acc.length < sizeLine ∧ Nx1 (upd H7 Dn (.lst (acc ++ [y]))) else Nx1 H6) := by
  refine ⟨fun j k H => k = n - j ∧ j ≤ n ∧ Pv j H, ⟨n, rfl, Nat.zero_le _, h0⟩, ?_⟩
  rintro j k H ⟨rfl, hj, p⟩
  have q := hG j H hj p
  rcases Nat.lt_or_ge j n with lt | ge
  · exact .inr ⟨w.goes j H lt q, Pv (j + 1), fun H' p' => ⟨n - (j + 1), by omega, rfl, lt, p'⟩, fun x H' y => hs j x H H' lt p (w.yields j H x H' lt q y)⟩
  · obtain rfl : j = n := by omega
    exact .inl ⟨w.stops H q, hd H p⟩
/-- the outer one -/
theorem lc2_it {J : It} {n : Nat} {Gd : Hp → Prop} {Y : Nat → Hp → V → Hp → Prop} (w : Walk J n Gd Y) {g g1 : TG} {tt tt1 : TT} {wi1 : TI} {te : TE} {vs vs1 : List Nat} {σ : L2.St} {H1 : Hp} {Dn : Addr} {Qd : Hp → Prop} (Pv : Nat → Hp → Prop) (h0 : Pv 0 (upd H1 Dn (.lst []))) (hG : ∀ i H, i ≤ n → Pv i H → Gd H)
    (hs : ∀ i x H H', i < n → Pv i H → Y i H x H' → g x (wipe σ vs) H' fun σ2 H2 => wipe σ2 vs = wipe σ vs ∧ tt σ2 H2 fun b H3 => if b = true then wi1 σ2 H3 fun J1 H4 => ∃ W1 : Nat → Nat → Hp → Prop, (∃ m, W1 0 m H4) ∧ ∀ j k H, W1 j k H →
      (J1.stop j H ∧ Pv (i + 1) H) ∨ (J1.go j H ∧ ∃ Nx1 : Hp → Prop, (∀ H', Nx1 H' → ∃ k', k' < k ∧ W1 (j + 1) k' H') ∧ ∀ x H', J1.yld j H x H' → g1 x (wipe σ2 vs1) H' fun σ3 H5 => wipe σ3 vs1 = wipe σ2 vs1 ∧ tt1 σ3 H5 fun b H6 =>
        if b = true then te σ3 H6 fun y H7 => ∃ acc, H7 Dn = some (.lst acc) ∧ acc.length < sizeLine ∧ Nx1 (upd H7 Dn (.lst (acc ++ [y]))) else Nx1 H6) else Pv (i + 1) H3) (hd : ∀ H, Pv n H → Qd H) :
    ∃ W : Nat → Nat → Hp → Prop, (∃ m, W 0 m (upd H1 Dn (.lst []))) ∧ ∀ i m H, W i m H →
      (J.stop i H ∧ Qd H) ∨ (J.go i H ∧ ∃ Nx : Hp → Prop, (∀ H', Nx H' → ∃ m', m' < m ∧ W (i + 1) m' H') ∧ ∀ x H', J.yld i H x H' → g x (wipe σ vs) H' fun σ2 H2 => wipe σ2 vs = wipe σ vs ∧ tt σ2 H2 fun b H3 =>
        if b = true then wi1 σ2 H3 fun J1 H4 => ∃ W1 : Nat → Nat → Hp → Prop, (∃ m, W1 0 m H4) ∧ ∀ j k H, W1 j k H →
          (J1.stop j H ∧ Nx H) ∨ (J1.go j H ∧ ∃ Nx1 : Hp → Prop, (∀ H', Nx1 H' → ∃ k', k' < k ∧ W1 (j + 1) k' H') ∧ ∀ x H', J1.yld j H x H' → g1 x (wipe σ2 vs1) H' fun σ3 H5 => wipe σ3 vs1 = wipe σ2 vs1 ∧ tt1 σ3 H5 fun b H6 =>
            if b = true then te σ3 H6 fun y H7 => ∃ acc, H7 Dn = some (.lst acc) ∧ acc.length < sizeLine ∧ Nx1 (upd H7 Dn (.lst (acc ++ [y]))) else Nx1 H6)
        else Nx H3) := by
  refine ⟨fun i m H => m = n - i ∧ i ≤ n ∧ Pv i H, ⟨n, rfl, Nat.zero_le _, h0⟩, ?_⟩
  rintro i m H ⟨rfl, hi, p⟩
  have q := hG i H hi p
  rcases Nat.lt_or_ge i n with lt | ge
  · exact .inr ⟨w.goes i H lt q, Pv (i + 1), fun H' p' => ⟨n - (i + 1), by omega, rfl, lt, p'⟩, fun x H' y => hs i x H H' lt p (w.yields i H x H' lt q y)⟩
  · obtain rfl : i = n := by omega
    exact .inl ⟨w.stops H q, hd H p⟩
/-- the same place later, its new list grown since -/
theorem Mt.on {p : Option Addr} {W : Addr → Prop} {Hs : Hp} {ds : ∀ a, W a → ∃ o, Hs a = some o} {pw : ∀ a, p = some a → W a} {Γ : Gm} {σ : L2.St} {H H' : Hp} {n m : Nat} {Dn : Addr} (M : Mt C (Zx.at p W Hs ds pw) [] Γ σ H n) (nn : NoNew Γ) (e : ∀ c o, c ≠ Dn → p ≠ some c → H c = some o → H' c = some o) (pa : PAt p H' m) (dom : ∀ a, W a → ∃ o, H' a = some o) (wD : W Dn)
    (lent : ∀ (i : Nat) (d : D), Γ[i]? = some (some (.bor d)) → σ[i]? ≠ some (some (.ref Dn))) : Mt C (Zx.at p W H' dom pw) [] Γ σ H' m := by
  refine ⟨M.len, .refl, pa, fun i r hi => ?_, fun g hg => (nomatch hg), fun i j a h => ?_⟩
  · obtain ⟨v, hv, s⟩ := M.sl i r hi
    refine ⟨v, hv, ?_⟩
    have key : ∀ c o, ¬ Ws (Zx.at p W Hs ds pw) Γ σ c → H c = some o → ¬ Ws (Zx.at p W H' dom pw) Γ σ c ∧ H' c = some o := fun c o nc h => ⟨fun z => nc (.inl (nn.ws c z)), e c o (fun z => nc (.inl (by rw [z]; exact wD))) (fun z => nc (.inl (pw c z))) h⟩
    match r, s, hi with
    | .val d, s, _ => exact Rep.mono key s
    | .new d, s, hi => exact absurd hi (nn i d)
    | .bor d, .inl s, _ => exact .inl (Rep.mono key s)
    | .bor d, .inr ⟨a, o, ea, na, h0, r⟩, hi =>
      have ne : a ≠ Dn := fun z => lent i d hi (by rw [hv, ea, z])
      obtain ⟨o', ho'⟩ := r.at
      exact .inr ⟨a, o', ea, na, e a o' ne na ho', r.mono key fun u h => e a u ne na h⟩
  · obtain ⟨⟨d, hd⟩, _⟩ := h
    exact absurd hd (nn i d)
theorem Rep.noRef {p : Option Addr} {W : Addr → Prop} {H : Hp} {a : Addr} (h : H a = none) : ∀ {d : D}, Rep p C W H d (.ref a) → (∃ x, p = some x ∧ H x = none) ∨ False
  | .non, e => by cases e
  | .bl _, e => by cases e
  | .int _, e => by cases e
  | .str _, e => by cases e
  | .lst _, ⟨b, e, _, _, hb, _⟩ => by cases e; rw [h] at hb; cases hb
  | .tup _, ⟨b, e, _, _, hb, _⟩ => by cases e; rw [h] at hb; cases hb
  | .dk _ _, ⟨b, e, _, _, hb, _⟩ => by cases e; rw [h] at hb; cases hb
  | .dt _ _, ⟨b, e, _, _, hb, _⟩ => by cases e; rw [h] at hb; cases hb
  | .sh _ _, ⟨b, e, _, _, _, _, hb, _⟩ => by cases e; rw [h] at hb; cases hb
  | .ob _ _ _, ⟨b, e, _, _, _, hb, _⟩ => by cases e; rw [h] at hb; cases hb
  | .purse, ⟨b, e, hp⟩ => by cases e; exact .inl ⟨a, hp, h⟩
theorem wipeG_get {Γ : Gm} {i : Nat} {r : Rv} : ∀ {vs : List Nat}, (wipeG Γ vs)[i]? = some (some r) → Γ[i]? = some (some r) ∧ i ∉ vs
  | [], h => ⟨h, by simp⟩
  | v :: vs, h => by
    rcases get_set (show ((wipeG Γ vs).set v none)[i]? = _ from h) with ⟨_, z⟩ | ⟨ne, h⟩
    · cases z
    · obtain ⟨h1, h2⟩ := wipeG_get h
      exact ⟨h1, fun m => (List.mem_cons.1 m).elim (fun z => ne z.symm) h2⟩
theorem setAll_bor {i : Nat} {e : D} : ∀ (is : List Nat) (ds : List D) {Γ : Gm}, (setAll is ds Γ)[i]? = some (some (.bor e)) → Γ[i]? = some (some (.bor e))
  | [], _, _, h => h
  | _ :: _, [], _, h => h
  | j :: is, d :: ds, Γ, h => by
    rcases get_set (setAll_bor is ds h) with ⟨_, z⟩ | ⟨_, h⟩
    · cases z
    · exact h
theorem bind_bor {Γ Γ' : Gm} {pt : Pat} {d e : D} {i : Nat} (eb : bindP pt d Γ = some Γ') (h : Γ'[i]? = some (some (.bor e))) : Γ[i]? = some (some (.bor e)) := by
  unfold bindP at eb
  split at eb
  · obtain rfl := Option.some.inj eb
    rcases get_set h with ⟨_, z⟩ | ⟨_, h⟩
    · cases z
    · exact h
  · split at eb
    · obtain rfl := Option.some.inj eb
      exact setAll_bor _ _ h
    · cases eb
  · split at eb
    · obtain rfl := Option.some.inj eb
      exact setAll_bor _ _ h
    · cases eb
  · cases eb
theorem re_lc2 {wi wi1 : TI} {g g1 : TG} {tt tt1 : TT} {te : TE} {vs vs1 : List Nat} {I I1 : TIx} {pt pt1 : Pat} {c c1 : TBx} {e : TX} (hi : RI C Z wi I) (hg : RG C g pt) (hs : ∀ i ∈ pt.slots, i ∈ vs) (hc : ∀ Z, RT C Z tt c) (hi1 : ∀ Z, RI C Z wi1 I1) (hg1 : RG C g1 pt1) (hs1 : ∀ i ∈ pt1.slots, i ∈ vs1)
    (hc1 : ∀ Z, RT C Z tt1 c1) (he : ∀ Z, RE C Z te e) : RE C Z (tLc2 wi g tt wi1 g1 tt1 te vs vs1) (tlLc2 I pt c I1 pt1 c1 e vs vs1) := by
  intro G Γ σ H n Q R M h q
  refine hi G Γ σ H n _ _ M h fun J H1 n1 ds gs b e1 p1 wok gok _ r1 => ?_
  intro Dn nD
  have M1 := M.bt e1 p1
  have npD : Z.p ≠ some Dn := fun z => by
    obtain ⟨o, ho⟩ := p1.at z
    rw [nD] at ho
    cases ho
  obtain ⟨Gd, Y, w, hG, hY⟩ := wok
  let W : Addr → Prop := fun a => Ws Z Γ σ a ∨ a = Dn
  have pw : ∀ a, Z.p = some a → W a := fun a z => .inl (Ws.pw z)
  have known : ∀ {H' : Hp} {k : Nat} {l : List V}, Bt Z.p H1 H' → PAt Z.p H' k → H' Dn = some (.lst l) → ∀ a, W a → ∃ o, H' a = some o := fun {H' k l} b pa hD a wa => wa.elim (fun z => M1.dom1 b pa a z) fun z => ⟨_, z ▸ hD⟩
  have views : ∀ {H' : Hp}, Bt Z.p H1 H' → ∀ g ∈ gs, View Z.p C W H' g.2.d g.1 := wok_views (Z := Z) (W := W) pw fun g hg => (gok g hg).fresh nD fun a z => z
  refine lc2_it w (fun i H' => ∃ (acc : List D) (l : List V) (k : Nat), Bt Z.p H1 H' ∧ PAt Z.p H' k ∧ H' Dn = some (.lst l) ∧ RepL Z.p C W H' acc l ∧ lcF2 pt c I1 pt1 c1 e vs1 (wipeG (borG Γ) vs) (ds.drop i) acc k fun out n2 => R (.new (.lst out)) n2) ?_ ?_ ?_ ?_
  · exact ⟨[], [], n1, .same (same_upd nD), p1.same (same_upd nD), upd_same, rfl, r1⟩
  · rintro i H' _ ⟨acc, l, k, b, _⟩
    exact hG W H' (views b)
  · rintro i x H2 H3 hi ⟨acc, l, k, b2, pa2, hD2, ra, r2⟩ y
    obtain ⟨s3, d, hd, rd⟩ := hY W i H2 x H3 (known b2 pa2 hD2) (views b2) hi y
    rw [drop_cons hd] at r2
    unfold lcF2 at r2
    have b3 := b2.trans (.same s3)
    have pa3 := pa2.same s3
    have hD3 := s3 _ _ hD2
    have ra3 := ra.mono (W' := W) fun c o nc h => ⟨nc, s3 _ _ h⟩
    have MW := ((M1.within (W := W) nD b3 pa3 (fun a => Iff.rfl) (known b3 pa3 hD3) pw)).wipe vs
    split at r2
    · next Γ' eb =>
      have nn := (noNew_bor (Γ := Γ)).wipe vs
      have nn' := nn.bind eb
      refine hg _ [] _ _ H3 k d x Γ' _ MW (rd.mono fun c o nc h => ⟨fun z => nc (nn.ws c z), h⟩) eb fun σ2 M2 hw => ⟨?_, ?_⟩
      · rw [hw vs hs]
        exact wipe_wipe σ vs
      refine hc _ [] Γ' σ2 H3 k _ _ M2 r2 fun bb H4 n4 b4 pa4 r4 => ?_
      cases bb with
      | false => exact iteF ⟨acc, l, n4, b3.trans b4, pa4, b4 _ _ npD hD3, ra3.mono (keepB pw b4), r4⟩
      | true =>
        have M4 := M2.bt b4 pa4
        refine iteT (hi1 _ [] Γ' σ2 H4 n4 _ _ M4 r4 fun J1 H5 n5 ds1 gs1 bb1 b5 pa5 wok1 gok1 last1 ⟨sol, few, r5⟩ => ?_)
        have b35 := b4.trans b5
        have b15 := b3.trans b35
        have hD5 := b35 _ _ npD hD3
        have M5 := M4.bt b5 pa5
        have ra5 := ra3.mono (keepB pw b35)
        obtain ⟨Gd1, Y1, w1, hG1, hY1⟩ := wok1
        have lent : ∀ (i : Nat) (d : D), Γ'[i]? = some (some (.bor d)) → σ2[i]? ≠ some (some (.ref Dn)) := fun i d0 hb z => by
          obtain ⟨g1, g2⟩ := wipeG_get (bind_bor eb hb)
          have g3 : σ2[i]? = σ[i]? := by rw [← wipe_out (σ := σ2) g2, hw vs hs, wipe_wipe, wipe_out g2]
          rw [borG, List.getElem?_map] at g1
          obtain ⟨o, ho, e2⟩ := Option.map_eq_some_iff.1 g1
          cases o with
          | none => cases e2
          | some r0 =>
            obtain ⟨v, hv, s⟩ := M1.sl i r0 ho
            rw [g3, hv] at z
            cases z
            match r0, s, e2 with
            | .new d, ⟨a, ea, h0, r⟩, _ =>
              cases ea
              obtain ⟨o, ho⟩ := r.at
              rw [nD] at ho
              cases ho
            | .bor d, .inl s, _ =>
              rcases s.noRef nD with ⟨x, hx, hn⟩ | z
              · obtain ⟨o, ho⟩ := M1.pdom x hx
                rw [hn] at ho
                cases ho
              · exact z
            | .bor d, .inr ⟨a, o, ea, na, h0, r⟩, _ =>
              cases ea
              obtain ⟨o, ho⟩ := r.at
              rw [nD] at ho
              cases ho
        -- the inner list is none that changes
        have gk1 : ∀ g ∈ gs1, Rep Z.p C W H5 g.2.d g.1 := fun g hg => by
          have h1 := gok1 g hg
          have h2 := last1 g hg
          obtain ⟨v, r⟩ := g
          match r, h1, h2 with
          | .val d, h1, _ =>
            have h1 : Rep Z.p C (Ws (Zx.at Z.p W H3 (known b3 pa3 hD3) pw) Γ' σ2) H5 d v := h1
            exact h1.mono fun c o nc h => ⟨fun z => nc (.inl z), h⟩
          | .bor d, _, h2 => rw [sol] at h2; exact absurd (show 2 ≤ 1 from h2) (by decide)
          | .tmp d, _, h2 => rw [sol] at h2; exact absurd (show 2 ≤ 0 from h2) (by decide)
        have vw1 : ∀ {H' : Hp}, (∀ c o, ¬ W c → H5 c = some o → H' c = some o) → ∀ g ∈ gs1, View Z.p C W H' g.2.d g.1 := fun {H'} bb g hg => .inl ((gk1 g hg).mono fun c o nc h => ⟨nc, bb c o nc h⟩)
        -- the inner walk
        have off : ∀ {H' : Hp}, (Bt Z.p H1 H' ∧ ∀ c o, c ≠ Dn → Z.p ≠ some c → H5 c = some o → H' c = some o) → ∀ c o, ¬ W c → H5 c = some o → H' c = some o := fun {H'} bb c o nc h => bb.2 c o (fun z => nc (.inr z)) (fun z => nc (pw c z)) h
        refine walk_in w1 (fun j H' => ∃ (acc : List D) (l : List V) (k : Nat), (Bt Z.p H1 H' ∧ ∀ c o, c ≠ Dn → Z.p ≠ some c → H5 c = some o → H' c = some o) ∧ PAt Z.p H' k ∧ H' Dn = some (.lst l) ∧ RepL Z.p C W H' acc l ∧ acc.length + (ds1.length - j) ≤ 1000000 ∧ lcF pt1 c1 e (wipeG Γ' vs1) (ds1.drop j) acc k fun acc' n3 => lcF2 pt c I1 pt1 c1 e vs1 (wipeG (borG Γ) vs) (ds.drop (i + 1)) acc' n3 fun out n2 => R (.new (.lst out)) n2) ?_ ?_ ?_ ?_
        · exact ⟨acc, l, n5, ⟨b15, fun c o _ _ h => h⟩, pa5, hD5, ra5, by omega, r5⟩
        · rintro j H' _ ⟨acc, l, k, b, _⟩
          exact hG1 W H' (vw1 (off b))
        · rintro j x1 H6 H7 hj ⟨acc, l, k, b6, pa6, hD6, ra6, la, r6⟩ y1
          obtain ⟨s7, d1, hd1, rd1⟩ := hY1 W j H6 x1 H7 (known b6.1 pa6 hD6) (vw1 (off b6)) hj y1
          rw [drop_cons hd1] at r6
          unfold lcF at r6
          have b7 := b6.1.trans (.same s7)
          have pa7 := pa6.same s7
          have hD7 := s7 _ _ hD6
          have ra7 := ra6.mono (W' := W) fun c o nc h => ⟨nc, s7 _ _ h⟩
          have dom7 := known b7 pa7 hD7
          have M7 := (M5.on nn' (fun c o n1 n2 h => s7 c o (b6.2 c o n1 n2 h)) pa7 dom7 (.inr rfl) lent).wipe vs1
          split at r6
          · next Γ2 eb2 =>
            have nn2 := (nn'.wipe vs1).bind eb2
            refine hg1 _ [] _ _ H7 k d1 x1 Γ2 _ M7 (rd1.mono fun c o nc h => ⟨fun z => nc ((nn'.wipe vs1).ws c z), h⟩) eb2 fun σ3 M8 hw3 => ⟨?_, ?_⟩
            · rw [hw3 vs1 hs1]
              exact wipe_wipe σ2 vs1
            refine hc1 _ [] Γ2 σ3 H7 k _ _ M8 r6 fun bb3 H8 n8 b8 pa8 r8 => ?_
            cases bb3 with
            | false => exact iteF ⟨acc, l, n8, ⟨b7.trans b8, fun c o n1 n2 h => b8 c o n2 (s7 c o (b6.2 c o n1 n2 h))⟩, pa8, b8 _ _ npD hD7, ra7.mono (keepB pw b8), by omega, r8⟩
            | true =>
              refine iteT (he _ [] Γ2 σ3 H8 n8 _ _ (M8.bt b8 pa8) r8 fun v H9 rv n9 b9 pa9 x9 ⟨st, r9⟩ => ?_)
              have rep := x9.rep (fun a w => (M8.bt b8 pa8).wdom w) st
              have rep' : Rep Z.p C W H9 rv.d v := rep.mono fun c o nc h => ⟨fun z => nc (.inl z), h⟩
              have b79 := b8.trans b9
              obtain ⟨g1, g2⟩ := put_next pw npD (.inr rfl) hD7 b79 ra7 rep'
              have lt : j < ds1.length := hj
              refine ⟨l, g1, by rw [ra6.len]; exact small6 (by omega), acc ++ [rv.d], l ++ [v], n9, ⟨fun c o nc h => ?_, fun c o n1 n2 h => ?_⟩, pa9.put npD, upd_same, g2, by simp; omega, r9⟩
              · rw [upd_ne fun z => by rw [z, nD] at h; cases h]
                exact (b7.trans b79) c o nc h
              · rw [upd_ne n1]
                exact b79 c o n2 (s7 c o (b6.2 c o n1 n2 h))
          · exact r6.elim
        · rintro H6 ⟨acc, l, k, b6, pa6, hD6, ra6, la, r6⟩
          rw [List.drop_length] at r6
          exact ⟨acc, l, k, b6.1, pa6, hD6, ra6, r6⟩
    · exact r2.elim
  · rintro H2 ⟨acc, l, k, b2, pa2, hD2, ra, r2⟩
    rw [List.drop_length] at r2
    exact q _ H2 (.new (.lst acc)) k (e1.trans b2) pa2 ⟨Dn, rfl, e1.free (fun a z => p1.at z) nD, l, hD2, ra⟩ r2
end
end TL

-- TLC
set_option Elab.async false
set_option linter.all false
set_option maxRecDepth 100000
set_option maxHeartbeats 4100000
/-! TLC: own lists changed further -/
namespace TL
open L2 PyProof.Rows PySem PySem.Spec TS RZ
section
variable {C : Addr} {K : PySem.W.Frag}
def rInsert : V → List V → Hp → VK → Prop := fun x vs H Q => ∃ (l : Addr) (xs : List V) (i : Int) (y : V), x = .ref l ∧ vs = [.int i, y] ∧ H l = some (.lst xs) ∧ xs.length < sizeLine ∧ 0 ≤ i ∧ i < 2 ^ 63 ∧ Q .non (upd H l (.lst (xs.take i.toNat ++ [y] ++ xs.drop i.toNat)))
theorem mt_ins {X : Cx} : MtR X "list.insert" rInsert := L2.mt_insert
/-- what an own list's writing keeps -/
theorem own_key {Z : Zx} {Γ : Gm} {σ : L2.St} {H : Hp} {i : Nat} {a : Addr} {d : D} {o : HO} (e : Γ[i]? = some (some (.new d))) (hv : σ[i]? = some (some (.ref a))) : ∀ c u, ¬ Ws Z Γ σ c → H c = some u → ¬ Ws Z Γ σ c ∧ upd H a o c = some u := fun c u nc h =>
  ⟨nc, by rw [upd_ne fun z => nc (by rw [z]; exact .inr ⟨i, ⟨⟨_, e⟩, hv⟩⟩)]; exact h⟩
/-- x.insert(k, e) -/
def tlIns (i : Nat) (T U : TX) : TSt := fun E Γ n => match Γ[i]? with
  | some (some (.new (.lst ds))) => T Γ n fun r n1 => U Γ n1 fun s n2 => match r.d with
    | .int k => sto s = true ∧ ds.length ≤ 1000000 ∧ 0 ≤ k ∧ k ≤ 1000000 ∧ E.nx (Γ.set i (some (.new (.lst (ds.take k.toNat ++ [s.d] ++ ds.drop k.toNat))))) n2
    | _ => False
  | _ => False
theorem rs_ins {i : Nat} {t u : TE} {T U : TX} (h : ∀ Z, RE C Z t T) (h2 : ∀ Z, RE C Z u U) : RS C (tDrop (tBM K "list" rInsert (tVar i) (tCons t (tCons u tNil)))) (tlIns i T U) := by
  intro Z G Γ σ H n E F M L h1
  unfold tlIns at h1
  split at h1
  · next ds e =>
    obtain ⟨v, hv, a, rfl, h0, vs, ha, rr⟩ := M.sl i _ e
    refine ⟨_, hv, .inl ⟨rfl, vs, SqL.of ha⟩, ?_⟩
    refine h Z G Γ σ H n _ _ M h1 fun v H1 r n1 e1 p1 x1 r1 => ?_
    have M1 := M.bt e1 p1
    refine h2 Z G Γ σ H1 n1 _ _ M1 r1 fun u H2 s n2 e2 p2 x2 r2 => ?_
    have M2 := M1.bt e2 p2
    have vw := x1.view fun a h => Z.papart M.pdom h
    cases hd : r.d with
    | int k =>
      rw [hd] at r2 vw
      obtain ⟨st, few, k0, k6, r2⟩ := r2
      have e12 := e1.trans e2
      have ha2 := e12 a _ (Z.apart h0) ha
      have rr2 := rr.mono (keepB (fun _ => Ws.pw) e12)
      have rep := x2.rep (fun b w => M1.wdom w) st
      refine ⟨a, vs, k, u, rfl, by rw [vw.int], ha2, by rw [rr.len]; exact small6 few, k0, by omega, ?_⟩
      have key := own_key (Z := Z) (H := H2) (o := .lst (vs.take k.toNat ++ [u] ++ vs.drop k.toNat)) e hv
      exact L.nx _ σ _ n2 (M2.mut (d' := .lst (ds.take k.toNat ++ [s.d] ++ ds.drop k.toNat)) e hv ⟨_, upd_same, (((rr2.mono key).take k.toNat).app (show RepL Z.p C (Ws Z Γ σ) _ [s.d] [u] from ⟨u, [], rfl, rep.mono key, rfl⟩)).app ((rr2.mono key).drop k.toNat)⟩) r2
    | _ => rw [hd] at r2; exact False.elim r2
  · exact h1.elim
/-- x.pop() -/
def tlPop (i : Nat) : TSt := fun E Γ n => match Γ[i]? with
  | some (some (.new (.lst ds))) => ds ≠ [] ∧ E.nx (Γ.set i (some (.new (.lst ds.dropLast)))) n
  | _ => False
theorem RepL.dropLast {p : Option Addr} {W : Addr → Prop} {H : Hp} {ds : List D} {vs : List V} (h : RepL p C W H ds vs) : RepL p C W H ds.dropLast vs.dropLast := by
  rw [List.dropLast_eq_take, List.dropLast_eq_take, h.len]
  exact h.take _
theorem rs_pop {i : Nat} : RS C (tDrop (tBM0 K "list" rPop (tVar i))) (tlPop i) := by
  intro Z G Γ σ H n E F M L h1
  unfold tlPop at h1
  split at h1
  · next ds e =>
    obtain ⟨v, hv, a, rfl, h0, vs, ha, rr⟩ := M.sl i _ e
    have l := rr.len
    have pos : vs.length ≠ 0 := by
      rw [l]
      exact fun z => h1.1 (List.length_eq_zero_iff.1 z)
    refine ⟨_, hv, .inl ⟨rfl, vs, SqL.of ha⟩, a, vs, vs[vs.length - 1]'(by omega), rfl, rfl, ha, List.getElem?_eq_getElem (by omega), ?_⟩
    have key := own_key (Z := Z) (H := H) (o := .lst vs.dropLast) e hv
    exact L.nx _ σ _ n (M.mut (d' := .lst ds.dropLast) e hv ⟨_, upd_same, (rr.mono key).dropLast⟩) h1.2
  · exact h1.elim
end
end TL

-- TLD
set_option Elab.async false
set_option linter.all false
set_option maxRecDepth 100000
set_option maxHeartbeats 4100000
/-! TLD: == and != of shelves beside all else -/
namespace TL
open L2 PyProof.Rows PySem PySem.Spec TS RZ
/-- a shelf at a, its lists at c and r -/
def ShAt (H : Hp) (C a : Addr) (xs ys : List Str) : Prop := ∃ dx c r, H a = some (.ins C dx [("_catalogue", .ref c), ("_row", .ref r)]) ∧ H c = some (.lst (xs.map V.str)) ∧ H r = some (.lst (ys.map V.str))
/-- the answer of shelf == y -/
def EqR (K : PySem.W.Frag) (C : Addr) : Addr → V → Hp → Bool → Prop := fun a y H b => ∃ xs ys, ShAt H C a xs ys ∧ (∀ x ∈ xs, isWord x) ∧ (∀ x ∈ ys, isWord x) ∧
  ((∃ a' xs' ys', y = .ref a' ∧ ShAt H C a' xs' ys' ∧ (∀ x ∈ xs', isWord x) ∧ (∀ x ∈ ys', isWord x) ∧ b = (decide (xs = xs') && decide (ys = ys'))) ∨ (∃ t, TyX K H y t ∧ PySem.W.kitOne K t (.ref C) = some false ∧ b = false))

def rEqA (K : PySem.W.Frag) (C : Addr) : R2 := orR (rEqP K) (OE.rB K C (EqR K C) id)
def rNeA (K : PySem.W.Frag) (C : Addr) : R2 := orR (rNeP K) (OE.rB K C (EqR K C) not)
section
variable {X : Cx} {C fq : Addr} {fdq : FuncData}
theorem op_eqA (hu : X.A.units + 62 < cLine) (F : FnOk X.prog X.w X.K X.mg X.base CX0 1 fq fdq ["self", "other"] (OE.spB (EqR X.K C))) (T : OE.EqC X.K C fq) (hr : Room 1 X.A) (hb : Binds X.K fdq ["self", "other"] []) : OpR X (compareOp .Eq) (rEqA X.K C) :=
  OpR.or (op_eqP hu) (OE.op_eq F T hr hb pass0)
theorem op_neA (hu : X.A.units + 62 < cLine) (F : FnOk X.prog X.w X.K X.mg X.base CX0 1 fq fdq ["self", "other"] (OE.spB (EqR X.K C))) (T : OE.EqC X.K C fq) (hr : Room 2 X.A) (hb : Binds X.K fdq ["self", "other"] []) : OpR X (compareOp .NotEq) (rNeA X.K C) :=
  OpR.or (op_neP hu) (OE.op_ne F T hr hb pass0)
end
def wrds (xs : List Str) : Prop := ∀ x ∈ xs, isWord x
def dEqA : D → D → (Rv → Prop) → Prop
  | .sh xs ys, .sh us ws, R => wrds xs ∧ wrds ys ∧ wrds us ∧ wrds ws ∧ R (.val (.bl (decide (xs = us) && decide (ys = ws))))
  | d, e, R => dEq d e R
def dNeA : D → D → (Rv → Prop) → Prop
  | .sh xs ys, .sh us ws, R => wrds xs ∧ wrds ys ∧ wrds us ∧ wrds ws ∧ R (.val (.bl (!(decide (xs = us) && decide (ys = ws)))))
  | d, e, R => dNe d e R
section
variable {C : Addr} {Z : Zx} {K : PySem.W.Frag}
theorem r2_eqA (I : IsC K C) : R2T C Z (rEqA K C) dEqA := by
  intro W H x y d e R Q hp dm hx hy h q
  unfold dEqA at h
  split at h
  · next xs ys us ws =>
    obtain ⟨w1, w2, w3, w4, h⟩ := h
    obtain ⟨a, dx, c, r, rfl, h1, h2, h3⟩ := hx.sh
    obtain ⟨b, dy, c2, r2, rfl, g1, g2, g3⟩ := hy.sh
    exact .inr ⟨a, dx, _, .ref C, _, rfl, h1, I.ty H b dy _ g1, by simp [PySem.W.notFirst], ⟨xs, ys, ⟨dx, c, r, h1, h2, h3⟩, w1, w2, .inl ⟨b, us, ws, rfl, ⟨dy, c2, r2, g1, g2, g3⟩, w3, w4, rfl⟩⟩, same_bl h q⟩
  · exact .inl (r2_eq W H x y d e R Q hp dm hx hy h q)
theorem r2_neA (I : IsC K C) : R2T C Z (rNeA K C) dNeA := by
  intro W H x y d e R Q hp dm hx hy h q
  unfold dNeA at h
  split at h
  · next xs ys us ws =>
    obtain ⟨w1, w2, w3, w4, h⟩ := h
    obtain ⟨a, dx, c, r, rfl, h1, h2, h3⟩ := hx.sh
    obtain ⟨b, dy, c2, r2, rfl, g1, g2, g3⟩ := hy.sh
    exact .inr ⟨a, dx, _, .ref C, _, rfl, h1, I.ty H b dy _ g1, by simp [PySem.W.notFirst], ⟨xs, ys, ⟨dx, c, r, h1, h2, h3⟩, w1, w2, .inl ⟨b, us, ws, rfl, ⟨dy, c2, r2, g1, g2, g3⟩, w3, w4, rfl⟩⟩, same_bl h q⟩
  · exact .inl (r2_ne W H x y d e R Q hp dm hx hy h q)
end
end TL

-- TLB
set_option Elab.async false
set_option linter.all false
set_option maxRecDepth 100000
set_option maxHeartbeats 4100000
/-! TLB: promises that many laws share; lemmas for walks -/
namespace TL
open L2 PyProof.Rows PySem PySem.Spec TS RZ
/-- the entries of the row's books -/
def rnk (xs ys : List Str) : List Int := ys.map fun y => ((xs.idxOf y : Nat) : Int)
def S_catalogue : ST := fun ds n R => ∃ xs ys, ds = [.sh xs ys] ∧ R (.new (dS xs)) n
def S_row : ST := fun ds n R => ∃ xs ys, ds = [.sh xs ys] ∧ R (.new (dS ys)) n
def S_check : ST := fun ds n R => ∃ xs ys, ds = [.sh xs ys] ∧ R (.val .non) n
def S_ranks : ST := fun ds n R => ∃ xs ys, ds = [.sh xs ys] ∧ Cat xs ∧ Row xs ys ∧ R (.new (dI (rnk xs ys))) n
def S_draw : ST := fun ds n R => ∃ m : Nat, ds = [.purse, .int m] ∧ 1 ≤ m ∧ m < 2 ^ 27 ∧ 1 ≤ n ∧ ∀ r : Nat, r < m → R (.val (.int r)) (n - 1)
def S_word : ST := fun ds n R => ds = [.purse] ∧ 20 ≤ n ∧ ∀ z, isWord z → R (.val (.str z)) (n - 20)
def S_is_catalogue : ST := fun ds n R => ∃ xs : List Str, ds = [dS xs] ∧ Cat xs ∧ R (.val (.bl true)) n
def S_are_unlike : ST := fun ds n R => ∃ xs ys : List Str, ds = [dS xs, dS ys] ∧ xs.length ≤ 100 ∧ ys.length ≤ 100 ∧ (∀ y ∈ ys, y ∈ xs) ∧ ys.Nodup ∧ R (.val (.bl true)) n
section
variable {C : Addr} {p : Option Addr} {W : Addr → Prop} {H : Hp}
theorem ARep.a1 {k : Bool} {d : D} {vs : List V} (h : ARep C p W H [k] [d] vs) : ∃ v, vs = [v] ∧ View p C W H d v := by
  obtain ⟨d0, dr, v, vr, e1, e2, h, e3, e4⟩ := h
  cases e1
  refine ⟨v, by rw [e2, e4], ?_⟩
  cases k with
  | true => exact h
  | false => exact .inl h
theorem ARep.a2 {k j : Bool} {d e : D} {vs : List V} (h : ARep C p W H [k, j] [d, e] vs) : ∃ v u, vs = [v, u] ∧ View p C W H d v ∧ View p C W H e u := by
  obtain ⟨d0, dr, v, vr, e1, e2, h, q⟩ := h
  cases e1
  obtain ⟨u, e5, h2⟩ := q.a1
  refine ⟨v, u, by rw [e2, e5], ?_, h2⟩
  cases k with
  | true => exact h
  | false => exact .inl h
theorem View.purse {v : V} (h : View p C W H .purse v) : ∃ a, v = .ref a ∧ p = some a := by
  rcases h with h | ⟨_, _, _, h⟩
  · exact h
  · exact h.elim
end
/-! ### walks over trees -/
section
variable {pt : Pat} {c : TBx} {e : TX} {Γ : Gm}
/-- a comprehension of pure parts: f of each -/
theorem lcF_map {α : Type} {enc : α → D} {f : α → D} {i : Nat} : ∀ {xs : List α} {acc : List D} {n : Nat} {k : List D → Nat → Prop}, (∀ x ∈ xs, ∀ n R, (∀ r, r.d = f x → sto r = true → R r n) → e (Γ.set i (some (.val (enc x)))) n R) →
    k (acc ++ xs.map f) n → lcF (.nm i) tlYes e Γ (xs.map enc) acc n k
  | [], acc, n, k, _, h => by rw [List.map_nil, List.append_nil] at h; exact h
  | x :: r, acc, n, k, hs, h => by
    change (if true = true then e (Γ.set i (some (.val (enc x)))) n (fun rv n2 => sto rv = true ∧ lcF (.nm i) tlYes e Γ (r.map enc) (acc ++ [rv.d]) n2 k) else lcF (.nm i) tlYes e Γ (r.map enc) acc n k)
    rw [if_pos rfl]
    refine hs x List.mem_cons_self n _ fun rv e st => ⟨st, ?_⟩
    rw [e]
    exact lcF_map (fun y hy => hs y (List.mem_cons_of_mem _ hy)) (by rw [List.append_assoc]; exact h)
/-- a comprehension that keeps some -/
theorem lcF_filter {α : Type} {enc : α → D} {f : α → D} {b : α → Bool} {i : Nat} : ∀ {xs : List α} {acc : List D} {n : Nat} {k : List D → Nat → Prop}, (∀ x ∈ xs, ∀ n (R : Bool → Nat → Prop), R (b x) n → c (Γ.set i (some (.val (enc x)))) n R) → (∀ x ∈ xs, b x = true → ∀ n R, (∀ r, r.d = f x → sto r = true → R r n) → e (Γ.set i (some (.val (enc x)))) n R) →
    k (acc ++ (xs.filter b).map f) n → lcF (.nm i) c e Γ (xs.map enc) acc n k
  | [], acc, n, k, _, _, h => by rw [List.filter_nil, List.map_nil, List.append_nil] at h; exact h
  | x :: r, acc, n, k, hc, hs, h => by
    change c (Γ.set i (some (.val (enc x)))) n (fun b n1 => if b = true then e (Γ.set i (some (.val (enc x)))) n1 (fun rv n2 => sto rv = true ∧ lcF (.nm i) c e Γ (r.map enc) (acc ++ [rv.d]) n2 k) else lcF (.nm i) c e Γ (r.map enc) acc n1 k)
    refine hc x List.mem_cons_self n _ ?_
    have ih := fun (acc : List D) (h : k (acc ++ (r.filter b).map f) n) => lcF_filter (fun y hy => hc y (List.mem_cons_of_mem _ hy)) (fun y hy => hs y (List.mem_cons_of_mem _ hy)) h
    cases hb : b x with
    | true =>
      rw [if_pos rfl]
      refine hs x List.mem_cons_self hb n _ fun rv e st => ⟨st, ?_⟩
      rw [e]
      refine ih _ ?_
      rw [List.filter_cons, hb, if_pos rfl] at h
      rw [List.append_assoc]
      exact h
    | false =>
      rw [if_neg (by simp)]
      refine ih _ ?_
      rw [List.filter_cons, hb, if_neg (by simp)] at h
      exact h
/-- in general: an invariant by what is done -/
theorem lcF_inv {k : List D → Nat → Prop} (Iv : Nat → List D → Nat → Prop) : ∀ {ds : List D} {j : Nat} {acc : List D} {n : Nat}, Iv j acc n →
    (∀ (i : Nat) (d : D) (acc : List D) (n : Nat), ds[i]? = some d → Iv (j + i) acc n → ∃ Γ', bindP pt d Γ = some Γ' ∧ c Γ' n fun b n1 => if b = true then e Γ' n1 fun rv n2 => sto rv = true ∧ Iv (j + i + 1) (acc ++ [rv.d]) n2 else Iv (j + i + 1) acc n1) →
    (∀ acc n, Iv (j + ds.length) acc n → k acc n) → (∀ Γ' n (R R' : Bool → Nat → Prop), (∀ b m, R b m → R' b m) → c Γ' n R → c Γ' n R') → (∀ Γ' n (R R' : Rv → Nat → Prop), (∀ b m, R b m → R' b m) → e Γ' n R → e Γ' n R') → lcF pt c e Γ ds acc n k
  | [], j, acc, n, h0, _, hd, _, _ => hd acc n h0
  | d :: r, j, acc, n, h0, hs, hd, mc, me => by
    obtain ⟨Γ', eb, h⟩ := hs 0 d acc n rfl h0
    unfold lcF
    rw [eb]
    have ih : ∀ acc n, Iv (j + 1) acc n → lcF pt c e Γ r acc n k := fun acc n h1 => lcF_inv Iv h1 (fun i d acc n hi hI => by
      have := hs (i + 1) d acc n (by simpa using hi) (by rw [show j + (i + 1) = j + 1 + i by omega]; exact hI)
      rw [show j + (i + 1) + 1 = j + 1 + i + 1 by omega] at this
      exact this) (fun acc n h => hd acc n (by rw [List.length_cons, show j + (r.length + 1) = j + 1 + r.length by omega]; exact h)) mc me
    refine mc _ _ _ _ (fun b m hb => ?_) h
    cases b with
    | true =>
      rw [if_pos rfl] at hb ⊢
      exact me _ _ _ _ (fun rv m ⟨st, h⟩ => ⟨st, ih _ _ h⟩) hb
    | false =>
      rw [if_neg (by simp)] at hb ⊢
      exact ih _ _ hb
end
/-- a walk's invariant -/
theorem forF_inv {pt : Pat} {T : TSt} {E : TEn} (Iv : Nat → Gm → Nat → Prop) : ∀ {ds : List D} {j : Nat} {Γ : Gm} {n : Nat}, Iv j Γ n →
    (∀ (i : Nat) (d : D) (Γ : Gm) (n : Nat), ds[i]? = some d → Iv (j + i) Γ n → ∃ Γ', bindP pt d Γ = some Γ' ∧ ∀ k : Gm → Nat → Prop, (∀ Γ n, Iv (j + i + 1) Γ n → k Γ n) → T { nx := k, ct := k, bk := E.nx, rt := E.rt } Γ' n) →
    (∀ Γ n, Iv (j + ds.length) Γ n → E.nx Γ n) → forF pt T E ds Γ n
  | [], j, Γ, n, h0, _, hd => hd Γ n h0
  | d :: r, j, Γ, n, h0, hs, hd => by
    obtain ⟨Γ', eb, h⟩ := hs 0 d Γ n rfl h0
    unfold forF
    rw [eb]
    refine h _ fun Γ2 n2 h1 => forF_inv Iv h1 (fun i d Γ n hi hI => ?_) fun Γ n h => hd Γ n (by rw [List.length_cons, show j + (r.length + 1) = j + 1 + r.length by omega]; exact h)
    have := hs (i + 1) d Γ n (by simpa using hi) (by rw [show j + (i + 1) = j + 1 + i by omega]; exact hI)
    rw [show j + (i + 1) + 1 = j + 1 + i + 1 by omega] at this
    exact this
end TL

-- TLE
set_option Elab.async false
set_option linter.all false
set_option maxRecDepth 100000
set_option maxHeartbeats 4100000
/-! TLE: a, b = x, y through a tuple (names that blocks within share) -/
namespace TL
open L2 PyProof.Rows PySem PySem.Spec TS RZ
section
variable {C : Addr} {K : PySem.W.Frag}
theorem two_line : (2 : Nat) ≤ sizeLine := by decide +kernel
theorem Mt.set_newS {Z : Zx} {G : List (V × Rv)} {Γ : Gm} {σ : L2.St} {H H1 H2 : Hp} {n m : Nat} (M : Mt C Z G Γ σ H n) {i : Nat} {d : D} {b : Addr} (e : Bt Z.p H H1) (s : Same H1 H2) (pa : PAt Z.p H1 m) (nb : H b = none) (r : RepO Z.p C (fun c => Ws Z Γ σ c ∨ c = b) H1 b d) :
    Mt C Z G (Γ.set i (some (.new d))) (σ.set i (some (.ref b))) H2 m :=
  (M.set_new e pa nb r).same s
theorem rs_parU {t u : TE} {T U : TX} {i j : Nat} (h : ∀ Z, RE C Z t T) (h2 : ∀ Z, RE C Z u U) : RS C (tAsg (tTup (tCons t (tCons u tNil))) (gUn K 2 (gNms [i, j]))) (tlPar i j T U) := by
  intro Z G Γ σ H n E F M L h1
  refine h Z G Γ σ H n _ _ M h1 fun v H1 r n1 e1 p1 x1 r1 => ?_
  have M1 := M.bt e1 p1
  match r, x1, r1 with
  | .val d, x1, r1 =>
    refine h2 Z G Γ σ H1 n1 _ _ M1 r1 fun u H2 s n2 e2 p2 x2 r2 => ⟨two_line, fun tp ntp => .inl ⟨tp, [v, u], rfl, SqT.of upd_same, rfl, v, [u], rfl, u, [], rfl, rfl, ?_⟩⟩
    have st := same_upd (o := .tup [v, u]) ntp
    have MV := M1.set_val (i := i) x1
    have sub : ∀ a, Ws Z (Γ.set i (some (.val d))) (σ.set i (some v)) a → Ws Z Γ σ a := fun a h => h.elim .inl fun ⟨j, h⟩ => .inr ⟨j, h.of_set.1⟩
    match s, x2, r2 with
    | .val e, x2, r2 => exact L.nx _ _ _ n2 (((MV.bt e2 p2).set_val (Rep.mono (fun c o nc h => ⟨fun z => nc (sub c z), h⟩) x2)).same st) r2
    | .new e, ⟨b, eb, nb, ro⟩, r2 =>
      subst eb
      exact L.nx _ _ _ n2 ((MV.set_new e2 p2 nb (ro.mono (fun c o nc h => ⟨fun z => nc (z.imp (sub c) id), h⟩) fun _ h => h)).same st) r2
  | .new d, ⟨a, ea, na, ro⟩, r1 =>
    subst ea
    obtain ⟨oa, ha⟩ := ro.at
    have MN := M.set_new (i := i) e1 p1 na ro
    have pw : ∀ b, Z.p = some b → (Ws Z Γ σ b ∨ b = a) := fun b z => .inl (Ws.pw z)
    have dom : ∀ b, (Ws Z Γ σ b ∨ b = a) → ∃ o, H1 b = some o := fun b w => w.elim (fun z => M1.wdom z) fun z => ⟨oa, by rw [z]; exact ha⟩
    have MW := M.within (Dn := a) na e1 p1 (W := fun b => Ws Z Γ σ b ∨ b = a) (fun b => Iff.rfl) dom pw
    refine h2 _ [] _ σ H1 n1 _ _ MW r1 fun u H2 s n2 e2 p2 x2 r2 => ⟨two_line, fun tp ntp => .inl ⟨tp, [.ref a, u], rfl, SqT.of upd_same, rfl, _, [u], rfl, u, [], rfl, rfl, ?_⟩⟩
    have st := same_upd (o := .tup [.ref a, u]) ntp
    have sub : ∀ c, Ws Z (Γ.set i (some (.new d))) (σ.set i (some (.ref a))) c → Ws (Zx.at Z.p (fun b => Ws Z Γ σ b ∨ b = a) H1 dom pw) (borG Γ) σ c := fun c h =>
      .inl (h.elim (fun z => .inl (.inl z)) fun ⟨k, h⟩ => h.of_setN.elim (fun z => .inr z.2) fun z => .inl (.inr ⟨k, z.1⟩))
    match s, x2, r2 with
    | .val e, x2, r2 => exact L.nx _ _ _ n2 (((MN.bt e2 p2).set_val (Rep.mono (fun c o nc h => ⟨fun z => nc (sub c z), h⟩) x2)).same st) r2
    | .new e, ⟨b, eb, nb, ro2⟩, r2 =>
      subst eb
      exact L.nx _ _ _ n2 ((MN.set_new e2 p2 nb (RepO.mono (fun c o nc h => ⟨fun z => nc (z.imp (sub c) id), h⟩) (fun _ h => h) ro2)).same st) r2
end
end TL

-- TMin
set_option Elab.async false
set_option linter.all false
set_option maxRecDepth 100000
set_option maxHeartbeats 4100000
/-! ### min(xs, key=len), xs a list of tuples -/
namespace TMin
open L2 PyProof.Rows PySem PySem.Spec
theorem first_least (num : Nat → Int) : ∀ k, argBest (fun i j => decide (num i < num j)) k ≤ k ∧ ∀ j, j ≤ k → num (argBest (fun i j => decide (num i < num j)) k) ≤ num j ∧ (j < argBest (fun i j => decide (num i < num j)) k → num (argBest (fun i j => decide (num i < num j)) k) < num j)
  | 0 => ⟨Nat.le_refl _, fun j hj => by
      obtain rfl : j = 0 := by omega
      exact ⟨Int.le_refl _, fun h => absurd h (Nat.lt_irrefl _)⟩⟩
  | k + 1 => by
    obtain ⟨h1, h2⟩ := first_least num k
    unfold argBest
    by_cases q : num (k + 1) < num (argBest (fun i j => decide (num i < num j)) k)
    · rw [if_pos (by simpa using q)]
      refine ⟨Nat.le_refl _, fun j hj => ?_⟩
      by_cases e : j = k + 1
      · subst e
        exact ⟨Int.le_refl _, fun h => absurd h (Nat.lt_irrefl _)⟩
      · have := (h2 j (by omega)).1
        exact ⟨by omega, fun _ => by omega⟩
    · rw [if_neg (by simpa using q)]
      refine ⟨by omega, fun j hj => ?_⟩
      by_cases e : j = k + 1
      · subst e
        exact ⟨by omega, fun h => by omega⟩
      · exact h2 j (by omega)
def rMinLen (K : PySem.W.Frag) : List V → Hp → VK → Prop := fun vs H1 Q => ∃ (a : Addr) (us : List V) (kf : Nat → Nat), vs = [.ref a] ∧ SqL K H1 a us ∧ us ≠ [] ∧ (∀ i u, us[i]? = some u → ∃ t ys, u = .ref t ∧ SqT K H1 t ys ∧ ys.length = kf i) ∧
  ∀ i u, us[i]? = some u → (∀ j, j < us.length → kf i ≤ kf j ∧ (j < i → kf i < kf j)) → Q u H1
theorem vals_back : ∀ {ws : List V} {its : List Value} {i : Nat} {v : Value}, Vals ws its → its[i]? = some v → ∃ u, ws[i]? = some u ∧ RelV u v
  | _, _, i, v, .nil, e => by simp at e
  | _, _, 0, v, .cons r _, e => by
    obtain rfl := Option.some.inj e
    exact ⟨_, rfl, r⟩
  | _, _, i + 1, v, .cons _ q, e => vals_back (i := i) q e
section
variable {X : Cx} {e : Expr} {p p2 pos kpos : Pos} {ta : TA}
theorem pe_minLen (hc : X.calm = true) (hg : Gl X "min") (hm : X.mg "min" = none) (hgl : Gl X "len") (hml : X.mg "len" = none) (ha : PA X [e] ta)
    (hs : backTo pos (starEach [e] X.env) = (false, eval e X.env) :: backTo pos (starEach [] X.env) := by rfl) (hpl : (backTo pos (starEach [e] X.env)).any (·.1) = false := by rfl)
    (hks : (backToKw pos (keywordEach [⟨some "key", .Name "len" p2, kpos⟩] X.env)).filterMap (·.1) = [Str.ofString "key"] := by rfl)
    (hall : (backToKw pos (keywordEach [⟨some "key", .Name "len" p2, kpos⟩] X.env)).all (·.1.isSome) = true := by rfl) (hnone : (backToKw pos (keywordEach [⟨some "key", .Name "len" p2, kpos⟩] X.env)).any (·.1.isNone) = false := by rfl) :
    PE X (.Call (.Name "min" p) [e] [⟨some "key", .Name "len" p2, kpos⟩] pos) (tCB (rMinLen X.K) ta) := by
  refine ⟨fun pins s σ H Q I h => ?_⟩
  refine wpAny_Call_Name_kw (ld_blt I hg hm (u := .builtin "min") (by decide +kernel) ?_)
  refine PyProof.Rows.callWith_kw (thn (ha.run pos pins s σ H _ I h) fun us s1 ⟨vs, H1, I1, r1, q1⟩ => ?_) hs hpl hall hnone
  rw [hks]
  show wpAny _ _ (evalAll [do let v ← eval (.Name "len" p2) X.env; standAt pos; pure v]) _ _ s1
  refine wpAny_evalAll_cons (wpAny_bind (ld_blt I1 hgl hml (u := .builtin "len") (by decide +kernel) (wpAny_bind (wpAny_standAt (wpAny_pure (wpAny_evalAll_nil ?_))))))
  obtain ⟨a, ws, kf, rfl, hS, hne, hk, q⟩ := q1
  rw [Vals.ref1 r1]
  obtain ⟨its, rv, hl, hz⟩ := I1.list hS
  have hlen := rv.length
  have line := line63
  show wpAny (model X.prog X.w) X.A (call (.builtin "min") [.ref a] [(Str.ofString "key", .builtin "len")]) _ _ s1
  have pos : 0 < its.toArray.size := by
    rw [List.size_toArray, ← hlen]
    exact List.length_pos_iff.2 hne
  refine call_min_walkKB (PySem.W.iter_listW (A := X.A.in1) (I1.ok.hd hc) hl.isList fun s₂ e₂ W st0 hfp _ hk2 => ⟨s1.heap.objs.size, _, _, _, _, _, _, fun s' => (∀ b o, s1.heap.get? b = some o → s'.heap.get? b = some o) ∧ s'.gens = s1.gens ∧ s'.drawn = s1.drawn ∧ s'.os = s1.os, fun i k _ => ∃ t, k = .int (kf i) t,
    fun i j => decide ((kf i : Int) < (kf j : Int)), rfl, W, st0, hfp, pos, ?_, ?_, fun v s' hv hJ => ?_⟩)
  · have sz : s₂.heap.objs.size = s1.heap.objs.size + 1 := by rw [e₂]; exact Heap.size_push ..
    refine ⟨fun t t' hJ mv => ⟨fun b o e => mv.heap b o ?_ (hJ.1 b o e), mv.gens.trans hJ.2.1, mv.drawn.trans hJ.2.2.1, mv.os.trans hJ.2.2.2⟩, fun i k t t' h _ => h, fun i v t o Q' E' hi hP hJ hst hS2 hQ => ?_, fun i j ki kj t Q' E' _ ⟨t1, h1⟩ ⟨t2, h2⟩ hQ => ?_⟩
    · have lt := Heap.lt_size e
      intro hm
      rcases List.mem_cons.1 hm with z | z
      · rw [z, sz] at lt
        exact Nat.lt_irrefl _ (Nat.lt_of_succ_lt lt)
      · rw [List.mem_singleton.1 z] at lt
        exact Nat.lt_irrefl _ lt
    · have hP : its[i]? = some v := by simpa using hP
      obtain ⟨u, hu, ru⟩ := vals_back rv hP
      obtain ⟨t0, ys, rfl, hT, ly⟩ := hk i u hu
      obtain rfl : v = Value.ref t0 := ru
      obtain ⟨it2, rv2, ht2, hz2⟩ := I1.tuple hT
      have l2 := rv2.length
      obtain ⟨o2, e2, r2⟩ := ht2
      have ht3 : IsTup t.heap t0 it2.toArray := ⟨o2, hJ.1 _ _ e2, r2⟩
      refine len_tuple ht3 (by simp only [List.size_toArray] <;> omega) (hQ _ _ hJ hst hS2 ⟨t.toks + 1, ?_⟩ fun _ _ h => h)
      rw [List.size_toArray, ← l2, ly]
    · subst h1 h2
      exact CmpOf.ints_lt (P := fun i v => ∃ t, v = .int ((kf i : Nat) : Int) t) (fun i => ((kf i : Nat) : Int)) (fun i v h => h) i j _ _ _ _ _ ⟨t1, rfl⟩ ⟨t2, rfl⟩ hQ
  · rw [e₂]
    exact ⟨fun b o e => Heap.get?_push_of_some _ e, rfl, rfl, rfl⟩
  · obtain ⟨b1, b2⟩ := first_least (fun i => ((kf i : Nat) : Int)) (its.toArray.size - 1)
    have hv : its[argBest (fun i j => decide (((kf i : Nat) : Int) < ((kf j : Nat) : Int))) (its.toArray.size - 1)]? = some v := by simpa using hv
    generalize argBest (fun i j => decide (((kf i : Nat) : Int) < ((kf j : Nat) : Int))) (its.toArray.size - 1) = m at b1 b2 hv
    obtain ⟨u, hu, ru⟩ := vals_back rv hv
    have e : s' = { s1 with heap := s'.heap, toks := s'.toks } := by
      obtain ⟨_, g1, g2, g3⟩ := hJ
      cases s'
      cases s1
      simp_all
    rw [e]
    refine ⟨u, H1, I1.kept hJ.1, ru, q m u hu fun j hj => ?_⟩
    rw [List.size_toArray] at b2
    have := b2 j (by omega)
    exact ⟨by omega, fun h => by have := this.2 h; omega⟩
end
end TMin

-- TLF
set_option Elab.async false
set_option linter.all false
set_option maxRecDepth 100000
set_option maxHeartbeats 4100000
/-! TLF: min(xs, key=len) of a list of tuples, by trees; a law's head and foot -/
namespace TL
open L2 PyProof.Rows PySem PySem.Spec TS TMin
section
variable {C : Addr} {K : PySem.W.Frag} {Z : Zx}
/-- the first of those with fewest parts -/
def Shortest {α : Type} (xss : List (List α)) (t : List α) : Prop := ∃ i : Nat, xss[i]? = some t ∧ ∀ j u, xss[j]? = some u → t.length ≤ u.length ∧ (j < i → t.length < u.length)
def dMinLen : List D → (Rv → Prop) → Prop
  | [.lst ds], R => ∃ dss : List (List D), ds = dss.map .tup ∧ dss ≠ [] ∧ ∀ t, Shortest dss t → R (.val (.tup t))
  | _, _ => False
theorem rn_minLen : RnT C Z (rMinLen K) dMinLen := by
  intro W H xs ds R Q hp dm hx h q
  unfold dMinLen at h
  split at h
  · obtain ⟨dss, rfl, ne, h⟩ := h
    obtain ⟨v, rfl, hv⟩ := hx.one
    obtain ⟨a, vs, rfl, ha, r⟩ := hv.lst
    have ln := r.len
    rw [List.length_map] at ln
    have part : ∀ i u, vs[i]? = some u → ∃ t, dss[i]? = some t ∧ Rep Z.p C W H (.tup t) u := fun i u hu => by
      obtain ⟨d, hd, hr⟩ := r.nth hu
      rw [List.getElem?_map] at hd
      obtain ⟨t, ht, rfl⟩ := Option.map_eq_some_iff.1 hd
      exact ⟨t, ht, hr⟩
    refine ⟨a, vs, fun i => ((dss[i]?).getD []).length, rfl, SqL.of ha, fun e => ne ?_, fun i u hu => ?_, fun i u hu hb => ?_⟩
    · rw [e] at ln
      exact List.length_eq_zero_iff.1 ln.symm
    · obtain ⟨t, ht, b, rfl, _, ys, hb, ry⟩ := part i u hu
      exact ⟨b, ys, rfl, SqT.of hb, by show ys.length = ((dss[i]?).getD []).length; rw [ry.len, ht]; rfl⟩
    · obtain ⟨t, ht, hr⟩ := part i u hu
      refine q u H (.val (.tup t)) (fun _ _ h => h) hr (h t ⟨i, ht, fun j w hw => ?_⟩)
      have lj := (List.getElem?_eq_some_iff.1 hw).1
      have := hb j (by omega)
      simp only [ht, hw, Option.getD_some] at this
      exact this
  · exact h.elim
end
end TL

-- TLG
set_option Elab.async false
set_option linter.all false
set_option maxRecDepth 100000
set_option maxHeartbeats 4100000
/-! TLG: statements that leave a slot alone; lists of new lists, spoilt behind a question -/
namespace TL
open L2 PyProof.Rows PySem PySem.Spec TS RZ
/-- what is wanted behind, the slot i0 still holding v0 -/
structure Lkx (C : Addr) (Z : Zx) (G : List (V × Rv)) (i0 : Nat) (v0 : V) (E : TEn) (F : Ends) : Prop where
  nx : ∀ Γ σ H n, Mt C Z G Γ σ H n → σ[i0]? = some (some v0) → E.nx Γ n → F.nx σ H
  rt : ∀ v H r n, Bt Z.p Z.H0 H → PAt Z.p H n → sto r = true → XOk C Z Z.W0 Z.H0 H r v → E.rt r n → F.rt v H
  bk : ∀ Γ σ H n, Mt C Z G Γ σ H n → σ[i0]? = some (some v0) → E.bk Γ n → F.bk σ H
  ct : ∀ Γ σ H n, Mt C Z G Γ σ H n → σ[i0]? = some (some v0) → E.ct Γ n → F.ct σ H
def RSx (C : Addr) (i0 : Nat) (t : TS) (T : TSt) : Prop := ∀ (v0 : V) (Z : Zx) (G : List (V × Rv)) (Γ : Gm) (σ : L2.St) (H : Hp) (n : Nat) (E : TEn) (F : Ends), Mt C Z G Γ σ H n → σ[i0]? = some (some v0) → Lkx C Z G i0 v0 E F → T E Γ n → t F σ H
section
variable {C : Addr} {K : PySem.W.Frag} {i0 : Nat}
theorem rx_nx : RSx C i0 tNext tlNx := fun v0 Z G Γ σ H n E F M h0 L h => L.nx Γ σ H n M h0 h
theorem rx_bk : RSx C i0 tBreak tlBk := fun v0 Z G Γ σ H n E F M h0 L h => L.bk Γ σ H n M h0 h
theorem rx_ct : RSx C i0 tCont tlCt := fun v0 Z G Γ σ H n E F M h0 L h => L.ct Γ σ H n M h0 h
theorem rx_never : RSx C i0 tNever tlNever := fun v0 Z G Γ σ H n E F M h0 L h => h.elim
theorem rx_sq {t u : TS} {T U : TSt} (h1 : RSx C i0 t T) (h2 : RSx C i0 u U) : RSx C i0 (tSeq t u) (tlSq T U) := fun v0 Z G Γ σ H n E F M h0 L h =>
  h1 v0 Z G Γ σ H n { E with nx := U E } { F with nx := u F } M h0 ⟨fun Γ' σ' H' n' M' h0' h' => h2 v0 Z G Γ' σ' H' n' E F M' h0' L h', L.rt, L.bk, L.ct⟩ h
theorem keep_at {σ : L2.St} {i : Nat} {x : Option V} {v0 : V} (ne : i ≠ i0) (h : σ[i0]? = some (some v0)) : (σ.set i x)[i0]? = some (some v0) := by
  rw [List.getElem?_set_ne ne]
  exact h
theorem rx_set {t : TE} {T : TX} {i : Nat} (ne : i ≠ i0) (h : ∀ Z, RE C Z t T) : RSx C i0 (tAsg t (gName i)) (tlSet i T) := by
  intro v0 Z G Γ σ H n E F M h0 L h1
  refine h Z G Γ σ H n _ _ M h1 fun v H1 r n1 e1 p1 x1 r1 => ?_
  have M1 := M.bt e1 p1
  match r, x1, r1 with
  | .val d, x1, r1 => exact L.nx _ _ _ n1 (M1.set_val x1) (keep_at ne h0) r1
  | .new d, ⟨a, ea, na, ro⟩, r1 =>
    subst ea
    exact L.nx _ _ _ n1 (M.set_new e1 p1 na ro) (keep_at ne h0) r1
theorem rx_ret {t : TE} {T : TX} (h : ∀ Z, RE C Z t T) : RSx C i0 (tRet t) (tlRet T) := by
  intro v0 Z G Γ σ H n E F M h0 L h1
  exact rs_ret h Z G Γ σ H n { E with nx := fun _ _ => False, bk := fun _ _ => False, ct := fun _ _ => False } F M ⟨fun _ _ _ _ _ h => h.elim, L.rt, fun _ _ _ _ _ h => h.elim, fun _ _ _ _ _ h => h.elim⟩ h1
theorem rx_if {c : TT} {t u : TS} {Tc : TBx} {T U : TSt} (hc : ∀ Z, RT C Z c Tc) (h1 : RSx C i0 t T) (h2 : RSx C i0 u U) : RSx C i0 (tIfS c t u) (tlIf Tc T U) := by
  intro v0 Z G Γ σ H n E F M h0 L h
  refine hc Z G Γ σ H n _ _ M h fun b H1 n1 e1 p1 r1 => ?_
  have M1 := M.bt e1 p1
  cases b with
  | true => exact iteT (h1 v0 Z G Γ σ H1 n1 E F M1 h0 L r1)
  | false => exact iteF (h2 v0 Z G Γ σ H1 n1 E F M1 h0 L r1)
theorem rx_rel {t : TS} {T : TSt} (i : Nat) (h : RSx C i0 t T) : RSx C i0 t (tlRel i T) := by
  intro v0 Z G Γ σ H n E F M h0 L h1
  unfold tlRel relG at h1
  split at h1
  · next d e => exact h v0 Z G _ σ H n E F (M.release e) h0 L h1
  · exact h v0 Z G Γ σ H n E F M h0 L h1
theorem rx_for {wi : TI} {i : Nat} {tb : TS} {I : TIx} {T : TSt} (ne : i ≠ i0) (hi : ∀ Z, RI C Z wi I) (_ : RG C (gName i) (.nm i)) (hb : RSx C i0 tb T) : RSx C i0 (tFor wi (gName i) tb) (tlFor I (.nm i) T) := by
  intro v0 Z G Γ σ H n E F M h0 L h
  refine hi Z G Γ σ H n _ _ M h fun J H1 n1 ds gs b e1 p1 wok gok last ⟨eb, r1⟩ => ?_
  have lst : ∀ g ∈ gs, 1 ≤ rank g.2 := fun g hg => Nat.le_trans eb (last g hg)
  obtain ⟨Gd, Y, w, hG, hY⟩ := wok
  have M1 := M.bt e1 p1
  have M2 : Mt C Z (gs ++ G) Γ σ H1 n1 := ⟨M1.len, M1.fr, M1.pa, M1.sl, fun g hg => (List.mem_append.1 hg).elim (fun z => (gok g z).sok (lst g z)) (M1.gs g), M1.inj⟩
  have views : ∀ {Γ' : Gm} {σ' : L2.St} {H' : Hp} {k : Nat}, Mt C Z (gs ++ G) Γ' σ' H' k → ∀ g ∈ gs, View Z.p C (Ws Z Γ' σ') H' g.2.d g.1 := fun M' g hg => (M'.gs g (List.mem_append_left _ hg)).1.view fun a => Z.apart
  have drop : ∀ {Γ' : Gm} {σ' : L2.St} {H' : Hp} {k : Nat}, Mt C Z (gs ++ G) Γ' σ' H' k → Mt C Z G Γ' σ' H' k := fun M' => ⟨M'.len, M'.fr, M'.pa, M'.sl, fun g hg => M'.gs g (List.mem_append_right _ hg), M'.inj⟩
  refine for_it w (D := F) (fun i σ' H' => σ'[i0]? = some (some v0) ∧ ∃ (Γ' : Gm) (k : Nat), Mt C Z (gs ++ G) Γ' σ' H' k ∧ forF (.nm _) T E (ds.drop i) Γ' k) ⟨h0, Γ, n1, M2, r1⟩ ?_ ?_ ?_
  · rintro i σ' H' _ ⟨_, Γ', k, M', _⟩
    exact hG _ H' (views M')
  · rintro j x σ' H' H3 hi ⟨h0', Γ', k, M', r2⟩ y
    obtain ⟨s3, d, hd, rd⟩ := hY _ j H' x H3 (fun a w => M'.wdom w) (views M') hi y
    rw [drop_cons hd] at r2
    unfold forF at r2
    split at r2
    · next Γ2 eb2 =>
      obtain rfl := Option.some.inj eb2
      have M3 := (M'.same s3).set_val (i := i) rd
      refine hb v0 Z (gs ++ G) _ _ H3 k { nx := forF (.nm i) T E (ds.drop (j + 1)), ct := forF (.nm i) T E (ds.drop (j + 1)), bk := E.nx, rt := E.rt } _ M3 (keep_at ne h0') ⟨fun Γ4 σ4 H4 k4 M4 h4 r4 => ⟨h4, Γ4, k4, M4, r4⟩, L.rt, fun Γ4 σ4 H4 k4 M4 h4 r4 => L.nx Γ4 σ4 H4 k4 (drop M4) h4 r4, fun Γ4 σ4 H4 k4 M4 h4 r4 => ⟨h4, Γ4, k4, M4, r4⟩⟩ r2
    · exact r2.elim
  · rintro σ' H' ⟨h0', Γ', k, M', r2⟩
    rw [List.drop_length] at r2
    exact L.nx Γ' σ' H' k (drop M') h0' r2
end
theorem seq_assoc {a b c : TS} : tSeq a (tSeq b c) = tSeq (tSeq a b) c := rfl
theorem seq_next {a : TS} : a = tSeq tNext a := rfl
/-! ### a law's slots -/
mutual
/-- no purse within -/
def npu : D → Bool
  | .purse => false
  | .lst ds => npus ds
  | .tup ds => npus ds
  | .dk _ ds => npus ds
  | .dt _ ds => npus ds
  | .ob _ _ ds => npus ds
  | _ => true
def npus : List D → Bool
  | [] => true
  | d :: r => npu d && npus r
end
section
variable {C : Addr} {p p' : Option Addr} {W W' : Addr → Prop} {H H' : Hp}
mutual
theorem Rep.any (k : ∀ c o, ¬ W c → H c = some o → ¬ W' c ∧ H' c = some o) : ∀ {d : D} {v : V}, npu d = true → Rep p C W H d v → Rep p' C W' H' d v
  | .non, _, _, h => h
  | .bl _, _, _, h => h
  | .int _, _, _, h => h
  | .str _, _, _, h => h
  | .lst ds, _, q, ⟨a, e, na, vs, ha, r⟩ => ⟨a, e, (k _ _ na ha).1, vs, (k _ _ na ha).2, RepL.any k q r⟩
  | .tup ds, _, q, ⟨a, e, na, vs, ha, r⟩ => ⟨a, e, (k _ _ na ha).1, vs, (k _ _ na ha).2, RepL.any k q r⟩
  | .dk ks ds, _, q, ⟨a, e, na, vs, ha, l, r⟩ => ⟨a, e, (k _ _ na ha).1, vs, (k _ _ na ha).2, l, RepL.any k q r⟩
  | .dt ks ds, _, q, ⟨a, e, na, vs, ha, l, r⟩ => ⟨a, e, (k _ _ na ha).1, vs, (k _ _ na ha).2, l, RepL.any k q r⟩
  | .sh xs ys, _, _, ⟨a, e, na, dx, c, r, ha, hc, hr, nc, nr⟩ => ⟨a, e, (k _ _ na ha).1, dx, c, r, (k _ _ na ha).2, (k _ _ nc hc).2, (k _ _ nr hr).2, (k _ _ nc hc).1, (k _ _ nr hr).1⟩
  | .ob _ _ ds, _, q, ⟨a, e, na, dx, vs, ha, l, r⟩ => ⟨a, e, (k _ _ na ha).1, dx, vs, (k _ _ na ha).2, l, RepL.any k q r⟩
  | .purse, _, q, _ => nomatch q
theorem RepL.any (k : ∀ c o, ¬ W c → H c = some o → ¬ W' c ∧ H' c = some o) : ∀ {ds : List D} {vs : List V}, npus ds = true → RepL p C W H ds vs → RepL p' C W' H' ds vs
  | [], _, _, h => h
  | d :: r, _, q, ⟨v, vr, e, h, h2⟩ => by
    rw [npus, Bool.and_eq_true] at q
    exact ⟨v, vr, e, Rep.any k q.1 h, RepL.any k q.2 h2⟩
end
end
/-- what a law keeps in its slots ahead of its purses -/
def Keeps (keep Γ : Gm) : Prop := ∀ (i : Nat) (d : D), keep[i]? = some (some (.val d)) → Γ[i]? = some (some (.val d)) ∨ Γ[i]? = some (some (.new d))
def Kept (keep Γ : Gm) : Prop := Γ.length = keep.length ∧ ∀ (i : Nat) (d : D), keep[i]? = some (some (.val d)) → Γ[i]? = some (some (.val d))
end TL

-- TLH
set_option Elab.async false
set_option linter.all false
set_option maxRecDepth 100000
set_option maxHeartbeats 4100000
/-! TLH: a list of new lists is asked about, then spoilt: x = [f(..), ..]; if ..: return ..; x[j].append(..); x[j][k] = .. -/
namespace TL
open L2 PyProof.Rows PySem PySem.Spec TS RZ
/-- L holds vs; the new lists among them stand at places that were free at H0 -/
structure Nst (H0 H : Hp) (L : Addr) (vs : List V) (rs : List Rv) (m : Nat) : Prop where
  lst : H L = some (.lst vs)
  own : H0 L = none
  few : rs.length ≤ 1000
  len : vs.length = rs.length
  it : ∀ (j : Nat) (ds : List D), rs[j]? = some (.new (.lst ds)) → ∃ a us, vs[j]? = some (.ref a) ∧ H0 a = none ∧ a ≠ L ∧ H a = some (.lst us) ∧ ds.length ≤ us.length ∧ (ds.length ≤ 1000000 → us.length ≤ 1000000 + m)
section
variable {C : Addr} {K : PySem.W.Frag} {Z : Zx} {G : List (V × Rv)} {Γ : Gm} {σ : L2.St} {H0 H H' : Hp} {L : Addr} {vs : List V} {rs : List Rv} {i m n n0 : Nat}
theorem Nst.bt (N : Nst H0 H L vs rs m) (np : ∀ a, Z.p = some a → ∃ o, H0 a = some o) (e : Bt Z.p H H') : Nst H0 H' L vs rs m where
  lst := e _ _ (fun z => by obtain ⟨o, h⟩ := np _ z; rw [N.own] at h; cases h) N.lst
  own := N.own
  few := N.few
  len := N.len
  it := fun j ds hj => by
    obtain ⟨a, us, h1, h2, h3, h4, h5⟩ := N.it j ds hj
    exact ⟨a, us, h1, h2, h3, e _ _ (fun z => by obtain ⟨o, h⟩ := np _ z; rw [h2] at h; cases h) h4, h5⟩
/-- one of the lists is written -/
theorem Nst.upd (N : Nst H0 H L vs rs m) {a : Addr} {us ws : List V} (h0 : H0 a = none) (nL : a ≠ L) (ha : H a = some (.lst us)) (g1 : us.length ≤ ws.length) (g2 : ws.length ≤ us.length + 1) : Nst H0 (upd H a (.lst ws)) L vs rs (m + 1) where
  lst := by rw [upd_ne nL.symm]; exact N.lst
  own := N.own
  few := N.few
  len := N.len
  it := fun j ds hj => by
    obtain ⟨b, ys, h1, h2, h3, h4, h5, h6⟩ := N.it j ds hj
    by_cases e : b = a
    · subst e
      rw [ha] at h4
      obtain rfl : us = ys := by injection h4 with h4; injection h4
      exact ⟨b, ws, h1, h2, h3, upd_same, by omega, fun z => by have := h6 z; omega⟩
    · exact ⟨b, ys, h1, h2, h3, by rw [upd_ne e]; exact h4, h5, fun z => by have := h6 z; omega⟩
abbrev TNs := Nat → List Rv → TSt
/-- the second part: the slot is not read any more but to spoil -/
def RN2 (C : Addr) (i : Nat) (t : TS) (T : TNs) : Prop := ∀ (Z : Zx) (G : List (V × Rv)) (Γ : Gm) (σ : L2.St) (H0 H : Hp) (n0 n m : Nat) (L : Addr) (vs : List V) (rs : List Rv) (E : TEn) (F : Ends), Mt C Z G Γ σ H0 n0 → σ[i]? = some (some (.ref L)) →
  Bt Z.p H0 H → PAt Z.p H n → Nst H0 H L vs rs m → Lk C Z G E F → T m rs E Γ n → t F σ H
/-- the first part: it may be read -/
def RN1 (C : Addr) (i : Nat) (t : TS) (T : TNs) : Prop := ∀ (Z : Zx) (G : List (V × Rv)) (Γ : Gm) (σ : L2.St) (H0 H : Hp) (n0 n : Nat) (L : Addr) (vs : List V) (rs : List Rv) (E : TEn) (F : Ends), Mt C Z G Γ σ H0 n0 → σ[i]? = some (some (.ref L)) →
  Bt Z.p H0 H → Nst H0 H L vs rs 0 → Mt C Z G (Γ.set i (some (.new (.lst (rs.map Rv.d))))) σ H n → Lk C Z G E F → T 0 rs E Γ n → t F σ H
def n2End (U : TSt) : TNs := fun _ _ E Γ n => U E Γ n
theorem n2_end {u : TS} {U : TSt} (h : RS C u U) : RN2 C i u (n2End U) := fun Z G Γ σ H0 H n0 n m L vs rs E F M hs e pa N Lk_ q => h Z G Γ σ H n E F (M.bt e pa) Lk_ q
/-- x[j].append(e) -/
def n2App (j : Nat) (T : TX) (U : TNs) : TNs := fun m rs E Γ n => (m ≤ 1000 ∧ ∃ ds, rs[j]? = some (.new (.lst ds)) ∧ ds.length ≤ 1000000) ∧ T Γ n fun _ n1 => U (m + 1) rs E Γ n1
/-- x[j][k] = e -/
def n2Put (j k : Nat) (T : TX) (U : TNs) : TNs := fun m rs E Γ n => (∃ ds, rs[j]? = some (.new (.lst ds)) ∧ k < ds.length) ∧ T Γ n fun _ n1 => U (m + 1) rs E Γ n1
theorem small7 {n m : Nat} (h : n ≤ 1000000 + m) (hm : m ≤ 1000) : n < sizeLine := Nat.lt_of_le_of_lt (by omega : n ≤ 1001000) (by decide +kernel)
theorem apart0 (M : Mt C Z G Γ σ H0 n0) {a : Addr} (h : H0 a = none) : Z.p ≠ some a := fun z => by
  obtain ⟨o, h'⟩ := M.pdom _ z
  rw [h] at h'
  cases h'
theorem bt_put {p : Option Addr} {a : Addr} {o : HO} {H1 : Hp} (h : H0 a = none) (e : Bt p H0 H1) : Bt p H0 (upd H1 a o) := fun c u nc hc => by
  rw [upd_ne fun z => by rw [z, h] at hc; cases hc]
  exact e c u nc hc
theorem n2_app {j : Nat} {te : TE} {T : TX} {u : TS} {U : TNs} (h : ∀ Z, RE C Z te T) (hu : RN2 C i u U) :
    RN2 C i (tSeq (tDrop (tBM K "list" rAppend (tOp (rIxA K) (tVar i) (tC (.int ((j : Nat) : Int)))) (tCons te tNil))) u) (n2App j T U) := by
  rintro Z G Γ σ H0 H n0 n m L vs rs E F M hs e pa N Lk_ ⟨⟨hm, ds, hj, few⟩, q⟩
  obtain ⟨a, us, h1, h2, h3, h4, h5, h6⟩ := N.it j ds hj
  have na := apart0 M h2
  refine ⟨.ref L, hs, .inl ⟨L, vs, (j : Int), .ref a, rfl, rfl, SqL.of N.lst, atI_nat h1, ?_⟩⟩
  refine ⟨.inl ⟨rfl, us, SqL.of h4⟩, ?_⟩
  refine h Z G Γ σ H n _ _ (M.bt e pa) q fun v H1 r n1 e1 p1 x1 q1 => ?_
  have ha1 := e1 a _ na h4
  refine ⟨a, us, v, rfl, rfl, ha1, small7 (h6 few) hm, ?_⟩
  exact hu Z G Γ σ H0 _ n0 n1 (m + 1) L vs rs E F M hs (bt_put h2 (e.trans e1)) (p1.put na) ((N.bt M.pdom e1).upd h2 h3 ha1 (by simp) (by simp)) Lk_ q1
theorem n2_put {j k : Nat} {te : TE} {T : TX} {u : TS} {U : TNs} (h : ∀ Z, RE C Z te T) (hu : RN2 C i u U) :
    RN2 C i (tSeq (tAsg te (gSub (tOp (rIxA K) (tVar i) (tC (.int ((j : Nat) : Int)))) (tC (.int ((k : Nat) : Int))) rSetL)) u) (n2Put j k T U) := by
  rintro Z G Γ σ H0 H n0 n m L vs rs E F M hs e pa N Lk_ ⟨⟨ds, hj, few⟩, q⟩
  refine h Z G Γ σ H n _ _ (M.bt e pa) q fun v H1 r n1 e1 p1 x1 q1 => ?_
  have N1 := N.bt M.pdom e1
  obtain ⟨a, us, h1, h2, h3, h4, h5, h6⟩ := N1.it j ds hj
  have na := apart0 M h2
  refine ⟨.ref L, hs, .inl ⟨L, vs, (j : Int), .ref a, rfl, rfl, SqL.of N1.lst, atI_nat h1, ?_⟩⟩
  have hk : ixN us.length ((k : Nat) : Int) = some k := by
    unfold ixN
    rw [if_pos (by omega), if_pos (by omega)]
    simp
  refine ⟨a, us, k, k, rfl, rfl, h4, hk, ?_⟩
  exact hu Z G Γ σ H0 _ n0 n1 (m + 1) L vs rs E F M hs (bt_put h2 (e.trans e1)) (p1.put na) (N1.upd h2 h3 h4 (by simp) (by simp)) Lk_ q1
def n1Go (U : TNs) : TNs := U
theorem n1_go {u : TS} {U : TNs} (h : RN2 C i u U) : RN1 C i u (n1Go U) := fun Z G Γ σ H0 H n0 n L vs rs E F M hs e N M1 Lk_ q => h Z G Γ σ H0 H n0 n 0 L vs rs E F M hs e M1.pa N Lk_ q
/-- if c: return .. (never) -/
def n1If (i : Nat) (c : TBx) (U : TNs) : TNs := fun m rs E Γ n => c (Γ.set i (some (.new (.lst (rs.map Rv.d))))) n fun b n1 => b = false ∧ U m rs E Γ n1
theorem n1_if {tt : TT} {t u : TS} {c : TBx} {U : TNs} (hc : ∀ Z, RT C Z tt c) (hu : RN1 C i u U) : RN1 C i (tSeq (tIfS tt t tNext) u) (n1If i c U) := by
  intro Z G Γ σ H0 H n0 n L vs rs E F M hs e N M1 Lk_ q
  refine hc Z G _ σ H n _ _ M1 q fun b H1 n1 e1 p1 ⟨eb, q1⟩ => ?_
  subst eb
  exact iteF (hu Z G Γ σ H0 H1 n0 n1 L vs rs E F M hs (e.trans e1) (N.bt M.pdom e1) (M1.bt e1 p1) Lk_ q1)
/-- x = [..] of new lists and shared things -/
def tlNest (i : Nat) (T : TXs) (U : TNs) : TSt := fun E Γ n => i < Γ.length ∧ T Γ n fun rs n1 => stoAll rs = true ∧ rs.length ≤ 1000 ∧ U 0 rs E (Γ.set i none) n1
theorem Mt.blank (M : Mt C Z G Γ σ H n) {v : Nat} {x : Option V} : Mt C Z G (Γ.set v none) (σ.set v x) H n := by
  have ow : ∀ {j : Nat} {a : Addr}, Ow (Γ.set v none) (σ.set v x) j a → Ow Γ σ j a := fun {j a} h => by
    obtain ⟨⟨d, hd⟩, ha⟩ := h
    rcases get_set hd with ⟨_, e⟩ | ⟨ne, e⟩
    · cases e
    · rw [List.getElem?_set_ne ne] at ha
      exact ⟨⟨d, e⟩, ha⟩
  have ws : ∀ a, Ws Z (Γ.set v none) (σ.set v x) a → Ws Z Γ σ a := fun a h => h.elim .inl fun ⟨j, h⟩ => .inr ⟨j, ow h⟩
  refine ⟨by rw [List.length_set, List.length_set, M.len], M.fr, M.pa, fun j r hj => ?_, fun g hg => ⟨(M.gs g hg).1.sub ws, (M.gs g hg).2⟩, fun i j a h1 h2 => M.inj i j a (ow h1) (ow h2)⟩
  rcases get_set hj with ⟨_, e⟩ | ⟨ne, e⟩
  · cases e
  · obtain ⟨w, h1, h2⟩ := M.sl j r e
    exact ⟨w, by rw [List.getElem?_set_ne ne]; exact h1, h2.sub ws⟩
theorem nest_it {W : Addr → Prop} {H H1 H2 : Hp} {L : Addr} (nL : H1 L = none) (e : ∀ a o, a ≠ L → H1 a = some o → H2 a = some o) : ∀ {rs : List Rv} {vs : List V}, XOks C Z W H H1 rs vs → ∀ (j : Nat) (ds : List D), rs[j]? = some (.new (.lst ds)) → ∃ a us, vs[j]? = some (.ref a) ∧ H a = none ∧ a ≠ L ∧ H2 a = some (.lst us) ∧ ds.length ≤ us.length ∧ (ds.length ≤ 1000000 → us.length ≤ 1000000 + 0)
  | [], _, _, j, ds, h => by simp at h
  | r :: rs, _, ⟨v, vr, ev, x, q⟩, 0, ds, h => by
    obtain rfl : r = .new (.lst ds) := by simpa using h
    obtain ⟨a, ea, na, us, ha, rl⟩ := x
    have ne : a ≠ L := fun z => by rw [z, nL] at ha; cases ha
    refine ⟨a, us, by rw [ev, ea]; rfl, na, ne, e a _ ne ha, by rw [rl.len]; exact Nat.le_refl _, by rw [rl.len]; omega⟩
  | r :: rs, _, ⟨v, vr, ev, x, q⟩, j + 1, ds, h => by
    obtain ⟨a, us, h1, h2⟩ := nest_it nL e q j ds (by simpa using h)
    exact ⟨a, us, by rw [ev]; simpa using h1, h2⟩
theorem rs_nest {ta : TA} {u : TS} {T : TXs} {U : TNs} (h : ∀ Z, RA C Z ta T) (hu : RN1 C i u U) : RS C (tSeq (tAsg (tLst ta) (gName i)) u) (tlNest i T U) := by
  intro Z G Γ σ H n E F M Lk_ ⟨hi, q⟩
  refine h Z G Γ σ H n _ _ M q fun vs H1 rs n1 e1 p1 xs ⟨st, few, q1⟩ => ⟨by rw [xs.len]; exact Nat.le_trans few (by decide +kernel), fun L nL => ?_⟩
  have lσ : i < σ.length := by rw [M.len]; exact hi
  have s12 : Same H1 (upd H1 L (.lst vs)) := same_upd nL
  have e2 : Bt Z.p H (upd H1 L (.lst vs)) := e1.trans (.same s12)
  have nL0 : H L = none := e1.free (fun a z => p1.at z) nL
  have rep := xs.reps (fun a w => M.wdom w) st
  have M1 := M.set_new (i := i) e2 (p1.same s12) nL0 (d := .lst (rs.map Rv.d)) ⟨vs, upd_same, rep.mono (fresh_rep (p := Z.p) (C := C) nL)⟩
  have N : Nst H (upd H1 L (.lst vs)) L vs rs 0 := ⟨upd_same, nL0, few, xs.len, nest_it nL (fun a o ne h => by rw [upd_ne ne]; exact h) xs⟩
  refine hu Z G (Γ.set i none) (σ.set i (some (.ref L))) H _ n n1 L vs rs E F M.blank (by rw [List.getElem?_set_self lσ]) e2 N ?_ Lk_ q1
  rw [List.set_set]
  exact M1
end
end TL

-- TLI
set_option Elab.async false
set_option linter.all false
set_option maxRecDepth 100000
set_option maxHeartbeats 4100000
/-! TLI: sorted, min of lists of any data; dictionaries -/
namespace TL
open L2 PyProof.Rows PySem PySem.Spec PySem.W TS RZ
/-! ### sorted, at the level of values -/
def rSortV (K : PySem.W.Frag) : List V → Hp → VK → Prop := fun vs H Q => ∃ (a : Addr) (us : List V) (ds : List PyData), vs = [.ref a] ∧ SqL K H a us ∧ DpAll K H us ds ∧ AllAlike ds ∧ Sortable ds ∧ PyData.depthAll ds ≤ 50 ∧
  ∀ p, H p = none → Q (.ref p) (upd H p (.lst (((us.zip ds).mergeSort (dataLe false Prod.snd)).map Prod.fst)))
theorem dpAll_len {K : PySem.W.Frag} {H : Hp} : ∀ {us : List V} {ds : List PyData}, DpAll K H us ds → us.length = ds.length
  | _, _, .nil => rfl
  | _, _, .cons _ r => by rw [List.length_cons, List.length_cons, dpAll_len r]
theorem zip_snd {α β : Type} : ∀ {xs : List α} {ys : List β}, xs.length = ys.length → (xs.zip ys).map Prod.snd = ys
  | [], [], _ => rfl
  | _ :: xs, _ :: ys, h => by rw [List.zip_cons_cons, List.map_cons, zip_snd (by simpa using h)]
theorem zip_fst {α β : Type} : ∀ {xs : List α} {ys : List β}, xs.length = ys.length → (xs.zip ys).map Prod.fst = xs
  | [], [], _ => rfl
  | _ :: xs, _ :: ys, h => by rw [List.zip_cons_cons, List.map_cons, zip_fst (by simpa using h)]
theorem each_rel {K : PySem.W.Frag} {H : Hp} : ∀ {us : List V} {ds : List PyData} {its : List Value}, us.length = ds.length → Vals us its → EachIs (fun v (b : V × PyData) => RelV b.1 v) its (us.zip ds)
  | [], [], _, _, .nil => .nil
  | _ :: _, _ :: _, _, h, .cons r q => .cons r (each_rel (K := K) (H := H) (by simpa using h) q)
theorem each_vals : ∀ {out : List Value} {bs : List (V × PyData)}, EachIs (fun v (b : V × PyData) => RelV b.1 v) out bs → Vals (bs.map Prod.fst) out
  | _, _, .nil => .nil
  | _, _, .cons r q => .cons r (each_vals q)
theorem depth_le {ds : List PyData} {d : PyData} (h : d ∈ ds) : d.depth ≤ PyData.depthAll ds := by
  induction ds with
  | nil => cases h
  | cons x r ih =>
    rw [PyData.depthAll]
    rcases List.mem_cons.1 h with e | h
    · subst e; omega
    · have := ih h; omega
section
variable {X : Cx}
theorem each_reads {pins : List (Addr × Obj)} {σ : L2.St} {H : Hp} {s : Shared} (I : Inv X pins σ H s) : ∀ {us : List V} {ds : List PyData} {its : List Value}, DpAll X.K H us ds → Vals us its → EachIs (fun v (b : V × PyData) => ∃ as, Reads s.heap v b.2 as) its (us.zip ds)
  | _, _, _, .nil, .nil => .nil
  | _, _, _, .cons h r, .cons q t => .cons (Dp.reads I _ _ _ h q) (each_reads I r t)
theorem cr_sortV (hu : X.A.units + 62 < cLine) : CallR X (.builtin "sorted") (rSortV X.K) := by
  intro pins s σ H vs us0 Q I r h
  obtain ⟨a, us, ds, rfl, hs, hd, hal, hso, hdp, q⟩ := h
  obtain ⟨its, rv, hl, hz⟩ := I.list hs
  obtain ⟨u, rfl, ru⟩ := vals1 r
  obtain rfl : u = Value.ref a := ru
  have ln := dpAll_len hd
  have e2 := zip_snd ln
  refine sorted_data (bs := us.zip ds) (enc := Prod.snd) (R := fun v b => RelV b.1 v) hl.isList (each_rel (K := X.K) (H := H) ln rv) (each_reads I hd rv) (by rw [e2]; exact hal) (by rw [e2]; exact hso) (by rw [List.length_zip]; omega) (fun b hb => ?_) fun out ho eo => ?_
  · have := depth_le (List.of_mem_zip (a := b.1) (b := b.2) hb).2
    omega
  · obtain ⟨n, hn⟩ := sortedAll_at s.heap its out.toArray
    have hd2 : s.heap.objs.size ≤ s.heap.objs.size + 1 := Nat.le_succ _
    refine ⟨.ref (s.heap.objs.size + 1), upd H (s.heap.objs.size + 1) (.lst (((us.zip ds).mergeSort (dataLe false Prod.snd)).map Prod.fst)), I.laid (t' := s.toks) (fun b o e => sortedAll_old e) hd2 ⟨?_, out, n, each_vals eo, hn⟩, rfl, q _ (I.hok.fresh hd2)⟩
    rw [List.length_map, List.length_mergeSort, List.length_zip]
    omega
end
/-! ### and by trees -/
def dSortD : List D → (Rv → Prop) → Prop
  | [.lst ds], R => plns ds = true ∧ AllAlike (toPs ds) ∧ Sortable (toPs ds) ∧ deps ds ≤ 50 ∧ R (.new (.lst (ds.mergeSort (dataLe false toP))))
  | _, _ => False
theorem toPs_map : ∀ ds : List D, toPs ds = ds.map toP
  | [] => rfl
  | d :: r => by rw [toPs, List.map_cons, toPs_map r]
theorem RepL.pairs {p : Option Addr} {C : Addr} {W : Addr → Prop} {H : Hp} : ∀ {ds : List D} {vs : List V}, RepL p C W H ds vs → ∀ x ∈ vs.zip ds, Rep p C W H x.2 x.1
  | [], _, e, x, hx => by rw [show _ = [] from e] at hx; cases hx
  | d :: r, _, ⟨v, vr, e, h, q⟩, x, hx => by
    rw [e, List.zip_cons_cons] at hx
    rcases List.mem_cons.1 hx with rfl | hx
    · exact h
    · exact q.pairs x hx
theorem repL_pairs {p : Option Addr} {C : Addr} {W : Addr → Prop} {H : Hp} : ∀ {zs : List (V × D)}, (∀ x ∈ zs, Rep p C W H x.2 x.1) → RepL p C W H (zs.map Prod.snd) (zs.map Prod.fst)
  | [], _ => rfl
  | z :: r, h => ⟨z.1, r.map Prod.fst, rfl, h z List.mem_cons_self, repL_pairs fun x hx => h x (List.mem_cons_of_mem _ hx)⟩
theorem zip_toP : ∀ (vs : List V) (ds : List D), vs.zip (toPs ds) = (vs.zip ds).map fun z => (z.1, toP z.2)
  | [], _ => rfl
  | _ :: _, [] => rfl
  | v :: vs, d :: ds => by rw [toPs, List.zip_cons_cons, List.zip_cons_cons, List.map_cons, zip_toP vs ds]
section
variable {C : Addr} {K : PySem.W.Frag} {Z : Zx}
theorem rn_sortD : RnT C Z (rSortV K) dSortD := by
  intro W H xs ds0 R Q hp dm hx h q
  unfold dSortD at h
  split at h
  · rename_i R2 ds
    obtain ⟨pl, hal, hso, hd, h⟩ := h
    obtain ⟨v, rfl, hv⟩ := hx.one
    obtain ⟨a, vs, rfl, ha, r⟩ := hv.lst
    have ln := r.len
    refine ⟨a, vs, toPs ds, rfl, SqL.of ha, r.dp pl, hal, hso, Nat.le_trans (deps_depth ds) hd, ?_⟩
    have e1 : ((vs.zip (toPs ds)).mergeSort (dataLe false Prod.snd)).map Prod.fst = ((vs.zip ds).mergeSort (dataLe false fun z => toP z.2)).map Prod.fst := by
      rw [zip_toP, ← List.map_mergeSort (r := dataLe false fun z : V × D => toP z.2) (f := fun z : V × D => (z.1, toP z.2)) (fun _ _ _ _ => rfl), List.map_map]
      rfl
    have e2 : ((vs.zip ds).mergeSort (dataLe false fun z => toP z.2)).map Prod.snd = ds.mergeSort (dataLe false toP) := by
      rw [List.map_mergeSort (r := dataLe false fun z : V × D => toP z.2) (s := dataLe false toP) (f := Prod.snd) (fun _ _ _ _ => rfl), zip_snd ln]
    rw [e1]
    refine new_lst (Z := Z) (W := W) ?_ h q
    rw [← e2]
    exact repL_pairs fun x hx => r.pairs x ((List.mergeSort_perm _ _).mem_iff.1 hx)
  · exact h.elim
end
end TL

-- TLJ
set_option Elab.async false
set_option linter.all false
set_option maxRecDepth 100000
set_option maxHeartbeats 4100000
/-! TLJ: min of a list of any data; dictionaries -/
namespace TL
open L2 PyProof.Rows PySem PySem.Spec PySem.W TS RZ
/-! ### min -/
def rMinV (K : PySem.W.Frag) : List V → Hp → VK → Prop := fun vs H Q => ∃ (a : Addr) (us : List V) (x : PyData) (xs : List PyData), vs = [.ref a] ∧ SqL K H a us ∧ DpAll K H us (x :: xs) ∧ AlikeAll (x :: xs) ∧ PyData.depthAll (x :: xs) ≤ 50 ∧
  ∀ (i : Nat) (u : V) (e : PyData), us[i]? = some u → (x :: xs)[i]? = some e → e = minD x xs → Q u H
theorem minD_mem (x : PyData) : ∀ xs : List PyData, minD x xs ∈ x :: xs := by
  intro xs
  unfold minD
  induction xs generalizing x with
  | nil => exact List.mem_cons_self
  | cons y r ih =>
    rw [List.foldl_cons]
    by_cases h : dataLt y x = true
    · rw [if_pos h]
      exact List.mem_cons_of_mem _ (ih y)
    · rw [if_neg h]
      rcases List.mem_cons.1 (ih x) with e | e
      · rw [e]; exact List.mem_cons_self
      · exact List.mem_cons_of_mem _ (List.mem_cons_of_mem _ e)
theorem dpAll_nth {K : PySem.W.Frag} {H : Hp} : ∀ {us : List V} {ds : List PyData} {i : Nat} {u : V}, DpAll K H us ds → us[i]? = some u → ∃ d, ds[i]? = some d ∧ Dp K H u d
  | _, _, i, u, .nil, h => by simp at h
  | _, _, 0, u, .cons q _, h => by
    obtain rfl := Option.some.inj h
    exact ⟨_, rfl, q⟩
  | _, _, i + 1, u, .cons _ r, h => by
    obtain ⟨d, h1, h2⟩ := dpAll_nth r (i := i) (by simpa using h)
    exact ⟨d, by simpa using h1, h2⟩
theorem each_readsAll {X : Cx} {pins : List (Addr × Obj)} {σ : L2.St} {H : Hp} {s : Shared} (I : Inv X pins σ H s) : ∀ {us : List V} {ds : List PyData} {its : List Value}, DpAll X.K H us ds → Vals us its → ∃ as, ReadsAll s.heap its ds as
  | _, _, _, .nil, .nil => ⟨[], .nil⟩
  | _, _, _, .cons h r, .cons q t => by
    obtain ⟨as, h1⟩ := Dp.reads I _ _ _ h q
    obtain ⟨bs, h2⟩ := each_readsAll I r t
    exact ⟨as ++ bs, .cons h1 h2⟩
section
variable {X : Cx}
theorem cr_minV (hc : X.calm = true) (hu : X.A.units + 62 < cLine) : CallR X (.builtin "min") (rMinV X.K) := by
  intro pins s σ H vs us0 Q I r h
  obtain ⟨a, us, x, xs, rfl, hs, hd, hal, hdp, q⟩ := h
  obtain ⟨its, rv, hl, hz⟩ := I.list hs
  obtain ⟨u, rfl, ru⟩ := vals1 r
  obtain rfl : u = Value.ref a := ru
  obtain ⟨as, ra⟩ := each_readsAll I hd rv
  refine min_list_data (A := X.A) (I.ok.hd hc) hl.isList (by simpa using ra) hal (by omega) fun i v h' tk bs hv rd kp => ?_
  have hv' : its[i]? = some v := by simpa using hv
  obtain ⟨w, hw, rw_⟩ := TMin.vals_back rv hv'
  obtain ⟨d, hd1, hd2⟩ := dpAll_nth hd hw
  obtain ⟨as', r1⟩ := Dp.reads I _ _ _ hd2 rw_
  have e : d = minD x xs := alike_unique d _ v _ _ (hal.1 _ (List.mem_of_getElem? hd1) _ (minD_mem x xs)) (PyProof.Rows.Reads.keeps (fun b o e => kp b o e) r1) rd
  exact ⟨w, H, I.kept kp, rw_, q i w d hw hd1 e⟩
end
def dMinD : List D → (Rv → Prop) → Prop
  | [.lst (d :: ds)], R => plns (d :: ds) = true ∧ AlikeAll (toPs (d :: ds)) ∧ deps (d :: ds) ≤ 50 ∧ ∀ e ∈ d :: ds, toP e = minD (toP d) (toPs ds) → R (.val e)
  | _, _ => False
/-! ### dictionaries by text and number -/
def rDG : R2 := fun x y H Q => ∃ a v, x = .ref a ∧ DGet H a y (some v) ∧ Q v H
theorem ix_dict {X : Cx} (hu : X.A.units + 62 < cLine) : IxR X rDG := by
  intro value slice pins s σ H x y v u Q I rx ry h hs
  obtain ⟨a, z, rfl, g, q⟩ := h
  obtain rfl : v = Value.ref a := rx
  exact tail_any (dict_typeIs I g) PySem.F.slot_dict_getitem.lookup (d_getItem (by omega) I g ry fun w' s3 I3 rw' => ⟨z, H, I3, rw', q⟩) hs
def rIxD (K : PySem.W.Frag) : R2 := orR (rIxA K) rDG
theorem ix_anyD {X : Cx} (hu : X.A.units + 62 < cLine) : IxR X (rIxD X.K) := IxR.or ix_any (ix_dict hu)
def rDin : R2 := fun y x H Q => ∃ a o, x = .ref a ∧ DGet H a y o ∧ Q (.bl o.isSome) H
theorem op_din {X : Cx} (hu : X.A.units + 62 < cLine) : OpR X (compareOp .In) rDin := by
  intro pins s σ H y x v u Q I ry rx h
  obtain ⟨a, o, rfl, g, q⟩ := h
  obtain rfl : u = Value.ref a := rx
  exact d_in (by omega) I g ry fun s3 I3 => ⟨.bl o.isSome, H, I3, rfl, q⟩
def rInD (K : PySem.W.Frag) : R2 := orR (rInA K) rDin
theorem op_inD {X : Cx} (hu : X.A.units + 62 < cLine) : OpR X (compareOp .In) (rInD X.K) := OpR.or (op_inA hu) (op_din hu)
def keyD : D → Option Key
  | .int i => some (.inl i)
  | .str s => some (.inr s)
  | _ => none
/-- what a key has -/
def dkGet : List Key → List D → Key → Option D
  | k :: ks, d :: ds, j => if k = j then some d else dkGet ks ds j
  | _, _, _ => none
section
variable {C : Addr} {K : PySem.W.Frag} {Z : Zx}
theorem dkGet_val {p : Option Addr} {W : Addr → Prop} {H : Hp} : ∀ {ks : List Key} {ds : List D} {vs : List V} {j : Key}, ks.length = ds.length → RepL p C W H ds vs →
    (∀ d, dkGet ks ds j = some d → ∃ v, valV (ks.zip vs) j = some v ∧ Rep p C W H d v) ∧ (dkGet ks ds j = none → valV (ks.zip vs) j = none)
  | [], [], _, j, _, e => by
    rw [show _ = [] from e]
    exact ⟨fun d h => by simp [dkGet] at h, fun _ => rfl⟩
  | k :: ks, d :: ds, _, j, l, ⟨v, vr, e, h, q⟩ => by
    subst e
    obtain ⟨h1, h2⟩ := dkGet_val (j := j) (by simpa using l) q
    rw [List.zip_cons_cons]
    by_cases e : k = j
    · subst e
      refine ⟨fun d' z => ?_, fun z => by simp [dkGet] at z⟩
      rw [dkGet, if_pos rfl] at z
      obtain rfl := Option.some.inj z
      exact ⟨v, valV_pos rfl, h⟩
    · refine ⟨fun d' z => ?_, fun z => ?_⟩
      · rw [dkGet, if_neg e] at z
        obtain ⟨v', h3, h4⟩ := h1 d' z
        exact ⟨v', by rw [valV_neg e]; exact h3, h4⟩
      · rw [dkGet, if_neg e] at z
        rw [valV_neg e]
        exact h2 z
theorem View.key {p : Option Addr} {W : Addr → Prop} {H : Hp} {d : D} {v : V} {k : Key} (h : View p C W H d v) (e : keyD d = some k) : v = kV k := by
  cases d with
  | int i => obtain rfl := Option.some.inj e; exact h.int
  | str s => obtain rfl := Option.some.inj e; exact h.str
  | _ => cases e
def dIxD : D → D → (Rv → Prop) → Prop
  | .dk ks ds, e, R => ∃ k d, keyD e = some k ∧ dkGet ks ds k = some d ∧ R (.val d)
  | d, e, R => dIx d e R
theorem r2_ixD : R2T C Z (rIxD K) dIxD := by
  intro W H x y d e R Q hp dm hx hy h q
  unfold dIxD at h
  split at h
  · next ks ds =>
    obtain ⟨k, d, ek, hd, h⟩ := h
    obtain ⟨a, vs, rfl, ha, l, r⟩ := hx.dk
    obtain ⟨v, h1, h2⟩ := (dkGet_val l r).1 d hd
    refine .inr ⟨a, v, rfl, ?_, q v H (.val d) (Same.refl H) h2 h⟩
    rw [hy.key ek, ← h1]
    exact .k ha
  · exact .inl (r2_ix W H x y d e R Q hp dm hx hy h q)
def dInD : D → D → (Rv → Prop) → Prop
  | e, .dk ks ds, R => ∃ k, keyD e = some k ∧ R (.val (.bl (dkGet ks ds k).isSome))
  | e, d, R => dInA e d R
theorem r2_inD : R2T C Z (rInD K) dInD := by
  intro W H x y d e R Q hp dm hx hy h q
  unfold dInD at h
  split at h
  · next ks ds =>
    obtain ⟨k, ek, h⟩ := h
    obtain ⟨a, vs, rfl, ha, l, r⟩ := hy.dk
    have key : valV (ks.zip vs) k = none ∧ dkGet ks ds k = none ∨ ∃ v d, valV (ks.zip vs) k = some v ∧ dkGet ks ds k = some d := by
      cases hd : dkGet ks ds k with
      | none => exact .inl ⟨(dkGet_val l r).2 hd, rfl⟩
      | some d =>
        obtain ⟨v, h1, _⟩ := (dkGet_val l r).1 d hd
        exact .inr ⟨v, d, h1, rfl⟩
    refine .inr ⟨a, valV (ks.zip vs) k, rfl, by rw [hx.key ek]; exact .k ha, ?_⟩
    have e : (valV (ks.zip vs) k).isSome = (dkGet ks ds k).isSome := by
      rcases key with ⟨e1, e2⟩ | ⟨v, d, e1, e2⟩ <;> rw [e1, e2] <;> rfl
    rw [e]
    exact same_bl h q
  · exact .inl (r2_inA W H x y _ _ R Q hp dm hx hy h q)
theorem rn_minD : RnT C Z (rMinV K) dMinD := by
  intro W H xs ds0 R Q hp dm hx h q
  unfold dMinD at h
  split at h
  · rename_i R2 d ds
    obtain ⟨pl, hal, hd, h⟩ := h
    obtain ⟨v, rfl, hv⟩ := hx.one
    obtain ⟨a, vs, rfl, ha, r⟩ := hv.lst
    refine ⟨a, vs, toP d, toPs ds, rfl, SqL.of ha, r.dp pl, hal, Nat.le_trans (deps_depth (d :: ds)) hd, fun i u e hu he hm => ?_⟩
    obtain ⟨g, hg, rg⟩ := r.nth hu
    have hg' : (toPs (d :: ds))[i]? = some (toP g) := by rw [toPs_map, List.getElem?_map, hg]; rfl
    have : e = toP g := Option.some.inj (he.symm.trans hg')
    exact q u H (.val g) (Same.refl H) rg (h g (List.mem_of_getElem? hg) (by rw [← this, hm]))
  · exact h.elim
end
end TL

-- TLK
set_option Elab.async false
set_option linter.all false
set_option maxRecDepth 100000
set_option maxHeartbeats 4100000
/-! TLK: a new list goes last into an own one, is asked about there, then turned round: x.append(e); if ..: return ..; x[j].reverse(). And `is not` of two truths. -/
namespace TL
open L2 PyProof.Rows PySem PySem.Spec TS RZ
def delH (H : Hp) (L : Addr) : Hp := fun c => if c = L then none else H c
theorem delH_same {H : Hp} {L : Addr} : delH H L L = none := by unfold delH; rw [if_pos rfl]
theorem delH_ne {H : Hp} {L c : Addr} (h : c ≠ L) : delH H L c = H c := by unfold delH; rw [if_neg h]
section
variable {C : Addr} {K : PySem.W.Frag} {Z : Zx} {G : List (V × Rv)} {Γ : Gm} {σ : L2.St} {H0 H H1 H' : Hp} {L a : Addr} {vs us : List V} {ds es : List D} {i m n n0 : Nat}
/-- an own object is put away: heap and slot without it -/
theorem Mt.cut (M : Mt C Z G Γ σ H n) {d : D} (hi : Γ[i]? = some (some (.new d))) (hb : σ[i]? = some (some (.ref L))) : Mt C Z G (Γ.set i none) σ (delH H L) n := by
  have ow : Ow Γ σ i L := ⟨⟨d, hi⟩, hb⟩
  obtain ⟨_, L0, Lp⟩ := M.own ow
  have wl : Ws Z Γ σ L := .inr ⟨i, ow⟩
  have sub : ∀ {j : Nat} {b : Addr}, Ow (Γ.set i none) σ j b → Ow Γ σ j b ∧ j ≠ i := fun {j b} h => by
    obtain ⟨⟨d, hd⟩, ha⟩ := h
    rcases get_set hd with ⟨_, e⟩ | ⟨ne, e⟩
    · cases e
    · exact ⟨⟨⟨d, e⟩, ha⟩, fun z => ne z.symm⟩
  have ws : ∀ c, Ws Z (Γ.set i none) σ c → Ws Z Γ σ c := fun c h => h.elim .inl fun ⟨j, h⟩ => .inr ⟨j, (sub h).1⟩
  have key : ∀ c o, ¬ Ws Z Γ σ c → H c = some o → ¬ Ws Z (Γ.set i none) σ c ∧ delH H L c = some o := fun c o nc hc => ⟨fun z => nc (ws c z), by rw [delH_ne fun z => nc (by rw [z]; exact wl)]; exact hc⟩
  have at_ : ∀ b o, b ≠ L → H b = some o → delH H L b = some o := fun b o z h => by rw [delH_ne z]; exact h
  have pa : PAt Z.p (delH H L) n := by
    have := M.pa
    revert this
    cases hp : Z.p with
    | none => exact fun _ => trivial
    | some q =>
      rintro ⟨b, ⟨p0, p1, p2, p3, hq, r⟩, z⟩
      exact ⟨b, ⟨p0, p1, p2, p3, at_ q _ (fun e => Lp (by rw [hp, e])) hq, r⟩, z⟩
  refine ⟨by rw [List.length_set]; exact M.len, fun c o nc hc => at_ c o (fun z => by rw [z, L0] at hc; cases hc) (M.fr c o nc hc), pa, fun j r hj => ?_, fun g hg => ?_, fun j k b h1 h2 => M.inj j k b (sub h1).1 (sub h2).1⟩
  · rcases get_set hj with ⟨_, e⟩ | ⟨ne, hj⟩
    · cases e
    · obtain ⟨v, hv, s⟩ := M.sl j r hj
      refine ⟨v, hv, ?_⟩
      match r, s with
      | .val d, s => exact Rep.mono key s
      | .new d, ⟨b, eb, h0, r⟩ =>
        subst eb
        refine ⟨b, rfl, h0, r.mono key fun o => at_ b o fun z => ?_⟩
        exact ne (M.inj i j L ow ⟨⟨d, hj⟩, by rw [hv, z]⟩)
      | .bor d, .inl s => exact .inl (Rep.mono key s)
      | .bor d, .inr ⟨b, o, eb, nb, h0, r⟩ => exact .inr ⟨b, o, eb, nb, h0, r.mono key fun o' => at_ b o' fun z => by rw [z, L0] at h0; cases h0⟩
  · obtain ⟨s, nn⟩ := M.gs g hg
    refine ⟨?_, nn⟩
    obtain ⟨v, r⟩ := g
    match r, s, nn with
    | .val d, s, _ => exact Rep.mono key s
    | .new d, _, nn => exact (nn d rfl).elim
    | .bor d, .inl s, _ => exact .inl (Rep.mono key s)
    | .bor d, .inr ⟨b, o, eb, nb, h0, r⟩, _ => exact .inr ⟨b, o, eb, nb, h0, r.mono key fun o' => at_ b o' fun z => by rw [z, L0] at h0; cases h0⟩
/-- L holds vs, then a new list at a -/
structure Las (C : Addr) (Z : Zx) (Γ : Gm) (σ : L2.St) (H0 H : Hp) (i : Nat) (L a : Addr) (vs us : List V) (ds es : List D) : Prop where
  hs : σ[i]? = some (some (.ref L))
  hl : H L = some (.lst (vs ++ [.ref a]))
  l0 : H0 L = none
  a0 : H0 a = none
  ne : a ≠ L
  ha : H a = some (.lst us)
  rv : RepL Z.p C (Ws Z Γ σ) H0 ds vs
  ru : RepL Z.p C (fun c => Ws Z Γ σ c ∨ c = L ∨ c = a) H es us
theorem Las.bt (A : Las C Z Γ σ H0 H i L a vs us ds es) (np : ∀ b, Z.p = some b → ∃ o, H0 b = some o) (e : Bt Z.p H H') : Las C Z Γ σ H0 H' i L a vs us ds es := by
  have nL : Z.p ≠ some L := fun z => by obtain ⟨o, h⟩ := np _ z; rw [A.l0] at h; cases h
  have na : Z.p ≠ some a := fun z => by obtain ⟨o, h⟩ := np _ z; rw [A.a0] at h; cases h
  exact ⟨A.hs, e _ _ nL A.hl, A.l0, A.a0, A.ne, e _ _ na A.ha, A.rv, A.ru.mono (keepB (fun b z => .inl (Ws.pw z)) e)⟩
abbrev TLs := List D → List D → TSt
/-- how such a slot stands -/
def lasG (i : Nat) (ds es : List D) (Γ : Gm) : Gm := Γ.set i (some (.new (.lst (ds ++ [.lst es]))))
def RLs (C : Addr) (i : Nat) (t : TS) (T : TLs) : Prop := ∀ (Z : Zx) (G : List (V × Rv)) (Γ : Gm) (σ : L2.St) (H0 H : Hp) (n0 n : Nat) (L a : Addr) (vs us : List V) (ds es : List D) (E : TEn) (F : Ends), Mt C Z G Γ σ H0 n0 →
  Bt Z.p H0 H → Las C Z Γ σ H0 H i L a vs us ds es → Mt C Z G (lasG i ds es Γ) σ H n → Lk C Z G E F → T ds es E Γ n → t F σ H
/-- if c: return .. (never) -/
def kIf (i : Nat) (c : TBx) (U : TLs) : TLs := fun ds es E Γ n => c (lasG i ds es Γ) n fun b n1 => b = false ∧ U ds es E Γ n1
theorem k_if {tt : TT} {t u : TS} {c : TBx} {U : TLs} (hc : ∀ Z, RT C Z tt c) (hu : RLs C i u U) : RLs C i (tSeq (tIfS tt t tNext) u) (kIf i c U) := by
  intro Z G Γ σ H0 H n0 n L a vs us ds es E F M e A M1 Lk_ q
  refine hc Z G _ σ H n _ _ M1 q fun b H1 n1 e1 p1 ⟨eb, q1⟩ => ?_
  subst eb
  exact iteF (hu Z G Γ σ H0 H1 n0 n1 L a vs us ds es E F M (e.trans e1) (A.bt M.pdom e1) (M1.bt e1 p1) Lk_ q1)
/-- x[j].reverse(), and on -/
def kRev (i j : Nat) (U : TSt) : TLs := fun ds es E Γ n => j = ds.length ∧ U E (lasG i ds es.reverse Γ) n
theorem k_rev {j : Nat} {u : TS} {U : TSt} (hu : RS C u U) : RLs C i (tSeq (tDrop (tBM0 K "list" rReverse (tOp (rIxA K) (tVar i) (tC (.int ((j : Nat) : Int)))))) u) (kRev i j U) := by
  rintro Z G Γ σ H0 H n0 n L a vs us ds es E F M e A M1 Lk_ ⟨rfl, q⟩
  have lv := A.rv.len
  have na : Z.p ≠ some a := fun z => by obtain ⟨o, h⟩ := M.pdom _ z; rw [A.a0] at h; cases h
  refine ⟨.ref L, A.hs, .inl ⟨L, vs ++ [.ref a], ((ds.length : Nat) : Int), .ref a, rfl, rfl, SqL.of A.hl, atI_nat (by rw [← lv]; simp), ?_⟩⟩
  refine ⟨.inl ⟨rfl, us, SqL.of A.ha⟩, a, us, rfl, rfl, A.ha, ?_⟩
  have e2 : Bt Z.p H0 (upd H a (.lst us.reverse)) := fun c o nc hc => by
    rw [upd_ne fun z => by rw [z, A.a0] at hc; cases hc]
    exact e c o nc hc
  have p2 : PAt Z.p (upd H a (.lst us.reverse)) n := M1.pa.put na
  have key : ∀ c o, ¬ (Ws Z Γ σ c ∨ c = L ∨ c = a) → H c = some o → ¬ (Ws Z Γ σ c ∨ c = L) ∧ upd H a (.lst us.reverse) c = some o := fun c o nc hc =>
    ⟨fun z => nc (z.imp id .inl), by rw [upd_ne fun z => nc (.inr (.inr z))]; exact hc⟩
  have key0 : ∀ c o, ¬ Ws Z Γ σ c → H0 c = some o → ¬ (Ws Z Γ σ c ∨ c = L) ∧ upd H a (.lst us.reverse) c = some o := fun c o nc hc =>
    ⟨fun z => z.elim nc (fun z => by rw [z, A.l0] at hc; cases hc), e2 c o (fun z => nc (Ws.pw z)) hc⟩
  have wa : ¬ (Ws Z Γ σ a ∨ a = L) := fun z => z.elim (fun z => by obtain ⟨o, h⟩ := M.wdom z; rw [A.a0] at h; cases h) A.ne
  have r2 : RepO Z.p C (fun c => Ws Z Γ σ c ∨ c = L) (upd H a (.lst us.reverse)) L (.lst (ds ++ [.lst es.reverse])) :=
    ⟨vs ++ [.ref a], by rw [upd_ne A.ne.symm]; exact A.hl, (A.rv.mono key0).app ⟨_, [], rfl, ⟨a, rfl, wa, us.reverse, upd_same, A.ru.rev.mono key⟩, rfl⟩⟩
  have M2 := M.set_new (i := i) e2 p2 A.l0 r2
  have es : σ.set i (some (.ref L)) = σ := by
    refine List.ext_getElem? fun k => ?_
    by_cases ek : i = k
    · subst ek
      rw [List.getElem?_set_self (List.getElem?_eq_some_iff.1 A.hs).1, A.hs]
    · rw [List.getElem?_set_ne ek]
  rw [es] at M2
  exact hu Z G _ σ _ n E F M2 Lk_ q
/-- x.append(e), e new -/
def tlAppNew (i : Nat) (T : TX) (U : TLs) : TSt := fun E Γ n => match Γ[i]? with
  | some (some (.new (.lst ds))) => T Γ n fun r n1 => match r with
    | .new (.lst es) => ds.length ≤ 1000000 ∧ U ds es E (Γ.set i none) n1
    | _ => False
  | _ => False
theorem rs_appNew {t : TE} {T : TX} {u : TS} {U : TLs} (h : ∀ Z, RE C Z t T) (hu : RLs C i u U) : RS C (tSeq (tDrop (tBM K "list" rAppend (tVar i) (tCons t tNil))) u) (tlAppNew i T U) := by
  intro Z G Γ σ H n E F M Lk_ h1
  unfold tlAppNew at h1
  split at h1
  · next ds e =>
    obtain ⟨v, hv, L, rfl, h0, vs, ha, rr⟩ := M.sl i _ e
    refine ⟨_, hv, .inl ⟨rfl, vs, SqL.of ha⟩, ?_⟩
    refine h Z G Γ σ H n _ _ M h1 fun v H1 r n1 e1 p1 x1 q1 => ?_
    match r, x1, q1 with
    | .new (.lst es), ⟨a, ea, na, us, hu1, ru⟩, ⟨few, q⟩ =>
      subst ea
      have M1 := M.bt e1 p1
      have ha1 := e1 L _ (Z.apart h0) ha
      have rr1 := rr.mono (keepB (fun _ => Ws.pw) e1)
      have wl : Ws Z Γ σ L := .inr ⟨i, ⟨⟨_, e⟩, hv⟩⟩
      have ne : a ≠ L := fun z => by rw [z] at na; rw [na] at ha; cases ha
      have wa : ¬ Ws Z Γ σ a := fun z => by obtain ⟨o, h⟩ := M.wdom z; rw [na] at h; cases h
      have nap : Z.p ≠ some a := Z.papart M.pdom na
      -- ahead of it: without L
      have M0 := M.cut e hv
      have key : ∀ c o, ¬ Ws Z Γ σ c → H1 c = some o → ¬ Ws Z Γ σ c ∧ upd H1 L (.lst (vs ++ [.ref a])) c = some o := fun c o nc h => ⟨nc, by rw [upd_ne fun z => nc (by rw [z]; exact wl)]; exact h⟩
      have keya : ∀ c o, ¬ (Ws Z Γ σ c ∨ c = a) → H1 c = some o → ¬ Ws Z Γ σ c ∧ upd H1 L (.lst (vs ++ [.ref a])) c = some o := fun c o nc h => key c o (fun z => nc (.inl z)) h
      have ra : Rep Z.p C (Ws Z Γ σ) (upd H1 L (.lst (vs ++ [.ref a]))) (.lst es) (.ref a) := ⟨a, rfl, wa, us, by rw [upd_ne ne]; exact hu1, ru.mono keya⟩
      have M2 := M1.mut (d' := .lst (ds ++ [.lst es])) e hv ⟨_, upd_same, (rr1.mono key).app ⟨.ref a, [], rfl, ra, rfl⟩⟩
      refine ⟨L, vs, .ref a, rfl, rfl, ha1, by rw [rr.len]; exact small6 few, ?_⟩
      have ws : ∀ c, Ws Z (Γ.set i none) σ c → Ws Z Γ σ c := fun c h => h.elim .inl fun ⟨j, ⟨⟨d, hd⟩, hj⟩⟩ => .inr ⟨j, ⟨d, by
        rcases get_set hd with ⟨_, e⟩ | ⟨ne, e⟩
        · cases e
        · exact e⟩, hj⟩
      have wsb : ∀ c, Ws Z Γ σ c → Ws Z (Γ.set i none) σ c ∨ c = L := fun c h => h.elim (fun z => .inl (.inl z)) fun ⟨j, ⟨⟨d, hd⟩, hj⟩⟩ => by
        by_cases ej : i = j
        · subst ej
          rw [hv] at hj
          cases hj
          exact .inr rfl
        · exact .inl (.inr ⟨j, ⟨d, by rw [List.getElem?_set_ne ej]; exact hd⟩, hj⟩)
      have eb : Bt Z.p (delH H L) (upd H1 L (.lst (vs ++ [.ref a]))) := fun c o nc hc => by
        have ncL : c ≠ L := fun z => by rw [z, delH_same] at hc; cases hc
        rw [delH_ne ncL] at hc
        rw [upd_ne ncL]
        exact e1 c o nc hc
      have A : Las C Z (Γ.set i none) σ (delH H L) (upd H1 L (.lst (vs ++ [.ref a]))) i L a vs us ds es := by
        refine ⟨hv, upd_same, delH_same, by rw [delH_ne ne]; exact na, ne, by rw [upd_ne ne]; exact hu1, rr.mono fun c o nc hc => ⟨fun z => nc (ws c z), by rw [delH_ne fun z => nc (by rw [z]; exact wl)]; exact hc⟩, ru.mono fun c o nc hc => ⟨fun z => nc ?_, ?_⟩⟩
        · rcases z with z | rfl | rfl
          · exact .inl (ws c z)
          · exact .inl wl
          · exact .inr rfl
        · rw [upd_ne fun z => nc (.inl (by rw [z]; exact wl))]
          exact hc
      refine hu Z G (Γ.set i none) σ (delH H L) _ n n1 L a vs us ds es E F M0 eb A ?_ Lk_ q
      unfold lasG
      rw [List.set_set]
      exact M2
    | .new .non, _, q => exact q.elim
    | .new (.bl _), _, q => exact q.elim
    | .new (.int _), _, q => exact q.elim
    | .new (.str _), _, q => exact q.elim
    | .new (.tup _), _, q => exact q.elim
    | .new (.dk _ _), _, q => exact q.elim
    | .new (.dt _ _), _, q => exact q.elim
    | .new (.sh _ _), _, q => exact q.elim
    | .new (.ob _ _ _), _, q => exact q.elim
    | .new .purse, _, q => exact q.elim
    | .val _, _, q => exact q.elim
    | .bor _, _, q => exact q.elim
    | .tmp _, _, q => exact q.elim
  · exact h1.elim
/-! ### `is not` -/
def rNotB : R2 := orR (fun x y H Q => ∃ a b, x = .bl a ∧ y = .bl b ∧ Q (.bl (!decide (a = b))) H) (fun x y H Q => y = .non ∧ Q (.bl (!decide (x = .non))) H)
theorem op_notB {X : Cx} : OpR X (compareOp .IsNot) rNotB := OpR.or op_isnot_bl op_notN
def dNotB : D → D → (Rv → Prop) → Prop
  | .bl a, .bl b, R => R (.val (.bl (!decide (a = b))))
  | d, e, R => dNotN d e R
theorem r2_notB : R2T C Z rNotB dNotB := by
  intro W H x y d e R Q hp dm hx hy h q
  unfold dNotB at h
  split at h
  · exact .inl ⟨_, _, hx.bl, hy.bl, same_bl h q⟩
  · exact .inr (r2_notN W H x y _ _ R Q hp dm hx hy h q)
end
end TL

-- TLL
set_option Elab.async false
set_option linter.all false
set_option maxRecDepth 100000
set_option maxHeartbeats 4100000
/-! TLL: t[::-1] of a tuple -/
namespace HT
open PySem PySem.Spec PyProof.Rows
section
variable {prog : Program} {w : World} {A : Around} {E : Value → Shared → Prop} {s : Shared}
theorem adjust_rev (n : Nat) : Builtin.Slice.sliceAdjust none none (-1) (n : Int) = ((n : Int) - 1, -1) := by
  unfold Builtin.Slice.sliceAdjust
  simp
theorem places_rev (n : Nat) : Builtin.Slice.slicePlaces ((n : Int) - 1) (-1) (-1) = n := by
  unfold Builtin.Slice.slicePlaces
  have h1 : ¬ ((-1 : Int) > 0) := by decide
  have h2 : (- -1 : Int) = 1 := by decide
  simp only [h1, if_false, h2, Int.ediv_one]
  split <;> omega
theorem sliceApplied_rev {sl : Addr} {vl vu vs : Value} {n : Nat} {Q : Int × Int × Nat → Shared → Prop} (hs : s.heap.IsSliceOf sl vl vu vs) (pl : IsPart vl none) (pu : IsPart vu none) (ps : IsPart vs (some (-1)))
    (h : Q ((n : Int) - 1, -1, n) s) : wpAny (model prog w) A (Builtin.Slice.sliceApplied (.ref sl) (pure (n : Int))) Q E s := by
  obtain ⟨os, hos, hcs, hds⟩ := id hs
  unfold Builtin.Slice.sliceApplied Builtin.Slice.sliceFields
  refine wpAny_bind (wpAny_bind (wpAny_field hos hds (x := vl) rfl (wpAny_bind (wpAny_field hos hds (x := vu) rfl (wpAny_bind (wpAny_field hos hds (x := vs) rfl (wpAny_pure ?_)))))))
  refine wpAny_bind (slicePart_ ps ?_)
  show wpAny _ _ (if ((-1 : Int) == 0) = true then _ else _) _ _ s
  rw [if_neg (by decide)]
  refine wpAny_bind (slicePart_ pl (wpAny_bind (slicePart_ pu (wpAny_bind (wpAny_pure ?_)))))
  show wpAny _ _ (match Builtin.Slice.sliceAdjust none none (-1) (n : Int) with | (lo, hi) => pure (lo, (-1 : Int), Builtin.Slice.slicePlaces lo hi (-1))) _ _ s
  rw [adjust_rev n]
  show wpAny _ _ (pure ((n : Int) - 1, (-1 : Int), Builtin.Slice.slicePlaces ((n : Int) - 1) (-1) (-1))) _ _ s
  rw [places_rev]
  exact wpAny_pure h
theorem fm_congr {α β : Type} {f g : α → Option β} : ∀ {l : List α}, (∀ x ∈ l, f x = g x) → l.filterMap f = l.filterMap g
  | [], _ => rfl
  | x :: r, h => by rw [List.filterMap_cons, List.filterMap_cons, h x List.mem_cons_self, fm_congr fun y hy => h y (List.mem_cons_of_mem _ hy)]
theorem pick_rev (xs : Array Value) : ((List.range xs.size).filterMap fun (m : Nat) => xs[((xs.size : Int) - 1 + (m : Int) * (-1)).toNat]?).toArray = xs.toList.reverse.toArray := by
  congr 1
  refine List.ext_getElem? fun i => ?_
  have e : (List.range xs.size).filterMap (fun (m : Nat) => xs[((xs.size : Int) - 1 + (m : Int) * (-1)).toNat]?) = (List.range xs.size).filterMap fun m => some (xs.toList.reverse.getD m .none) := by
    refine fm_congr fun m hm => ?_
    have lm := List.mem_range.1 hm
    rw [show ((xs.size : Int) - 1 + (m : Int) * (-1)).toNat = xs.size - 1 - m by omega, List.getD_eq_getElem?_getD, List.getElem?_reverse (by simpa using lm)]
    simp only [Array.length_toList, Array.getElem?_toList]
    rw [Array.getElem?_eq_getElem (by omega)]
    rfl
  rw [e, List.filterMap_eq_map', List.getElem?_map]
  by_cases h : i < xs.size
  · rw [List.getElem?_range h, List.getElem?_eq_getElem (l := xs.toList.reverse) (by simpa using h)]
    show some (xs.toList.reverse.getD i .none) = _
    rw [List.getD_eq_getElem?_getD, List.getElem?_eq_getElem (l := xs.toList.reverse) (by simpa using h)]
    rfl
  · rw [List.getElem?_eq_none (by simpa using h), List.getElem?_eq_none (by simpa using h)]
    rfl
theorem getItem_tuple_rev {t sl : Addr} {items : Array Value} {vl vu vs : Value} {Q : Value → Shared → Prop} (ht : IsTup s.heap t items) (hs : s.heap.IsSliceOf sl vl vu vs) (pl : IsPart vl none) (pu : IsPart vu none) (ps : IsPart vs (some (-1)))
    (h : Q (.ref s.heap.objs.size) { s with heap := s.heap.push { cls := .type "tuple", data := .seq items.toList.reverse.toArray } })
    (hsz : items.size ≤ sizeLine) : wpAny (model prog w) A (getItem (.ref t) (.ref sl)) Q E s := by
  have htake : sizeOk (.seq items.toList.reverse.toArray) := by
    show items.toList.reverse.toArray.size ≤ sizeLine
    rw [List.size_toArray, List.length_reverse, Array.length_toList]
    exact hsz
  obtain ⟨os, hos, hcs, hds⟩ := id hs
  have hTs : s.TypeIs (.ref sl) "slice" := ⟨os, hos, hcs⟩
  unfold getItem
  try with_reducible refine wpAny_holding ?_
  first | refine wpAny_bind (wpAny_pure ?_) | skip
  refine wpAny_bind (wpAny_sequenceKey ht.typeIs (by decide) ?_)
  refine wpAny_bind (wpAny_callSpecial?_slot (name := Str.ofString "__getitem__") ht.typeIs PyProof.Rows.slot_tuple_getitem
    (wpAny_call_entry PyProof.Rows.slot_tuple_getitem ht.typeIs entry_tuple_getitem ?_ (args_tuple_getitem _ _)))
  show wpAny _ _ (Builtin.Tuple.tupleItemsOf (.ref t) >>= _) _ _ s
  refine wpAny_bind (tupleItemsOf_ ht ?_)
  refine wpAny_bind (wpAny_typeOf hTs ?_)
  rw [if_pos (by decide)]
  refine wpAny_bind (sliceApplied_rev hs pl pu ps ?_)
  have hno : ¬ ((((items.size : Int) - 1) == 0 && (-1 : Int) == 1 && items.size == items.size) = true) := by
    rw [show ((-1 : Int) == 1) = false by decide]
    simp
  show wpAny _ _ (if (((items.size : Int) - 1) == 0 && (-1 : Int) == 1 && items.size == items.size) = true then _ else _) _ _ s
  rw [if_neg hno, pick_rev]
  first
    | exact wpAny_bind (m := Builtin.Tuple.tupleExact _) (wpAny_newObj_type (wpAny_pure ⟨_, rfl, wpAny_pure h⟩) htake)
    | exact wpAny_bind (m := Builtin.Tuple.tupleExact _) (wpAny_newObj_type (wpAny_bind (wpAny_pure (wpAny_pure ⟨_, rfl, wpAny_pure h⟩))) htake)
    | exact wpAny_bind (wpAny_bind (m := Builtin.Tuple.tupleExact _) (wpAny_newObj_type (wpAny_pure (wpAny_pure ⟨_, rfl, wpAny_pure h⟩)) htake))
    | exact wpAny_bind (wpAny_bind (m := Builtin.Tuple.tupleExact _) (wpAny_newObj_type (wpAny_pure ⟨_, rfl, wpAny_pure h⟩) htake))
end
end HT

namespace TL
open L2 PyProof.Rows PySem PySem.Spec TS RZ
def tRevA (K : PySem.W.Frag) (te : TE) : TE := fun σ H Q => te σ H fun x H1 => (∃ a xs, x = .ref a ∧ SqL K H1 a xs ∧ ∀ p, H1 p = none → Q (.ref p) (upd H1 p (.lst xs.reverse))) ∨ ∃ a xs, x = .ref a ∧ SqT K H1 a xs ∧ ∀ p, H1 p = none → Q (.ref p) (upd H1 p (.tup xs.reverse))
/-- x[::-1] of a list or a tuple -/
theorem pe_revA {X : Cx} {te : TE} {e : Expr} {k : Nat} {p1 p2 p3 pos : Pos} (he : PE X e te) : PE X (.Subscript e (.Slice none none (some (.UnaryOp .USub (.Constant (.int 1) k p1) p2)) p3) pos) (tRevA X.K te) := by
  refine ⟨fun pins s σ H Q I h => ?_⟩
  refine Subscript_ (thn (he.run pins s σ H _ I h) fun v s1 ⟨x, H1, I1, r1, q1⟩ => ?_)
  have hst : PO X (some (.UnaryOp .USub (.Constant (.int 1) k p1) p2)) (tPart (tUn (rU fun i => .int (-i)) (tC (.int 1)))) := po_some (pe_un un_neg pe_int)
  refine wpAny_Slice (thn (po_none.run pins s1 σ H1 (fun o H2 => o = none ∧ H2 = H1) I1 ⟨rfl, rfl⟩) fun vl s2 ⟨l, H2, I2, pl, el, e2⟩ => ?_)
  subst el e2
  refine thn (po_none.run pins s2 σ H2 (fun o H3 => o = none ∧ H3 = H2) I2 ⟨rfl, rfl⟩) fun vu s3 ⟨u, H3, I3, pu, eu, e3⟩ => ?_
  subst eu e3
  refine thn (hst.run pins s3 σ H3 (fun o H4 => o = some (-1) ∧ H4 = H3) I3 ⟨1, rfl, -1, rfl, rfl, rfl⟩) fun vs s4 ⟨o, H4, I4, ps, eo, e4⟩ => ?_
  subst eo e4
  have I5 : Inv X pins σ H4 { s4 with heap := s4.heap.push { cls := .type "slice", data := .fields #[vl, vu, vs] } } := I4.kept (t' := s4.toks) fun b ob q => Heap.get?_push_of_some _ q
  rcases q1 with ⟨a, xs, ex, hx, q⟩ | ⟨a, xs, ex, hx, q⟩
  · subst ex
    cases r1
    obtain ⟨its, r, ht, hz⟩ := I5.list hx
    have hlen := r.length
    show wpAny (model X.prog X.w) X.A (subscriptTail e (.Slice none none (some (.UnaryOp .USub (.Constant (.int 1) k p1) p2)) p3) (.ref a) (.ref s4.heap.objs.size)) (EP X pins σ Q) X.xe { s4 with heap := s4.heap.push { cls := .type "slice", data := .fields #[vl, vu, vs] } }
    refine tail_any (ops := [.ref a, .ref s4.heap.objs.size]) ht.isList.typeIs (PySem.slot_list_getitem.lookup) ?_ (by with_unfolding_all rfl)
    refine wpAny_getItem_list_slice ht.isList (Heap.IsSliceOf.new _ vl vu vs) pl pu ps (by decide) ?_ (by rw [List.size_toArray]; omega)
    rw [PySem.W.krv_pick]
    refine ⟨.ref _, _, I5.laid (t' := s4.toks) (o := .lst xs.reverse) (fun b ob q => Heap.get?_push_of_some _ q) (Nat.le_refl _) ?_, rfl, q _ (I5.hok.fresh (Nat.le_refl _))⟩
    exact ⟨by rw [List.length_reverse]; exact hz, _, 0, r.reverse, Heap.get?_push_size _ rfl⟩
  · subst ex
    cases r1
    obtain ⟨its, r, ht, hz⟩ := I5.tuple hx
    have hlen := r.length
    show wpAny (model X.prog X.w) X.A (subscriptTail e (.Slice none none (some (.UnaryOp .USub (.Constant (.int 1) k p1) p2)) p3) (.ref a) (.ref s4.heap.objs.size)) (EP X pins σ Q) X.xe { s4 with heap := s4.heap.push { cls := .type "slice", data := .fields #[vl, vu, vs] } }
    refine tail_any (ops := [.ref a, .ref s4.heap.objs.size]) ht.typeIs (PyProof.Rows.slot_tuple_getitem.lookup) ?_ (by with_unfolding_all rfl)
    refine HT.getItem_tuple_rev ht (Heap.IsSliceOf.new _ vl vu vs) pl pu ps ?_ (by rw [List.size_toArray]; omega)
    refine ⟨.ref _, _, I5.laid (t' := s4.toks) (o := .tup xs.reverse) (fun b ob q => Heap.get?_push_of_some _ q) (Nat.le_refl _) ?_, rfl, q _ (I5.hok.fresh (Nat.le_refl _))⟩
    exact ⟨by rw [List.length_reverse]; exact hz, _, r.reverse, IsTup.new _ _⟩
def tlRevA (T : TX) : TX := fun Γ n R => T Γ n fun r n1 => match r.d with
  | .lst ds => R (.new (.lst ds.reverse)) n1
  | .tup ds => R (.new (.tup ds.reverse)) n1
  | _ => False
theorem re_revA {C : Addr} {K : PySem.W.Frag} {Z : Zx} {t : TE} {T : TX} (h : RE C Z t T) : RE C Z (tRevA K t) (tlRevA T) := by
  intro G Γ σ H n Q R M h1 q
  refine h G Γ σ H n _ _ M h1 fun v H1 r n1 e1 p1 x1 r1 => ?_
  have vw := x1.view fun a h => Z.papart M.pdom h
  cases hd : r.d with
  | lst ds =>
    rw [hd] at r1 vw
    obtain ⟨a, vs, rfl, ha, rr⟩ := vw.lst
    exact .inl ⟨a, vs, rfl, SqL.of ha, fun b nb => q _ _ (.new (.lst ds.reverse)) n1 (e1.trans (.same (same_upd nb))) (p1.same (same_upd nb)) ⟨b, rfl, e1.free (fun c z => p1.at z) nb, _, upd_same, rr.rev.mono (fresh_rep (p := Z.p) (C := C) nb)⟩ r1⟩
  | tup ds =>
    rw [hd] at r1 vw
    obtain ⟨a, vs, rfl, ha, rr⟩ := vw.tup
    exact .inr ⟨a, vs, rfl, SqT.of ha, fun b nb => q _ _ (.new (.tup ds.reverse)) n1 (e1.trans (.same (same_upd nb))) (p1.same (same_upd nb)) ⟨b, rfl, e1.free (fun c z => p1.at z) nb, _, upd_same, rr.rev.mono (fresh_rep (p := Z.p) (C := C) nb)⟩ r1⟩
  | _ => rw [hd] at r1; exact False.elim r1
end TL

-- TLM
set_option Elab.async false
set_option linter.all false
set_option maxRecDepth 100000
set_option maxHeartbeats 4100000
/-! TLM: d.get(x) of a module's own dictionary from texts to numbers -/
namespace TL
open L2 PyProof.Rows PySem PySem.Spec TS RZ
/-- the entries, one by one -/
def EntsAre (w : World) : List DictEntry → List (Str × Int) → Prop
  | [], [] => True
  | e :: es, (x, i) :: r => (∃ t u, e = ⟨hashStr w x, .str x t, .int i u⟩) ∧ EntsAre w es r
  | _, _ => False
/-- a kept dictionary -/
def KDict (w : World) (K : PySem.W.Frag) (a : Addr) (tbl : List (Str × Int)) : Prop :=
  ∃ es ep, K.lookup a = some ⟨.type "dict", none, .dict es ep, #[]⟩ ∧ (a == sysModules) = false ∧ EntsAre w es.toList tbl ∧ (tbl.map (·.1)).Nodup
def KDs (w : World) (K : PySem.W.Frag) (mg : Str → Option Value) (x : Str) (tbl : List (Str × Int)) : Prop := ∃ a, mg x = some (.ref a) ∧ KDict w K a tbl
def tblV (tbl : List (Str × Int)) : List (Key × V) := tbl.map fun p => (.inr p.1, .int p.2)
theorem ents_ok {P : Program} {w : World} : ∀ {es : List DictEntry} {tbl : List (Str × Int)}, EntsAre w es tbl → ∃ vs : List (Key × Value), Pairs (mixKind P w) es vs ∧ KV (tblV tbl) vs ∧ vs.map (·.1) = tbl.map (fun p => (Sum.inr p.1 : Key)) ∧ ∀ e ∈ es, ∃ k, (mixKind P w).is k e.key = true ∧ e.hash = (mixKind P w).hash k
  | [], [], _ => ⟨[], .nil, .nil, rfl, fun _ h => nomatch h⟩
  | e :: es, (x, i) :: r, ⟨⟨t, u, he⟩, h⟩ => by
    obtain ⟨vs, h1, h2, h3, h4⟩ := ents_ok (P := P) h
    subst he
    have ki : (mixKind P w).is (.inr x) (.str x t) = true := by
      show keyIs (.inr x) (.str x t) = true
      simp [keyIs, Value.isStr, Value.isStrOf]
    refine ⟨(.inr x, .int i u) :: vs, .cons ki rfl h1, .cons ⟨rfl, u, rfl⟩ h2, by rw [List.map_cons, List.map_cons, h3], fun e he => ?_⟩
    rcases List.mem_cons.1 he with rfl | he
    · exact ⟨.inr x, ki, rfl⟩
    · exact h4 e he
  | [], _ :: _, h => h.elim
  | _ :: _, [], h => h.elim
theorem kd_dict {X : Cx} {pins : List (Addr × Obj)} {σ : L2.St} {H : Hp} {s : Shared} {a : Addr} {tbl : List (Str × Int)} (I : Inv X pins σ H s) (kd : KDict X.w X.K a tbl) : ∃ vs, KV (tblV tbl) vs ∧ s.heap.DictOf (mixKind X.prog X.w) a vs ∧ (a == sysModules) = false := by
  obtain ⟨es, ep, hk, hs, he, nd⟩ := kd
  obtain ⟨vs, h1, h2, h3, h4⟩ := ents_ok (P := X.prog) he
  refine ⟨vs, h2, ⟨_, es, ep, I.kIn a _ hk, ⟨rfl, rfl, rfl⟩, rfl, fun e he => h4 e (Array.mem_toList_iff.2 he), h1, ?_⟩, hs⟩
  rw [h3]
  have : (tbl.map fun p => (Sum.inr p.1 : Key)) = (tbl.map (·.1)).map Sum.inr := by rw [List.map_map]; rfl
  rw [this]
  exact List.Pairwise.map _ (fun a b ne e => ne (Sum.inr.inj e)) nd
def tKGet (tbl : List (Str × Int)) (ty : TE) : TE := fun σ H Q => ty σ H fun y H1 => ∃ k, y = kV k ∧ Q ((valV (tblV tbl) k).getD .non) H1
theorem pe_kget {X : Cx} {o e : Expr} {apos cpos : Pos} {ty : TE} {a : Addr} {tbl : List (Str × Int)} (kd : KDict X.w X.K a tbl) (ho : PE X o (tC (.ref a))) (he : PE X e ty) (m : M1 X o "get" apos e cpos) : PE X (.Call (.Attribute o "get" apos) [e] [] cpos) (tKGet tbl ty) := by
  refine ⟨fun pins s σ H Q I h => ?_⟩
  refine wpAny_Call_method m.base m.few m.line PySem.F.plainAttrs_dict PySem.F.slot_dict_get PySem.F.type_dict_get (thn (ho.run pins s σ H (fun x H1 => x = .ref a ∧ H1 = H) I ⟨rfl, rfl⟩) fun u s1 ⟨x, H1, I1, rx, ex, eh⟩ => ?_)
  subst ex eh
  obtain rfl : u = Value.ref a := rx
  obtain ⟨vs1, _, dd1, _⟩ := kd_dict I1 kd
  refine ⟨dd1.typeIs, fun b q => ?_, ?_⟩
  · cases q
    obtain ⟨ob, _, _, h1, h2, _⟩ := dd1
    exact ⟨ob, h1, h2.2.1⟩
  rw [m.trees]
  refine Calls.callWith_builtin rfl (Calls.evalArgs_plain (Calls.spliced_cons (thn (he.run pins s1 σ H1 _ I1 h) fun iv s2 ⟨y, H2, I2, ry, k, ey, q2⟩ => Calls.spliced_nil ?_)))
  subst ey
  obtain ⟨vs, rel, dd, hd⟩ := kd_dict I2 kd
  refine call_meetsIn PySem.F.slot_dict_get dd.typeIs PySem.F.entry_dict_get (PySem.F.args_dict_get_2 _ _) (meets_dict_get (mixKind X.prog X.w) a (kV_is ry) hd) ⟨_, dd.mapOf, ?_⟩
  exact ⟨(valV (tblV tbl) k).getD .non, H2, I2.tok _, (rel.val k).getD rfl, q2⟩
/-- what a text has there -/
def tGet (tbl : List (Str × Int)) (z : Str) : D := match tbl.lookup z with
  | some i => .int i
  | none => .non
def tlKGet (tbl : List (Str × Int)) (T : TX) : TX := fun Γ n R => T Γ n fun r n1 => match r.d with
  | .str z => R (.val (tGet tbl z)) n1
  | _ => False
theorem valV_tbl (z : Str) : ∀ tbl : List (Str × Int), (valV (tblV tbl) (.inr z)).getD .non = match tbl.lookup z with | some i => V.int i | none => V.non
  | [] => rfl
  | (x, i) :: r => by
    have ih := valV_tbl z r
    by_cases e : x = z
    · subst e
      show (valV ((.inr x, .int i) :: tblV r) (.inr x)).getD .non = _
      rw [valV_pos rfl, List.lookup_cons, beq_self_eq_true]
      rfl
    · show (valV ((.inr x, .int i) :: tblV r) (.inr z)).getD .non = _
      rw [valV_neg (fun q => e (Sum.inr.inj q)), ih, List.lookup_cons, beq_false_of_ne (fun q => e q.symm)]
theorem re_kget {C : Addr} {Z : Zx} {tbl : List (Str × Int)} {t : TE} {T : TX} (h : RE C Z t T) : RE C Z (tKGet tbl t) (tlKGet tbl T) := by
  intro G Γ σ H n Q R M h1 q
  refine h G Γ σ H n _ _ M h1 fun v H1 r n1 e1 p1 x1 r1 => ?_
  have vw := x1.view fun a h => Z.papart M.pdom h
  cases hd : r.d with
  | str z =>
    rw [hd] at r1 vw
    have ev := vw.str
    subst ev
    refine ⟨.inr z, rfl, ?_⟩
    rw [valV_tbl]
    have r1 : R (.val (tGet tbl z)) n1 := r1
    unfold tGet at r1
    cases hl : tbl.lookup z with
    | some i => rw [hl] at r1; exact q _ H1 (.val (.int i)) n1 e1 p1 (show V.int i = V.int i from rfl) r1
    | none => rw [hl] at r1; exact q _ H1 (.val .non) n1 e1 p1 (show V.non = V.non from rfl) r1
  | _ => rw [hd] at r1; exact False.elim r1
end TL
namespace TL
open L2 PyProof.Rows PySem PySem.Spec TS RZ
theorem kd_mk {w : World} {K : PySem.W.Frag} {a : Addr} {tbl : List (Str × Int)} {es : Array DictEntry} {ep : Nat} (l : K.lookup a = some ⟨.type "dict", none, .dict es ep, #[]⟩) (z : (a == sysModules) = false) (e : EntsAre w es.toList tbl) (d : (tbl.map (·.1)).Nodup) : KDict w K a tbl := ⟨es, ep, l, z, e, d⟩
end TL

-- TLN
set_option Elab.async false
set_option linter.all false
set_option maxRecDepth 100000
set_option maxHeartbeats 4100000
/-! TLN: sorted(t) of a tuple of texts -/
namespace PyProof.Rows
open PySem PySem.Spec
section
variable {prog : Program} {w : World} {A : Around} {E : Value → Shared → Prop} {s : Shared}
theorem collect_tup {l : Addr} {vs : List Value} {Q : List Value → Shared → Prop} (hl : IsTup s.heap l vs.toArray)
    (h : Q vs { s with heap := (s.heap.push (seqObj "list" #[] 0)).update s.heap.objs.size (Obj.mapSeq (· ++ vs.toArray)) }) (hsz : vs.length ≤ sizeLine) :
    wpAny (model prog w) A (collect (.ref l)) Q E s := by
  obtain ⟨o, ho, hc, n, hd⟩ := id hl
  unfold collect
  refine wpAny_bind (wpAny_runValue (codeAny_builtin entry_proto_collect' ?_))
  show wpAny _ _ (do again (.builtin "list.__iadd__" ⟨[← newList [], .ref l], []⟩)) _ _ s
  refine wpAny_bind (wpAny_newList (wpAny_pure ⟨Code.quiet_builtin _ (by decide +kernel), codeAny_builtin entry_list_iadd' ?_⟩))
  show wpAny _ _ (Builtin.List.listExtendWith (.ref s.heap.objs.size) (.ref l) (.ref s.heap.objs.size)) _ _ { s with heap := s.heap.push (seqObj "list" #[] 0) }
  unfold Builtin.List.listExtendWith
  have ho' : (s.heap.push (seqObj "list" #[] 0)).get? l = some o := Heap.get?_push_of_some _ ho
  refine wpAny_bind (wpAny_typeOf (T := "tuple") ⟨o, ho', hc⟩ ?_)
  have ht : (Value.type "tuple" == Value.type "tuple") = true := by rfl
  rw [if_pos (by rw [ht]; simp)]
  refine wpAny_bind (listItems_at ho' hd ?_)
  refine wpAny_bind (listItems_at (xs := #[]) (n := 0) (Heap.get?_push_size _ rfl) rfl ?_)
  rw [if_neg (by simp)]
  refine wpAny_bind (listUpdate_at (xs := #[]) (n := 0) (Heap.get?_push_size _ rfl) rfl ?_ (Nat.zero_le _) (by show (#[] ++ vs.toArray).size ≤ sizeLine + 1; simp only [Array.size_append, List.size_toArray, List.length_nil]; omega))
  refine wpAny_pure ?_
  show wpAny (model prog w) A (do
      let o ← load s.heap.objs.size
      match o.data with
      | .seq xs _ => pure xs.toList
      | _ => unsupported "internal:collect") Q E { s with heap := (s.heap.push (seqObj "list" #[] 0)).update s.heap.objs.size (Obj.mapSeq (· ++ vs.toArray)) }
  refine wpAny_bind (wpAny_load (get?_update_seq (Heap.get?_push_size _ rfl) _) ?_)
  show wpAny _ _ (pure ((#[] : Array Value) ++ vs.toArray).toList) Q E _
  rw [show ((#[] : Array Value) ++ vs.toArray).toList = vs by simp]
  exact wpAny_pure h
theorem sortedKT {κ : KeyKind} (hO : κ.OneLt) {l : Addr} {vs : List Value} {Q : Value → Shared → Prop} (hl : IsTup s.heap l vs.toArray) (h0 : KeysOf κ (pairsOf vs)) (hkk : ∀ v₁ v₂ rest, vs = v₁ :: v₂ :: rest → keyKind' (v₁ :: v₂ :: rest).toArray = pure oneType') (h64 : vs.length < 64)
    (h : ∀ st' : SortSt, (arrOf st').Perm (pairsOf vs) → SortedToK κ (arrOf st') (pairsOf vs).size → Q (.ref (s.heap.objs.size + 1)) { s with heap := sortedAll s.heap vs ((arrOf st').map (·.2)) }) :
    wpAny (model prog w) A (call (.builtin "sorted") [.ref l]) Q E s := by
  refine Calls.call_function_entry kind_sorted plain_sorted entry_sorted (args_sorted1 _) ?_
  unfold Builtin.«sorted»
  refine wpAny_bind (m := checkCount "sorted" 1 1 _) (wpAny_pure ?_)
  refine wpAny_bind (collect_tup hl ?_ (by rw [sizeLine_eq]; omega))
  refine wpAny_bind (wpAny_newList ?_)
  have hsz : ((s.heap.push (seqObj "list" #[] 0)).update s.heap.objs.size (Obj.mapSeq (· ++ vs.toArray))).objs.size = s.heap.objs.size + 1 := by
    rw [Heap.size_update, size_push']
  have hoL : (((s.heap.push (seqObj "list" #[] 0)).update s.heap.objs.size (Obj.mapSeq (· ++ vs.toArray))).push (seqObj "list" vs.toArray 0)).get? (s.heap.objs.size + 1) = some (seqObj "list" vs.toArray 0) := by
    rw [← hsz]; exact Heap.get?_push_size _ rfl
  show wpAny _ _ _ _ _ { s with heap := ((s.heap.push (seqObj "list" #[] 0)).update s.heap.objs.size (Obj.mapSeq (· ++ vs.toArray))).push (seqObj "list" vs.toArray 0) }
  rw [hsz]
  refine wpAny_bind (wpAny_holding (wpAny_call_entry slot_list_sort ⟨_, hoL, rfl⟩ entry_list_sort (list_sort_treeK hO hoL h0 hkk h64 fun st' a1 a2 => ⟨_, rfl, ?_⟩) (args_list_sort _)))
  exact wpAny_pure ⟨_, rfl, h st' a1 a2⟩
theorem sorted_strsT {l : Addr} {vs : List Value} {ss : List Str} {Q : Value → Shared → Prop} (hl : IsTup s.heap l vs.toArray) (hS : StrsAre vs ss) (h64 : vs.length < 64)
    (h : ∀ (out : Array Value) (ss' : List Str), StrsAre out.toList ss' → ss'.Perm ss → sortedS ss' = true → Q (.ref (s.heap.objs.size + 1)) { s with heap := sortedAll s.heap vs out }) :
    wpAny (model prog w) A (call (.builtin "sorted") [.ref l]) Q E s := by
  refine sortedKT strKind_oneLt hl hS.keysOf (fun v₁ v₂ rest e => keyKind_strs (by rw [← e]; exact hS)) h64 fun st' hp hs => ?_
  obtain ⟨ss', h1, h2, h3⟩ := sorted_out_str hS hp hs
  exact h _ ss' h1 h2 h3
end
end PyProof.Rows
namespace TL
open L2 PyProof.Rows PySem PySem.Spec TS RZ
def rSortT (K : PySem.W.Frag) : List V → Hp → VK → Prop := fun vs H Q => ∃ (a : Addr) (xs : List Str), vs = [V.ref a] ∧ SqT K H a (xs.map V.str) ∧ xs.length < 64 ∧
  ∀ (ys : List Str) (p : Addr), ys.Perm xs → sortedS ys = true → H p = none → Q (.ref p) (upd H p (.lst (ys.map V.str)))
theorem cr_sortTx {X : Cx} : CallR X (.builtin "sorted") (rSortT X.K) := by
  intro pins s σ H vs us Q I r h
  obtain ⟨a, xs, rfl, hs, h64, q⟩ := h
  obtain ⟨its, rv, hl, _⟩ := I.tuple hs
  rw [Vals.ref1 r]
  have hlen0 := rv.length
  rw [List.length_map] at hlen0
  refine PyProof.Rows.sorted_strsT hl rv.strs (by rw [← hlen0]; exact h64) fun out ys h1 h2 h3 => ?_
  obtain ⟨ep, he'⟩ := PyProof.Rows.sortedAll_at s.heap its out
  have hlen : (ys.map V.str).length ≤ sizeLine := by rw [List.length_map, h2.length_eq]; exact small64 h64
  exact ⟨.ref _, upd H (s.heap.objs.size + 1) (.lst (ys.map V.str)), I.laid (t' := s.toks) (fun _ _ => PyProof.Rows.sortedAll_old) (Nat.le_succ _) ⟨hlen, out.toList, ep, vals_of_strs h1, he'⟩, rfl, q ys _ h2 h3 (I.hok.fresh (Nat.le_succ _))⟩
/-- sorted: texts, tuples of texts, a tuple of texts -/
def rSortAT (K : PySem.W.Frag) : List V → Hp → VK → Prop := orL (rSortA K) (rSortT K)
theorem cr_sortAT {X : Cx} : CallR X (.builtin "sorted") (rSortAT X.K) := CallR.or cr_sortA cr_sortTx
def dSortedT : List D → (Rv → Prop) → Prop
  | [.tup ds], R => ∃ xs : List Str, ds = xs.map .str ∧ xs.length < 64 ∧ ∀ ys : List Str, ys.Perm xs → sortedS ys = true → R (.new (dS ys))
  | ds, R => dSorted ds R
theorem rn_sortedT {C : Addr} {K : PySem.W.Frag} {Z : Zx} : RnT C Z (rSortAT K) dSortedT := by
  intro W H xs ds R Q hp dm hx h q
  unfold dSortedT at h
  split at h
  · obtain ⟨v, rfl, hv⟩ := hx.one
    obtain ⟨a, vs, rfl, ha, r⟩ := hv.tup
    obtain ⟨xs, rfl, l, h⟩ := h
    rw [r.strs] at ha
    exact .inr ⟨a, xs, rfl, SqT.of ha, l, fun ys b pm so nb => new_lst (repL_strs ys) (h ys pm so) q b nb⟩
  · exact .inl (rn_sorted W H xs _ R Q hp dm hx h q)
end TL

-- TLO
set_option Elab.async false
set_option linter.all false
set_option maxRecDepth 100000
set_option maxHeartbeats 4100000
/-! TLO: each of some new lists is spoilt: for p in x: p.append(c); defs that give back two new lists -/
namespace TL
open L2 PyProof.Rows PySem PySem.Spec TS RZ
section
variable {C : Addr} {K : PySem.W.Frag} {Z : Zx} {G : List (V × Rv)} {Γ : Gm} {σ : L2.St} {H0 H H' : Hp} {L : Addr} {vs : List V} {rs : List Rv} {i m n n0 : Nat}
def n2All (i j : Nat) (U : TNs) : TNs := fun m rs E Γ n => (i ≠ j ∧ j < Γ.length ∧ (∀ r ∈ rs, ∃ ds, r = .new (.lst ds) ∧ ds.length ≤ 1000000) ∧ m + rs.length ≤ 1000) ∧ U (m + rs.length) rs E (Γ.set j none) n
theorem set_self {j : Nat} (h : j < σ.length) : ∃ x, σ.set j x = σ := ⟨σ[j], List.set_getElem_self h⟩
theorem n2_all {j : Nat} {v : V} {u : TS} {U : TNs} (hu : RN2 C i u U) :
    RN2 C i (tSeq (tFor (iSeq K (tVar i)) (gName j) (tDrop (tBM K "list" rAppend (tVar j) (tCons (tC v) tNil)))) u) (n2All i j U) := by
  rintro Z G Γ σ H0 H n0 n m L vs rs E F M hs e pa N Lk_ ⟨⟨nij, hj, all, few⟩, q⟩
  have lj : j < σ.length := by rw [M.len]; exact hj
  refine ⟨.ref L, hs, .inl ⟨L, rfl, ⟨vs, SqL.of N.lst⟩, ?_⟩⟩
  refine ⟨fun k w σ' H' => w = vs.length - k ∧ k ≤ vs.length ∧ (∃ x, σ' = σ.set j x) ∧ Bt Z.p H0 H' ∧ PAt Z.p H' n ∧ Nst H0 H' L vs rs (m + k), ⟨vs.length, rfl, Nat.zero_le _, ?_, e, pa, N⟩, ?_⟩
  · obtain ⟨x, hx⟩ := set_self lj
    exact ⟨x, hx.symm⟩
  · rintro k w σ' H' ⟨rfl, hk, ⟨x, rfl⟩, e', pa', N'⟩
    by_cases hlt : k < vs.length
    · refine .inr ⟨⟨vs, vs[k], SqL.of N'.lst, List.getElem?_eq_getElem hlt⟩, fun σ2 H2 => ∃ w, w = vs.length - (k + 1) ∧ k + 1 ≤ vs.length ∧ (∃ x, σ2 = σ.set j x) ∧ Bt Z.p H0 H2 ∧ PAt Z.p H2 n ∧ Nst H0 H2 L vs rs (m + (k + 1)), ?_, ?_⟩
      · rintro σ2 H2 ⟨w, rfl, h⟩
        exact ⟨vs.length - (k + 1), by omega, rfl, h⟩
      · rintro y H3 ⟨rfl, hy⟩
        have hy := hy vs (SqL.of N'.lst)
        have lr : k < rs.length := by rw [← N'.len]; exact hlt
        obtain ⟨ds, er, fd⟩ := all _ (List.getElem_mem lr)
        obtain ⟨a, us, h1, h2, h3, h4, h5, h6⟩ := N'.it k ds (by rw [List.getElem?_eq_getElem lr, er])
        rw [h1] at hy
        obtain rfl := Option.some.inj hy
        have na := apart0 M h2
        have lk : m + k ≤ 1000 := by rw [← N'.len] at few; omega
        refine ⟨.ref a, ?_, .inl ⟨rfl, us, SqL.of h4⟩, ?_⟩
        · rw [List.set_set]
          exact List.getElem?_set_self lj
        · refine ⟨a, us, v, rfl, rfl, h4, small7 (h6 fd) lk, ?_⟩
          refine ⟨_, rfl, hlt, ⟨_, List.set_set ..⟩, bt_put h2 e', pa'.put na, ?_⟩
          exact N'.upd h2 h3 h4 (by simp) (by simp)
    · refine .inl ⟨⟨vs, SqL.of N'.lst, by omega⟩, ?_⟩
      have ek : k = rs.length := by rw [← N'.len]; omega
      subst ek
      exact hu Z G (Γ.set j none) _ H0 H' n0 n (m + rs.length) L vs rs E F M.blank (by rw [List.getElem?_set_ne (fun z => nij z.symm)]; exact hs) e' pa' N' Lk_ q
end
/-! ### two new lists given back -/
abbrev STP := List D → Nat → (D → D → Nat → Prop) → Prop
def spPair (C : Addr) (ks : List Bool) (S : STP) : Sp := fun vs H Q _ => ∃ (p : Option Addr) (W : Addr → Prop) (n : Nat) (ds : List D) (R : D → D → Nat → Prop), (∀ a, W a → ∃ o, H a = some o) ∧ (∀ a, p = some a → W a) ∧ PAt p H n ∧
  ARep C p W H ks ds vs ∧ S ds n R ∧ ∀ (H' : Hp) (n' : Nat) (d0 d1 : D) (a a0 a1 : Addr), Bt p H H' → PAt p H' n' → H a = none → H a0 = none → H a1 = none → H' a = some (.tup [.ref a0, .ref a1]) →
    RepO p C (fun c => W c ∨ c = a0) H' a0 d0 → RepO p C (fun c => W c ∨ c = a1) H' a1 d1 → R d0 d1 n' → Q (.ref a) H'
def HasP (P : Program) (w : World) (K : PySem.W.Frag) (mg : Str → Option Value) (base : Heap) (C : Addr) (k : Nat) (x : Str) (ps : List Str) (ks : List Bool) (S : STP) : Prop :=
  ∃ f fd, FnOk P w K mg base CX0 k f fd ps (spPair C ks S) ∧ mg x = some (.ref f) ∧ PySem.W.keepIn K (.ref f) = true ∧ Binds K fd ps []
/-- f(..)[j] -/
def tlCallIx (ks : List Bool) (S : STP) (j : Nat) (T : TXs) : TX := fun Γ n R => T Γ n fun rs n1 => kOk ks rs = true ∧ S (rs.map Rv.d) n1 fun d0 d1 n2 => match j with
  | 0 => R (.new d0) n2
  | 1 => R (.new d1) n2
  | _ => False
section
variable {C : Addr} {K : PySem.W.Frag}
theorem re_callIx {Z : Zx} {ks : List Bool} {S : STP} {ta : TA} {T : TXs} {E : XK} {j : Nat} (ha : RA C Z ta T) : RE C Z (tOp (rIxA K) (tCall (spPair C ks S) [] E ta) (tC (.int ((j : Nat) : Int)))) (tlCallIx ks S j T) := by
  intro G Γ σ H n Q R M h q
  refine ha G Γ σ H n _ _ M h fun vs H1 rs n1 e1 p1 x1 ⟨k1, h1⟩ => ?_
  have M1 := M.bt e1 p1
  rw [List.append_nil]
  refine ⟨Z.p, Ws Z Γ σ, n1, rs.map Rv.d, _, fun a w => M1.wdom w, fun a z => Ws.pw z, p1, x1.args (fun a w => M.wdom w) (fun a h => Z.papart M.pdom h) k1, h1, fun H' n' d0 d1 a a0 a1 b pa na n0 n1 ht r0 r1 hr => ?_⟩
  have pd : ∀ c, Z.p = some c → ∃ o, H1 c = some o := fun c z => p1.at z
  match j, hr with
  | 0, hr => exact .inr (.inl ⟨a, [.ref a0, .ref a1], _, .ref a0, rfl, rfl, SqT.of ht, atI_nat (j := 0) rfl, q _ H' (.new d0) n' (e1.trans b) pa ⟨a0, rfl, e1.free pd n0, r0⟩ hr⟩)
  | 1, hr => exact .inr (.inl ⟨a, [.ref a0, .ref a1], _, .ref a1, rfl, rfl, SqT.of ht, atI_nat (j := 1) rfl, q _ H' (.new d1) n' (e1.trans b) pa ⟨a1, rfl, e1.free pd n1, r1⟩ hr⟩)
  | j + 2, hr => exact hr.elim
abbrev TSP := (D → D → Nat → Prop) → Gm → Nat → Prop
def RP (C : Addr) (u : TS) (U : TSP) : Prop := ∀ (Z : Zx) (Γ : Gm) (σ : L2.St) (H : Hp) (n : Nat) (R : D → D → Nat → Prop) (F : Ends), Mt C Z [] Γ σ H n →
  (∀ (H' : Hp) (n' : Nat) (d0 d1 : D) (a a0 a1 : Addr), Bt Z.p Z.H0 H' → PAt Z.p H' n' → Z.H0 a = none → Z.H0 a0 = none → Z.H0 a1 = none → H' a = some (.tup [.ref a0, .ref a1]) →
    RepO Z.p C (fun c => Z.W0 c ∨ c = a0) H' a0 d0 → RepO Z.p C (fun c => Z.W0 c ∨ c = a1) H' a1 d1 → R d0 d1 n' → F.rt (.ref a) H') → U R Γ n → u F σ H
/-- return (x, e) -/
def tlRet2 (i : Nat) (T : TX) : TSP := fun R Γ n => match Γ[i]? with
  | some (some (.new d0)) => T Γ n fun r n1 => match r with
    | .new d1 => R d0 d1 n1
    | _ => False
  | _ => False
theorem rp_ret2 {i : Nat} {te : TE} {T : TX} (h : ∀ Z, RE C Z te T) : RP C (tRet (tTup (tCons (tVar i) (tCons te tNil)))) (tlRet2 i T) := by
  intro Z Γ σ H n R F M fin h1
  unfold tlRet2 at h1
  split at h1
  · next d0 e =>
    obtain ⟨v, hv, a0, rfl, z0, r0⟩ := M.sl i _ e
    refine ⟨_, hv, ?_⟩
    refine h Z [] Γ σ H n _ _ M h1 fun v H1 r n1 e1 p1 x1 q1 => ?_
    match r, x1, q1 with
    | .new d1, ⟨a1, ea, na1, r1⟩, q1 =>
      subst ea
      refine ⟨two_line, fun tp ntp => ?_⟩
      have st := same_upd (o := .tup [.ref a0, .ref a1]) ntp
      have pd : ∀ c, Z.p = some c → ∃ o, H1 c = some o := fun c z => p1.at z
      have w0 : Ws Z Γ σ a0 := .inr ⟨i, ⟨⟨_, e⟩, hv⟩⟩
      have f01 := M.fr.trans e1
      have na1' : Z.H0 a1 = none := M.fr.free M.pdom na1
      have ntp' : Z.H0 tp = none := f01.free pd ntp
      have r0' := r0.mono (keepB (fun _ => Ws.pw) e1) (fun o => e1 a0 o (Z.apart z0))
      refine fin _ n1 d0 d1 tp a0 a1 (f01.trans (.same st)) (p1.same st) ntp' z0 na1' upd_same (r0'.mono (fun c o nc hc => ⟨fun z => nc ?_, st c o hc⟩) fun o ho => st a0 o ho) (r1.mono (fun c o nc hc => ⟨fun z => nc ?_, st c o hc⟩) fun o ho => st a1 o ho) q1
      · rcases z with z | rfl
        · exact .inl z
        · exact w0
      · rcases z with z | z
        · exact .inl (.inl z)
        · exact .inr z
    | .val _, _, q => exact q.elim
    | .bor _, _, q => exact q.elim
    | .tmp _, _, q => exact q.elim
  · exact h1.elim
theorem bridgeP {t u : TS} {T : TSt} {U : TSP} {ks : List Bool} {S : STP} {N : List Str} {vs : List V} {H : Hp} {Q : VK} {E : XK} (rs : RS C t T) (rp : RP C u U)
    (tree : ∀ ds n R, S ds n R → T { nx := fun Γ n => U R Γ n, rt := fun _ _ => False } (slots ks ds (N.length - ks.length)) n) (h : spPair C ks S vs H Q E) : tSeq t u { nx := fun _ H' => Q .non H', rt := Q } (L2.start N vs) H := by
  obtain ⟨p, W, n, ds, R, dom, pw, pa, ar, hS, q⟩ := h
  refine rs (Zx.at p W H dom pw) [] _ _ H n { nx := fun Γ n => U R Γ n, rt := fun _ _ => False } _ (mt_start dom pw pa ar) ⟨fun Γ σ H' n' M h => ?_, fun v H' r n' b pa' st x h => h.elim, fun Γ σ H' n' M h => h.elim, fun Γ σ H' n' M h => h.elim⟩ (tree ds n R hS)
  exact rp (Zx.at p W H dom pw) Γ σ H' n' R _ M (fun H2 n2 d0 d1 a a0 a1 b pa2 za z0 z1 ht r0 r1 hr => q H2 n2 d0 d1 a a0 a1 b pa2 za z0 z1 ht r0 r1 hr) h
section
variable {P : Program} {w : World} {mg : Str → Option Value} {base : Heap}
theorem def_okP {x q : Str} {st : Stmt} {f : Addr} {fd : FuncData} {N ps : List Str} {k : Nat} {ks : List Bool} {S : STP} {T : TSt} {U : TSP} (F : Fun K x q st f fd) (sc : FnScope N ps (defScope st)) (hk : ks.length = ps.length)
    (body : ∀ (cdv : Value) (A : Around) (outer : List Env) (s : Shared) (H : Hp) (E : XK), Room k (A.deeper (envOfC q (defScope st) s.heap.objs.size f cdv)) → ∃ t u, PSs (cxOf CX0 P w K mg base N q (defScope st) f cdv A outer s H E).nox (defBody st) (tSeq t u) ∧ RS C t T ∧ RP C u U)
    (tree : ∀ ds n R, S ds n R → T { nx := fun Γ n => U R Γ n, rt := fun _ _ => False } (slots ks ds (N.length - ks.length)) n) : FnOk P w K mg base CX0 (k + 1) f fd ps (spPair C ks S) := by
  refine F.ok sc (fun vs H Q E h => ?_) (fun cdv A outer s H vs Q E hr h => ?_)
  · obtain ⟨p, W, n, ds, R, _, _, _, ar, _⟩ := h
    rw [ar.len.1, hk]
  · obtain ⟨t, u, h1, h2, h3⟩ := body cdv A outer s H E hr
    exact ⟨tSeq t u, h1, bridgeP h2 h3 tree h⟩
end
end
end TL

-- TLP
set_option Elab.async false
set_option linter.all false
set_option maxRecDepth 100000
set_option maxHeartbeats 4100000
/-! TLP: promises of some defs of the program that are done by hand -/
namespace TL
open L2 PyProof.Rows PySem PySem.Spec TS RZ
def S_is_book : ST := fun ds n R => ∃ z : Str, ds = [.str z] ∧ isWord z ∧ R (.val (.bl true)) n
/-! suites with their last statement apart -/
section
variable {X : Cx} {s1 s2 s3 s4 s5 s6 : Stmt} {t1 t2 t3 t4 t5 t6 : TS}
theorem pss_l1 (a : PS X s1 t1) (b : PS X s2 t2) : PSs X [s1, s2] (tSeq t1 t2) := pss_cons a (pss_one b)
theorem pss_l2 (a : PS X s1 t1) (b : PS X s2 t2) (c : PS X s3 t3) : PSs X [s1, s2, s3] (tSeq (tSeq t1 t2) t3) := by
  have h := pss_cons a (pss_cons b (pss_one c))
  rw [seq_assoc] at h
  exact h
theorem pss_l3 (a : PS X s1 t1) (b : PS X s2 t2) (c : PS X s3 t3) (d : PS X s4 t4) : PSs X [s1, s2, s3, s4] (tSeq (tSeq (tSeq t1 t2) t3) t4) := by
  have h := pss_cons a (pss_cons b (pss_cons c (pss_one d)))
  rw [seq_assoc, seq_assoc] at h
  exact h
theorem pss_l4 (a : PS X s1 t1) (b : PS X s2 t2) (c : PS X s3 t3) (d : PS X s4 t4) (e : PS X s5 t5) : PSs X [s1, s2, s3, s4, s5] (tSeq (tSeq (tSeq (tSeq t1 t2) t3) t4) t5) := by
  have h := pss_cons a (pss_cons b (pss_cons c (pss_cons d (pss_one e))))
  rw [seq_assoc, seq_assoc, seq_assoc] at h
  exact h
end
end TL

-- R
set_option Elab.async false
set_option linter.all false
set_option maxRecDepth 100000
set_option maxHeartbeats 4100000
namespace LW
open L2 PyProof.Rows PySem PySem.Spec TS TL
/-- the row's i-th statement -/
def top (i : Nat) : Stmt := PySem.Challenge.pw_runturns_k81_whole_runs_that_stay.main.body.getD i (.Pass ⟨0, 0, 0, 0⟩)
abbrev sPurse : Stmt := top 36
abbrev sMixed : Stmt := top 37
abbrev sDraw : Stmt := top 38
abbrev sPurses : Stmt := top 39
abbrev sWord : Stmt := top 44
theorem op_powW {X : Cx} : OpR X (binaryOp .Pow) (rI (fun i j => 0 ≤ j ∧ (Builtin.Int.intBits i : Int) * j ≤ 2 ^ 27) fun i j => .int (i ^ j.toNat)) := opI fun _ _ _ _ _ _ _ hc q => pow_int hc.1 hc.2 q
theorem cut_ints (ns : List Int) (lo hi : Option Int) : ∃ ms : List Int, cutV (ns.map V.int) lo hi = ms.map V.int := by
  unfold cutV
  exact ⟨_, by rw [← List.map_drop, ← List.map_take]⟩
/-- the names of the built-ins that the law's defs use -/
structure Bl (mg : Str → Option Value) : Prop where
  sum : mg "sum" = none
  int : mg "int" = none
  max : mg "max" = none
  min : mg "min" = none
  len : mg "len" = none
  range : mg "range" = none
  isi : mg "isinstance" = none
  repr : mg "repr" = none
  all : mg "all" = none
  ve : mg "ValueError" = none
section
variable {base : Heap} {mg : Str → Option Value} {K : PySem.W.Frag} {w : World} {P : Program}
theorem scPurse : FnScope ["_law_script", "_law_at", "_law_seed"] ["_law_script", "_law_at"] (defScope sPurse) := ⟨rfl, rfl, rfl, by decide +kernel, rfl, by decide +kernel, by decide +kernel⟩
def spPurse (K : PySem.W.Frag) : Sp := fun vs H Q _ => ∃ (a : Addr) (ns : List Int) (i : Nat), vs = [.ref a, .int i] ∧ SqL K H a (ns.map V.int) ∧ ns.length ≤ 63 ∧ i ≤ 1000 ∧ ∀ H' p, Same H H' → H p = none → PurseAt H' p 0 → Q (.ref p) H'
theorem ok_purse {f : Addr} {fd : FuncData} (F : Fun K "_law_purse" "_law_purse" sPurse f fd) (B : Bl mg) : FnOk P w K mg base CX0 1 f fd ["_law_script", "_law_at"] (spPurse K) := by
  refine F.ok scPurse (fun vs H Q E h => ?_) (fun cdv A outer s H vs Q E hr h => ?_)
  · obtain ⟨a, ns, i, rfl, _⟩ := h
    rfl
  · obtain ⟨a, ns, i, rfl, hS, hlen, hi, q⟩ := h
    refine ⟨_, pss_cons (ps_set (i := 2) scPurse.nd rfl (.inl rfl) (pe_callB (cr_sum rfl) (by rfl) B.sum (by decide +kernel) (pa_cons (pe_slice sl_list (pv 0) (po_some (pv 1)) (po_some (pe_op op_add (pv 1) pe_int))) pa_nil)))
      (pss_one (ps_ret (pe_lst (pa_cons (pe_op op_mod (pe_callTy call_int1 (by rfl) B.int (by decide +kernel) (pa_cons (pe_callB (call_max2 rfl) (by rfl) B.max (by decide +kernel) (pa_cons (pe_op op_sub (pv 2) (pe_op op_powW pe_int pe_int)) (pa_cons pe_int pa_nil))) pa_nil)) (pe_op op_powW (pe_op op_powW pe_int pe_int) pe_int))
        (pa_cons (pe_op op_mod (pe_callTy call_int1 (by rfl) B.int (by decide +kernel) (pa_cons (pv 2) pa_nil)) pe_int) (pa_cons pe_int (pa_cons (pv 1) pa_nil))))))), ?_⟩
    refine ⟨_, rfl, _, rfl, _, rfl, _, rfl, _, _, rfl, rfl, _, rfl, a, _, rfl, hS, fun c nc => ?_⟩
    obtain ⟨ms, em⟩ := cut_ints ns (some (i : Int)) (some ((i : Int) + 1))
    refine ⟨c, ms, rfl, .inl (.inl (em ▸ upd_same)), ?_⟩
    generalize ms.sum = S
    have s1 : Same H (upd H c (.lst (cutV (ns.map V.int) (some (i : Int)) (some ((i : Int) + 1))))) := same_upd nc
    generalize upd H c (.lst (cutV (ns.map V.int) (some (i : Int)) (some ((i : Int) + 1)))) = H1 at s1 ⊢
    refine ⟨_, rfl, _, _, rfl, rfl, ⟨by decide, by decide +kernel⟩, _, _, rfl, rfl, _, _, rfl, .inl ⟨_, rfl, ?_⟩⟩
    refine ⟨_, _, rfl, rfl, ⟨by decide, by decide +kernel⟩, _, _, rfl, rfl, ⟨by decide, by decide +kernel⟩, _, _, rfl, rfl, ?_, ?_⟩
    · show (0 : Int) < (10 ^ Int.toNat 60) ^ Int.toNat 8
      decide +kernel
    refine ⟨_, rfl, .inl ⟨_, rfl, _, _, rfl, rfl, (show (0 : Int) < 2147483629 by decide), _, rfl, (show 4 ≤ sizeLine by decide +kernel), fun p np => ?_⟩⟩
    refine q _ p (s1.trans (same_upd np)) (s1.free np) ?_
    refine ⟨_, _, _, _, upd_same, Int.emod_nonneg _ (by decide), ?_, Int.le_refl _, Int.le_refl _, by omega, by omega⟩
    exact Int.lt_trans (Int.emod_lt_of_pos _ (by decide)) (by decide)
/-! ### mixed: some count -/
theorem scMixed : FnScope ["_law_seed", "_law_turn_here", "_law_at", "_law_mixed_here"] ["_law_seed", "_law_turn_here", "_law_at"] (defScope sMixed) := ⟨rfl, rfl, rfl, by decide +kernel, rfl, by decide +kernel, by decide +kernel⟩
def spMixed : Sp := fun vs H Q _ => ∃ s t a : Int, vs = [.int s, .int t, .int a] ∧ (-(2 ^ 64) < t ∧ t < 2 ^ 64) ∧ ∀ r : Int, Q (.int r) H
theorem ok_mixed {f : Addr} {fd : FuncData} (F : Fun K "_law_mixed" "_law_mixed" sMixed f fd) (B : Bl mg) : FnOk P w K mg base CX0 1 f fd ["_law_seed", "_law_turn_here", "_law_at"] spMixed := by
  refine F.ok scMixed (fun vs H Q E h => ?_) (fun cdv A outer s H vs Q E hr h => ?_)
  · obtain ⟨s, t, a, rfl, _⟩ := h
    rfl
  · obtain ⟨sd, tn, at_, rfl, ht, q⟩ := h
    refine ⟨_, pss_cons (ps_set (i := 3) scMixed.nd rfl (.inl rfl) (pe_op op_add (pe_op op_mul (pv 0) pe_int) (pe_op op_mul (pe_op op_mul pe_int (pv 1)) (pv 1))))
      (pss_cons (ps_set (i := 3) scMixed.nd rfl (.inl rfl) (pe_op op_mod (pe_callTy call_int1 (by rfl) B.int (by decide +kernel) (pa_cons (pe_op op_add (pe_op op_add (pv 3) (pe_op op_mul pe_int (pv 2))) (pv 1)) pa_nil)) pe_int))
      (pss_cons (ps_set (i := 3) scMixed.nd rfl (.inl rfl) (pe_op op_mod (pe_callTy call_int1 (by rfl) B.int (by decide +kernel) (pa_cons (pe_op op_add (pe_op op_mul (pv 3) (pv 3)) pe_int) pa_nil)) pe_int))
      (pss_one (ps_ret (pe_op op_mod (pe_callTy call_int1 (by rfl) B.int (by decide +kernel) (pa_cons (pe_op op_mul (pv 3) pe_int) pa_nil)) pe_int))))), ?_⟩
    refine ⟨_, rfl, _, _, rfl, rfl, .inr ⟨by decide, by decide⟩, _, rfl, _, _, rfl, rfl, .inl ⟨by decide, by decide⟩, _, rfl, _, _, rfl, rfl, .inr ht, _, _, rfl, rfl, ?_⟩
    generalize sd * 69069 + 104729 * tn * tn = m1
    refine ⟨_, rfl, _, rfl, _, _, rfl, rfl, .inl ⟨by decide, by decide⟩, _, _, rfl, rfl, _, rfl, _, _, rfl, rfl, .inl ⟨_, rfl, _, _, rfl, rfl, (show (0 : Int) < 2147483647 by decide), ?_⟩⟩
    generalize m1 + 7919 * at_ + tn = m2
    have b1 := Int.emod_nonneg m2 (show (2147483647 : Int) ≠ 0 by decide)
    have b2 := Int.emod_lt_of_pos m2 (show (0 : Int) < 2147483647 by decide)
    generalize m2 % 2147483647 = m3 at b1 b2
    refine ⟨_, rfl, _, rfl, _, _, rfl, rfl, .inl ⟨by omega, by omega⟩, _, _, rfl, rfl, .inl ⟨_, rfl, _, _, rfl, rfl, (show (0 : Int) < 2147483629 by decide), ?_⟩⟩
    generalize (m3 * m3 + 40503) % 2147483629 = m4
    exact ⟨_, rfl, _, _, rfl, rfl, .inr ⟨by decide, by decide⟩, .inl ⟨_, rfl, _, _, rfl, rfl, (show (0 : Int) < 2147483587 by decide), q _⟩⟩
/-! ### draw: a count below many; the purse goes on -/
theorem scDraw : FnScope ["_law_purse_here", "_law_many", "_law_drawn", "_law_found", "_law_piece"] ["_law_purse_here", "_law_many"] (defScope sDraw) := ⟨rfl, rfl, rfl, by decide +kernel, rfl, by decide +kernel, by decide +kernel⟩
def spDraw : Sp := fun vs H Q _ => ∃ (p : Addr) (n : Nat) (b : Int), vs = [.ref p, .int n] ∧ 1 ≤ n ∧ n < 2 ^ 27 ∧ PurseAt H p b ∧ b ≤ 2 ^ 60 ∧
  ∀ (H' : Hp) (r : Nat), r < n → PurseAt H' p (b + 1) → (∀ c, c ≠ p → H' c = H c) → Q (.int r) H'
theorem ok_draw {f g : Addr} {fd gd : FuncData} (F : Fun K "_law_draw" "_law_draw" sDraw f fd) (B : Bl mg) (G : FnOk P w K mg base CX0 1 g gd ["_law_seed", "_law_turn_here", "_law_at"] spMixed) (gG : mg "_law_mixed" = some (.ref g)) (kG : PySem.W.keepIn K (.ref g) = true) (bG : Binds K gd ["_law_seed", "_law_turn_here", "_law_at"] []) :
    FnOk P w K mg base CX0 2 f fd ["_law_purse_here", "_law_many"] spDraw := by
  refine F.ok scDraw (fun vs H Q E h => ?_) (fun cdv A outer s H vs Q E hr h => ?_)
  · obtain ⟨p, n, b, rfl, _⟩ := h
    rfl
  · obtain ⟨p, n, b, rfl, hn1, hn2, hP, hb, q⟩ := h
    refine ⟨_, pss_cons (ps_if (pt_cmpR op_gt (pe_ix ix_list (pv 0) pe_int (fun _ _ => rfl)) pe_int (nomark _))
        (pss_cons (ps_set (i := 2) scDraw.nd rfl (.inl rfl) (pe_op op_mod (pe_callTy call_int1 (by rfl) B.int (by decide +kernel) (pa_cons (pe_ix ix_list (pv 0) pe_int (fun _ _ => rfl)) pa_nil)) (pv 1)))
        (pss_cons (ps_asg (pe_op op_fdivW (pe_ix ix_list (pv 0) pe_int (fun _ _ => rfl)) (pv 1)) (pg_sub (pv 0) pe_int set_list))
        (pss_one (ps_ret (pv 2))))) pss_nil)
      (pss_cons (ps_set (i := 3) scDraw.nd rfl (.inl rfl) pe_int)
      (pss_cons (ps_for PassesOwn.never rfl (pi_range1 rfl B.range (pa_cons (pe_op op_add pe_int (pe_op op_fdiv (pe_bits (pv 1)) pe_int)) pa_nil)) (pg_name (i := 4) scDraw.nd rfl (Or.inl rfl))
        (pss_cons (ps_asg (pe_op op_add (pe_ix ix_list (pv 0) pe_int (fun _ _ => rfl)) pe_int) (pg_sub (pv 0) pe_int set_list))
        (pss_one (ps_set (i := 3) scDraw.nd rfl (.inl rfl) (pe_op op_add (pe_op op_mul (pv 3) pe_int) (pe_call G hr rfl gG kG bG .nil pass0 (pa_cons (pe_ix ix_list (pv 0) pe_int (fun _ _ => rfl)) (pa_cons (pe_ix ix_list (pv 0) pe_int (fun _ _ => rfl)) (pa_cons (pe_ix ix_list (pv 0) pe_int (fun _ _ => rfl)) pa_nil)))))))))
      (pss_one (ps_ret (pe_op op_mod (pe_callTy call_int1 (by rfl) B.int (by decide +kernel) (pa_cons (pv 3) pa_nil)) (pv 1)))))), ?_⟩
    obtain ⟨p0, p1, p2, p3, hp, h1, h2, h3, h4, h5, h6⟩ := hP
    refine ⟨_, rfl, p, _, _, _, rfl, rfl, SqL.of hp, rfl, _, _, rfl, rfl, _, rfl, ?_⟩
    refine (ite2 (fun _ => ?_) (fun _ => ?_))
    · refine ⟨_, rfl, p, _, _, _, rfl, rfl, SqL.of hp, rfl, .inl ⟨_, rfl, _, rfl, _, _, rfl, rfl, (by omega : (0 : Int) < (n : Int)), ?_⟩⟩
      have m1 := Int.emod_nonneg p0 (show (n : Int) ≠ 0 by omega)
      have m2 := Int.emod_lt_of_pos p0 (show (0 : Int) < (n : Int) by omega)
      refine ⟨_, rfl, p, _, _, _, rfl, rfl, SqL.of hp, rfl, _, rfl, _, _, rfl, rfl, wide_div (b := 27) (by omega) (by rw [Int.natAbs_natCast]; exact hn2) (by decide) (by decide), ?_⟩
      refine ⟨_, rfl, p, _, _, 0, rfl, rfl, hp, rfl, ?_⟩
      refine ⟨_, rfl, ?_⟩
      show Q (.int (p0 % (n : Int))) _
      rw [show p0 % (n : Int) = ((p0 % (n : Int)).toNat : Int) from by omega]
      exact q _ _ (by omega) ⟨_, p1, p2, p3, upd_same, h1, h2, h3, by omega, h5, h6⟩ fun c hc => upd_ne hc
    · have eb : (1 : Int) + ((Builtin.Int.intBits (n : Int) : Nat) : Int) / 28 = 1 := by
        have : Builtin.Int.intBits (n : Int) ≤ 27 := by
          unfold Builtin.Int.intBits
          split
          · omega
          · rw [Int.natAbs_natCast]
            have := (Nat.log2_lt (by omega)).mpr hn2
            omega
        omega
      refine ⟨_, rfl, _, rfl, _, _, rfl, rfl, ⟨by decide, by decide⟩, _, _, rfl, rfl, _, rfl, ?_, ?_, ?_⟩
      · show -(2 ^ 62) ≤ (1 : Int) + ((Builtin.Int.intBits (n : Int) : Nat) : Int) / 28
        rw [eb]; decide
      · show (1 : Int) + ((Builtin.Int.intBits (n : Int) : Nat) : Int) / 28 < 2 ^ 62
        rw [eb]; decide
      show ∃ W : Nat → Nat → L2.St → Hp → Prop, _
      rw [eb]
      refine for_range (n := 1) (fun i σ H' => ∃ (z : Int) (d v : Option V), i ≤ 1 ∧ σ = [some (.ref p), some (.int n), d, some (.int z), v] ∧ PurseAt H' p (b + (i : Int)) ∧ ∀ c, c ≠ p → H' c = H c) ?_ ?_ ?_
      · exact ⟨0, none, none, by omega, rfl, ⟨p0, p1, p2, p3, hp, h1, h2, h3, by omega, h5, h6⟩, fun c _ => rfl⟩
      · rintro i σ H' hi ⟨z, d, v, _, rfl, ⟨q0, q1, q2, q3, hq, g1, g2, g3, g4, g5, g6⟩, hc⟩
        refine ⟨_, rfl, p, _, _, _, rfl, rfl, SqL.of hq, rfl, _, _, rfl, rfl, _, rfl, p, _, _, 2, rfl, rfl, hq, rfl, ?_⟩
        have eq : (upd H' p (.lst ([V.int q0, V.int q1, V.int q2, V.int q3].set 2 (V.int (q2 + 1))))) p = some (.lst [V.int q0, V.int q1, V.int (q2 + 1), V.int q3]) := upd_same
        refine ⟨_, rfl, _, _, rfl, rfl, .inr ⟨by decide, by decide⟩, _, rfl, p, _, _, _, rfl, rfl, SqL.of eq, rfl, _, rfl, p, _, _, _, rfl, rfl, SqL.of eq, rfl, _, rfl, p, _, _, _, rfl, rfl, SqL.of eq, rfl, ?_⟩
        refine ⟨q1, q2 + 1, q3, rfl, ⟨by omega, by omega⟩, fun r => ⟨_, _, rfl, rfl, ?_⟩⟩
        exact ⟨_, d, _, by omega, rfl, ⟨q0, q1, q2 + 1, q3, eq, g1, g2, by omega, by omega, g5, g6⟩, fun c hcp => (upd_ne hcp).trans (hc c hcp)⟩
      · rintro σ H' ⟨z, d, v, _, rfl, hP', hc⟩
        refine ⟨_, rfl, .inl ⟨_, rfl, _, rfl, _, _, rfl, rfl, (by omega : (0 : Int) < (n : Int)), ?_⟩⟩
        have m1 := Int.emod_nonneg z (show (n : Int) ≠ 0 by omega)
        have m2 := Int.emod_lt_of_pos z (show (0 : Int) < (n : Int) by omega)
        show Q (.int (z % (n : Int))) _
        rw [show z % (n : Int) = ((z % (n : Int)).toNat : Int) from by omega]
        exact q _ _ (by omega) hP' hc
end


section
variable {base : Heap} {mg : Str → Option Value} {K : PySem.W.Frag} {w : World} {P : Program}
theorem _root_.TL.PurseAt.same {H H' : Hp} {p : Addr} {b : Int} (e : Same H H') (h : PurseAt H p b) : PurseAt H' p b := by
  obtain ⟨p0, p1, p2, p3, hp, r⟩ := h
  exact ⟨p0, p1, p2, p3, e _ _ hp, r⟩
theorem _root_.TL.PurseAt.le {H : Hp} {p : Addr} {b c : Int} (h : PurseAt H p b) (hb : b ≤ c) : PurseAt H p c := by
  obtain ⟨p0, p1, p2, p3, hp, h1, h2, h3, h4, r⟩ := h
  exact ⟨p0, p1, p2, p3, hp, h1, h2, h3, by omega, r⟩
theorem scPurses : FnScope ["_law_script", "_law_few", "_law_at"] ["_law_script", "_law_few"] (defScope sPurses) := ⟨rfl, rfl, rfl, by decide +kernel, rfl, by decide +kernel, by decide +kernel⟩
def spPurses (K : PySem.W.Frag) : Sp := fun vs H Q _ => ∃ (a : Addr) (ns : List Int) (n : Nat), vs = [.ref a, .int n] ∧ SqL K H a (ns.map V.int) ∧ ns.length ≤ 63 ∧ n ≤ 100 ∧
  ∀ H' p (ps : List Addr), Same H H' → H p = none → H' p = some (.lst (ps.map V.ref)) → ps.length ≤ 100 → (∀ x ∈ ps, PurseAt H' x 0) → (∀ x ∈ ps, H x = none) → Q (.ref p) H'
theorem ok_purses {f g : Addr} {fd gd : FuncData} (F : Fun K "_law_purses" "_law_purses" sPurses f fd) (B : Bl mg) (G : FnOk P w K mg base CX0 1 g gd ["_law_script", "_law_at"] (spPurse K)) (gG : mg "_law_purse" = some (.ref g)) (kG : PySem.W.keepIn K (.ref g) = true) (bG : Binds K gd ["_law_script", "_law_at"] []) :
    FnOk P w K mg base CX0 2 f fd ["_law_script", "_law_few"] (spPurses K) := by
  refine F.ok scPurses (fun vs H Q E h => ?_) (fun cdv A outer s H vs Q E hr h => ?_)
  · obtain ⟨a, ns, n, rfl, _⟩ := h
    rfl
  · obtain ⟨a, ns, n, rfl, hS, hlen, hn, q⟩ := h
    refine ⟨_, pss_one (ps_ret (pe_lc (own := [("_law_at", 2)]) (g := gName 2) (tt := tYes) rfl scPurses.nd
      (pi_range1 rfl B.range (pa_cons (pe_callB (call_max2 rfl) (by rfl) B.max (by decide +kernel) (pa_cons pe_int (pa_cons (pe_callB (call_min2 rfl) (by rfl) B.min (by decide +kernel) (pa_cons (pv 1) (pa_cons (pe_callB call_len_seq (by rfl) B.len PySem.boot_len (pa_cons (pv 0) pa_nil)) pa_nil))) pa_nil))) pa_nil))
      (blkOk_by (N := ["_law_script", "_law_few", "_law_at"]) (sc := defScope sPurses) (by decide +kernel)) (fun _ _ _ _ _ => pg_name (i := 2) scPurses.nd rfl (Or.inl rfl)) (fun _ _ _ _ _ => pts_nil)
      (fun _ _ _ _ _ => pe_call G hr rfl gG kG bG .nil pass0 (pa_cons (pv 0) (pa_cons (pv 2) pa_nil))))), ?_⟩
    have el : (List.map V.int ns).length = ns.length := List.length_map _
    refine ⟨_, rfl, _, rfl, a, _, rfl, .inl hS, _, _, rfl, _, _, rfl, _, rfl, ?_⟩
    have key : ∀ J : Int, J = (if (if ((List.map V.int ns).length : Int) < (n : Int) then ((List.map V.int ns).length : Int) else (n : Int)) > 1 then (if ((List.map V.int ns).length : Int) < (n : Int) then ((List.map V.int ns).length : Int) else (n : Int)) else 1) → 1 ≤ J ∧ J ≤ 100 := by
      intro J e
      rw [el] at e
      split at e <;> split at e <;> omega
    obtain ⟨j1, j2⟩ := key _ rfl
    generalize (if (if ((List.map V.int ns).length : Int) < (n : Int) then ((List.map V.int ns).length : Int) else (n : Int)) > 1 then (if ((List.map V.int ns).length : Int) < (n : Int) then ((List.map V.int ns).length : Int) else (n : Int)) else 1) = J at j1 j2 ⊢
    refine ⟨by omega, by omega, fun D hD => ?_⟩
    refine lc_range (fun i H' => ∃ ps : List Addr, H' D = some (.lst (ps.map V.ref)) ∧ ps.length = i ∧ (∀ x ∈ ps, PurseAt H' x 0) ∧ Same H H' ∧ ∀ x ∈ ps, H x = none) ⟨[], upd_same, rfl, (fun x hx => nomatch hx), same_upd hD, (fun x hx => nomatch hx)⟩ ?_ ?_
    · rintro i H1 hi ⟨ps, h1, h2, h3, h4, h5⟩
      refine ⟨rfl, ?_⟩
      refine ⟨_, rfl, _, rfl, a, ns, i, ?_, h4.seq hS, hlen, by omega, fun H2 x s2 hx hP => ?_⟩
      · show [V.ref a, V.int (0 + (i : Int))] = [V.ref a, V.int (i : Int)]
        rw [Int.zero_add]
      have nxD : ∀ y, PurseAt H2 y 0 → y ≠ D := fun y hy e => by
        obtain ⟨_, _, _, _, hp, _⟩ := hy
        rw [e, s2 _ _ h1] at hp
        have := congrArg (fun o => match o with | some (HO.lst l) => l | _ => []) hp
        match ps, this with
        | [], z => cases z
        | b :: r, z => cases z
      refine ⟨_, s2 _ _ h1, by rw [List.length_map, h2]; exact small1000 (by omega), ps ++ [x], ?_, by rw [List.length_append, h2]; rfl, fun y hy => ?_, fun b o e => ?_, fun y hy => ?_⟩
      · rw [upd_same, List.map_append]
        rfl
      · have hy2 : PurseAt H2 y 0 := by
          rcases List.mem_append.mp hy with z | z
          · exact (h3 y z).same s2
          · rw [List.mem_singleton.mp z]; exact hP
        obtain ⟨p0, p1, p2, p3, hp, r⟩ := hy2
        exact ⟨p0, p1, p2, p3, by rw [upd_ne (nxD y ⟨p0, p1, p2, p3, hp, r⟩)]; exact hp, r⟩
      · rw [upd_ne (ne_of_none e hD)]
        exact s2 _ _ (h4 _ _ e)
      · rcases List.mem_append.mp hy with z | z
        · exact h5 y z
        · rw [List.mem_singleton.mp z]
          cases q : H x with
          | none => rfl
          | some o => rw [h4 _ _ q] at hx; cases hx
    · rintro H1 ⟨ps, h1, h2, h3, h4, h5⟩
      exact q H1 D ps h4 hD h1 (by omega) h3 h5
/-! ### word: one to eight letters -/
def isLet (y : Str) : Prop := ∃ c : Nat, y = ⟨#[c]⟩ ∧ 97 ≤ c ∧ c ≤ 122
theorem join_let : ∀ ys : List Str, (∀ y ∈ ys, isLet y) → (Str.join "" ys).cps.toList.length = ys.length ∧ ∀ c ∈ (Str.join "" ys).cps.toList, 97 ≤ c ∧ c ≤ 122
  | [], _ => ⟨rfl, fun c hc => by cases hc⟩
  | [x], h => by
    obtain ⟨c, rfl, hc⟩ := h x List.mem_cons_self
    exact ⟨rfl, fun d hd => by cases hd with | head => exact hc | tail _ z => cases z⟩
  | x :: y :: r, h => by
    obtain ⟨c, rfl, hc⟩ := h x List.mem_cons_self
    obtain ⟨i1, i2⟩ := join_let (y :: r) fun z hz => h z (List.mem_cons_of_mem _ hz)
    have e : (Str.join "" ((⟨#[c]⟩ : Str) :: y :: r)).cps.toList = c :: (Str.join "" (y :: r)).cps.toList := by
      show ((#[c] ++ (#[] : Array Nat)) ++ (Str.join "" (y :: r)).cps).toList = _
      simp
    rw [e]
    exact ⟨by rw [List.length_cons, i1]; rfl, fun d hd => by
      rcases List.mem_cons.1 hd with rfl | hd
      · exact hc
      · exact i2 d hd⟩
theorem abc_eq : (("abcdefghijklmnopqrstuvwxyz" : Str)).cps.toList = (List.range 26).map (97 + ·) := by decide +kernel
theorem sum_let : ∀ ys : List Str, (∀ y ∈ ys, isLet y) → (ys.map (·.length)).sum = ys.length
  | [], _ => rfl
  | y :: r, h => by
    obtain ⟨c, rfl, hc⟩ := h y List.mem_cons_self
    rw [List.map_cons, List.sum_cons, sum_let r fun z hz => h z (List.mem_cons_of_mem _ hz)]
    change 1 + r.length = r.length + 1
    omega
theorem scWord : FnScope ["_law_purse_here", "_law_size", "_law_turn_here"] ["_law_purse_here"] (defScope sWord) := ⟨rfl, rfl, rfl, by decide +kernel, rfl, by decide +kernel, by decide +kernel⟩
def spWord : Sp := fun vs H Q _ => ∃ (p : Addr) (b : Int), vs = [.ref p] ∧ PurseAt H p b ∧ b ≤ 2 ^ 40 ∧
  ∀ H' z, isWord z → PurseAt H' p (b + 20) → (∀ c o, c ≠ p → H c = some o → H' c = some o) → Q (.str z) H'
theorem ok_word {f g : Addr} {fd gd : FuncData} (F : Fun K "_law_word" "_law_word" sWord f fd) (B : Bl mg) (G : FnOk P w K mg base CX0 2 g gd ["_law_purse_here", "_law_many"] spDraw) (gG : mg "_law_draw" = some (.ref g)) (kG : PySem.W.keepIn K (.ref g) = true) (bG : Binds K gd ["_law_purse_here", "_law_many"] []) :
    FnOk P w K mg base CX0 3 f fd ["_law_purse_here"] spWord := by
  refine F.ok scWord (fun vs H Q E h => ?_) (fun cdv A outer s H vs Q E hr h => ?_)
  · obtain ⟨p, b, rfl, _⟩ := h
    rfl
  · obtain ⟨p, b, rfl, hP, hb, q⟩ := h
    refine ⟨_, pss_cons (ps_set (i := 1) scWord.nd rfl (.inl rfl) (pe_op op_add pe_int (pe_call G hr rfl gG kG bG .nil pass0 (pa_cons (pv 0) (pa_cons (pe_ifExp (pt_cmpR op_eq (pe_call G hr rfl gG kG bG .nil pass0 (pa_cons (pv 0) (pa_cons pe_int pa_nil))) pe_int (nomark _)) pe_int pe_int) pa_nil)))))
      (pss_one (ps_ret (pe_join pe_str (pe_lc (own := [("_law_turn_here", 2)]) (g := gName 2) (tt := tYes) rfl scWord.nd (pi_range1 rfl B.range (pa_cons (pv 1) pa_nil))
        (blkOk_by (N := ["_law_purse_here", "_law_size", "_law_turn_here"]) (sc := defScope sWord) (by decide +kernel)) (fun _ _ _ _ _ => pg_name (i := 2) scWord.nd rfl (Or.inl rfl)) (fun _ _ _ _ _ => pts_nil)
        (fun _ _ _ _ _ => pe_ix ix_str pe_str (pe_call G hr rfl gG kG bG .nil pass0 (pa_cons (pv 0) (pa_cons pe_int pa_nil))) (fun _ _ => rfl)))))), ?_⟩
    -- the size
    refine ⟨_, rfl, _, rfl, p, 3, b, rfl, by decide, by decide, hP, by omega, fun H1 r1 hr1 hP1 hc1 => ⟨rfl, _, rfl, ?_⟩⟩
    refine ite2 (fun _ => ⟨p, 8, b + 1, rfl, by decide, by decide, hP1, by omega, fun H2 r2 hr2' hP2 hc2 => ⟨_, _, rfl, rfl, ?_⟩⟩) (fun _ => ⟨p, 3, b + 1, rfl, by decide, by decide, hP1, by omega, fun H2 r2 hr2' hP2 hc2 => ⟨_, _, rfl, rfl, ?_⟩⟩)
    all_goals
      have hr2 : r2 < 8 := by omega
      have hc : ∀ c, c ≠ p → H2 c = H c := fun c n => (hc2 c n).trans (hc1 c n)
      refine ⟨⟨_, rfl⟩, _, rfl, _, rfl, by omega, by omega, fun D hD => ?_⟩
      have npD : p ≠ D := by
        obtain ⟨_, _, _, _, hp, _⟩ := hP2
        exact ne_of_none hp hD
      refine lc_range (fun i H' => ∃ ys : List Str, H' D = some (.lst (ys.map V.str)) ∧ ys.length = i ∧ (∀ y ∈ ys, isLet y) ∧ PurseAt H' p (b + 2 + (i : Int)) ∧ ∀ c o, c ≠ p → H c = some o → H' c = some o) ⟨[], upd_same, rfl, (fun x hx => nomatch hx), (hP2.le (by omega)).same (same_upd hD), fun c o n e => ?_⟩ ?_ ?_
      · have e2 : H2 c = some o := (hc c n).trans e
        exact same_upd hD _ _ e2
      · rintro i H3 hi ⟨ys, h1, h2, h3, h4, h5⟩
        refine ⟨rfl, ?_⟩
        refine ⟨_, rfl, p, 26, _, rfl, by decide, by decide, h4, by omega, fun H4 r3 hr3 hP3 hc3 => ?_⟩
        have hl : (("abcdefghijklmnopqrstuvwxyz" : Str)).cps.toList[r3]? = some (97 + r3) := by
          rw [abc_eq, List.getElem?_map, List.getElem?_range hr3]
          rfl
        have hD4 : H4 D = some (.lst (ys.map V.str)) := (hc3 D npD.symm).trans h1
        refine ⟨_, (r3 : Int), 97 + r3, rfl, rfl, by decide +kernel, atI_nat hl, _, hD4, by rw [List.length_map, h2]; exact small1000 (by omega), ys ++ [⟨#[97 + r3]⟩], ?_, by rw [List.length_append, h2]; rfl, fun y hy => ?_, ?_, fun c o n e => ?_⟩
        · rw [upd_same, List.map_append]
          rfl
        · rcases List.mem_append.mp hy with z | z
          · exact h3 y z
          · exact ⟨97 + r3, List.mem_singleton.mp z, by omega, by omega⟩
        · obtain ⟨p0, p1, p2, p3, hp, g1, g2, g3, g4, g5⟩ := hP3
          exact ⟨p0, p1, p2, p3, by rw [upd_ne npD]; exact hp, g1, g2, g3, by omega, g5⟩
        · have e3 := h5 c o n e
          have ncD : c ≠ D := fun z => by
            rw [z] at e n
            have q1 : H2 D = some o := (hc D n).trans e
            rw [hD] at q1
            cases q1
          rw [upd_ne ncD, hc3 c n]
          exact e3
      · rintro H3 ⟨ys, h1, h2, h3, h4, h5⟩
        refine ⟨_, D, ys, rfl, rfl, .inl (SqL.of h1), ?_, ?_⟩
        · rw [sum_let ys h3]
          show ys.length + ys.length * 0 ≤ 16777216
          omega
        · rw [TL.join_eq]
          obtain ⟨i1, i2⟩ := join_let ys h3
          have size : (Str.join "" ys).length = ys.length := by
            change (Str.join "" ys).cps.size = ys.length
            rw [← Array.length_toList, i1]
          refine q H3 _ ⟨?_, ?_, i2⟩ (h4.le (by omega)) h5
          · rw [size]; omega
          · rw [size]; omega
end


/-! ### runturns.shelves: books, catalogues, shelves -/
abbrev sIsBook : Stmt := top 12
abbrev sIsCat : Stmt := top 13
abbrev sUnlike : Stmt := top 14
section
variable {base : Heap} {mg : Str → Option Value} {K : PySem.W.Frag} {w : World} {P : Program}
theorem boot_isi : bootBuiltins "isinstance" = some (.builtin "isinstance") := by decide +kernel
theorem boot_all : PySem.bootBuiltins "all" = some (.builtin "all") := by decide +kernel
theorem boot_strT : PySem.bootBuiltins "str" = some (.type "str") := by decide +kernel
theorem boot_listT : PySem.bootBuiltins "list" = some (.type "list") := by decide +kernel
/-- what the module's names hold -/
structure Md (mg : Str → Option Value) : Prop where
  isi : mg "isinstance" = none
  all : mg "all" = none
  len : mg "len" = none
  set : mg "set" = none
  str : mg "str" = none
  list : mg "list" = none
  letters : ∃ t, mg "LETTERS" = some (.str "abcdefghijklmnopqrstuvwxyz" t)
  most : ∃ t, mg "MOST_LETTERS" = some (.int 8 t)
theorem word_ok {z : Str} (hz : isWord z) : PyData.canLay0 (.str z) = true := by
  change (z.cps.all (· < 0x110000)) = true
  rw [← Array.all_toList]
  rw [List.all_eq_true]
  intro c hc
  have := hz.2.2 c hc
  exact (decide_eq_true (by omega))
theorem letter_in {z : Str} {i c : Nat} (hz : isWord z) (h : z.cps[i]? = some c) : c ∈ (("abcdefghijklmnopqrstuvwxyz" : Str)).cps.toList := by
  have m : c ∈ z.cps.toList := by
    rw [← Array.getElem?_toList] at h
    exact List.mem_of_getElem? h
  obtain ⟨lo, hi⟩ := hz.2.2 c m
  rw [abc_eq, List.mem_map]
  exact ⟨c - 97, List.mem_range.2 (by omega), by omega⟩
theorem scIsBook : FnScope ["value", "letter"] ["value"] (defScope sIsBook) := ⟨rfl, rfl, rfl, by decide +kernel, rfl, by decide +kernel, by decide +kernel⟩
def spIsBook : Sp := fun vs H Q _ => ∃ z, vs = [.str z] ∧ isWord z ∧ ∀ H', Same H H' → Q (.bl true) H'
theorem ok_isBook {f : Addr} {fd : FuncData} (F : Fun K "is_book" "is_book" sIsBook f fd) (M : Md mg) : FnOk P w K mg base CX0 1 f fd ["value"] spIsBook := by
  obtain ⟨tL, gL⟩ := M.letters
  obtain ⟨tM, gM⟩ := M.most
  refine F.ok scIsBook (fun vs H Q E h => ?_) (fun cdv A outer s H vs Q E hr h => ?_)
  · obtain ⟨z, rfl, _⟩ := h
    rfl
  · obtain ⟨z, rfl, hz, q⟩ := h
    refine ⟨_, pss_cons (ps_if (PW.pt (pw_or (pt_not (pt_val (pe_callB call_isi (by rfl) M.isi boot_isi (pa_cons (pv 0) (pa_cons (pe_bltn (v := .ty "str") rfl M.str boot_strT rfl) pa_nil)))))
          (pw_or (pt_cmpR op_eq (pv 0) pe_str (nomark _)) (pw_or1 (pt_cmpR op_gt (pe_callB call_len_str (by rfl) M.len PySem.boot_len (pa_cons (pv 0) pa_nil)) (pe_glob (v := .int 8) rfl gM ⟨_, rfl⟩) (nomark _)))))) (pss_one (ps_ret pe_bl)) pss_nil)
      (pss_one (ps_ret (pe_callB (cr_all rfl) (by rfl) M.all boot_all (pa_cons (pe_lc (own := [("letter", 1)]) (g := gName 1) (tt := tYes) rfl scIsBook.nd (pi_str (pv 0)) (blkOk_by (N := ["value", "letter"]) (sc := defScope sIsBook) (by decide +kernel))
        (fun _ _ _ _ _ => pg_name (i := 1) scIsBook.nd rfl (Or.inl rfl)) (fun _ _ _ _ _ => pts_nil)
        (fun _ _ _ _ _ => pe_cmpR op_in_sign (pv 1) (pe_glob (v := .str "abcdefghijklmnopqrstuvwxyz") rfl gL ⟨_, rfl⟩) rfl)) pa_nil)))), ?_⟩
    refine ⟨_, rfl, _, _, _, _, _, rfl, .ty _, .base (.str _), kit_ty (by decide +kernel), true, rfl, iteF ?_⟩
    refine ⟨_, rfl, ?_⟩
    refine ⟨rfl, _, rfl, ?_⟩
    have ne : (V.str z = V.str "") = False := by
      simp only [V.str.injEq, eq_iff_iff, iff_false]
      rintro rfl
      exact absurd hz.1 (by decide)
    rw [decide_eq_false (of_eq_false ne)]
    refine iteF ⟨_, rfl, z, rfl, Nat.le_trans hz.2.1 (by decide +kernel), _, _, rfl, rfl, _, rfl, ?_⟩
    rw [decide_eq_false (by have := hz.2.1; omega)]
    refine iteF ?_
    refine ⟨_, rfl, _, rfl, fun D hD => ?_⟩
    refine lc_it (walk_str (z := z)) (fun i H' => H' D = some (.lst ((List.replicate i true).map V.bl)) ∧ Same H H') ⟨upd_same, same_upd hD⟩ (fun _ _ _ _ => trivial) ?_ ?_
    · rintro i x H1 H2 hi ⟨h1, h2⟩ ⟨rfl, c, hc, rfl⟩
      refine ⟨rfl, ?_⟩
      refine ⟨_, rfl, c, _, rfl, rfl, _, h1, by rw [List.length_map, List.length_replicate]; exact small1000 (by have : z.cps.size ≤ 8 := hz.2.1; omega), ?_, fun b o e => ?_⟩
      · rw [upd_same, decide_eq_true (letter_in hz hc)]
        simp [List.replicate_succ']
      · rw [upd_ne (ne_of_none e hD)]
        exact h2 _ _ e
    · rintro H1 ⟨h1, h2⟩
      refine ⟨D, List.replicate z.cps.size true, rfl, SqL.of h1, ?_⟩
      have e : (List.replicate z.cps.size true).all id = true := by simp
      rw [e]
      exact q _ h2
theorem op_in_seqK {X : Cx} {K : PySem.W.Frag} (hK : X.K = K) : OpR X (compareOp .In) (rIn K false) := by
  subst hK
  exact op_in_seq
/-! ### catalogues -/
theorem dp_strs {H : Hp} : ∀ xs : List Str, DpAll K H (xs.map V.str) (xs.map PyData.str)
  | [] => .nil
  | x :: r => .cons (.str x) (dp_strs r)
theorem lay_strs : ∀ xs : List Str, (∀ x ∈ xs, isWord x) → PyData.canLayAll0 (xs.map PyData.str) = true
  | [], _ => rfl
  | x :: r, h => by
    have one : PyData.canLay0 (.str x) = true := word_ok (h x List.mem_cons_self)
    simp only [List.map_cons, PyData.canLayAll0, one, lay_strs r fun y hy => h y (List.mem_cons_of_mem _ hy), Bool.and_true]
theorem deep_strs : ∀ xs : List Str, PyData.depthAll (xs.map PyData.str) ≤ 1
  | [] => Nat.zero_le _
  | x :: r => by
    have := deep_strs r
    simp only [PyData.depthAll, PyData.depth, List.map_cons]
    omega
theorem shaped_strs {xs : List Str} (h : ∀ x ∈ xs, isWord x) : SeqAt.shaped (.list (xs.map PyData.str)) = true := by
  have d := deep_strs xs
  simp only [SeqAt.shaped, PyData.canLay0, lay_strs xs h, PyData.depth, Bool.true_and, decide_eq_true_eq]
  exact decide_eq_true (show PyData.depthAll (xs.map PyData.str) + 1 ≤ 64 by omega)
theorem eqv_nil {xs : List Str} (h : xs ≠ []) : PyData.eqv (.list (xs.map PyData.str)) (.list []) = false := by
  cases xs with
  | nil => exact absurd rfl h
  | cons x r => rfl
theorem scIsCat : FnScope ["value", "book"] ["value"] (defScope sIsCat) := ⟨rfl, rfl, rfl, by decide +kernel, rfl, by decide +kernel, by decide +kernel⟩
def spIsCat : Sp := fun vs H Q _ => ∃ (l : Addr) (xs : List Str), vs = [.ref l] ∧ H l = some (.lst (xs.map V.str)) ∧ Cat xs ∧ ∀ H', Same H H' → Q (.bl true) H'
theorem ok_isCat {f g : Addr} {fd gd : FuncData} (F : Fun K "is_catalogue" "is_catalogue" sIsCat f fd) (M : Md mg) (G : FnOk P w K mg base CX0 1 g gd ["value"] spIsBook) (gG : mg "is_book" = some (.ref g)) (kG : PySem.W.keepIn K (.ref g) = true) (bG : Binds K gd ["value"] []) :
    FnOk P w K mg base CX0 2 f fd ["value"] spIsCat := by
  refine F.ok scIsCat (fun vs H Q E h => ?_) (fun cdv A outer s H vs Q E hr h => ?_)
  · obtain ⟨l, xs, rfl, _⟩ := h
    rfl
  · obtain ⟨l, xs, rfl, hl, ⟨ne, few, words, nd⟩, q⟩ := h
    refine ⟨_, pss_cons (ps_if (PW.pt (pw_or (pt_not (pt_val (pe_callB call_isi (by rfl) M.isi boot_isi (pa_cons (pv 0) (pa_cons (pe_bltn (v := .ty "list") rfl M.list boot_listT rfl) pa_nil)))))
          (pw_or1 (pt_cmpR (op_eqD hr.units) (pv 0) (pe_lst pa_nil) (nomark _))))) (pss_one (ps_ret pe_bl)) pss_nil)
      (pss_one (ps_ret (pe_and (pe_callB (cr_all rfl) (by rfl) M.all boot_all (pa_cons (pe_lc (own := [("book", 1)]) (g := gName 1) (tt := tYes) rfl scIsCat.nd (pi_list (pv 0)) (blkOk_by (N := ["value", "book"]) (sc := defScope sIsCat) (by decide +kernel))
        (fun _ _ _ _ _ => pg_name (i := 1) scIsCat.nd rfl (Or.inl rfl)) (fun _ _ _ _ _ => pts_nil)
        (fun _ _ _ _ _ => pe_call G hr rfl gG kG bG .nil pass0 (pa_cons (pv 1) pa_nil))) pa_nil))
        (pe_one (pe_cmpR op_eq (pe_lenSetT rfl (by rfl) M.len (by rfl) M.set (pv 0) (K := K)) (pe_callB call_len_seq (by rfl) M.len PySem.boot_len (pa_cons (pv 0) pa_nil)) (nomark _)))))), ?_⟩
    refine ⟨_, rfl, _, _, _, _, _, rfl, .ty _, .base (.lst hl), kit_ty (by decide +kernel), true, rfl, iteF ?_⟩
    refine ⟨_, rfl, Nat.zero_le _, fun e he => ?_⟩
    have s1 : Same H (upd H e (.lst [])) := same_upd he
    refine ⟨.list (xs.map PyData.str), .list [], .lst (SqL.of (s1 _ _ hl)) (dp_strs xs), .lst (SqL.of upd_same) .nil, shaped_strs words, by decide +kernel, _, rfl, ?_⟩
    rw [eqv_nil ne]
    refine iteF ?_
    generalize upd H e (.lst []) = H0 at s1
    refine ⟨_, rfl, l, rfl, ⟨_, SqL.of (s1 _ _ hl)⟩, fun D hD => ?_⟩
    refine lc_list (K := K) (a := l) (xs := xs.map V.str) (fun i H' => H' D = some (.lst ((List.replicate i true).map V.bl)) ∧ Same H0 H') ⟨upd_same, same_upd hD⟩ (fun i H' _ ⟨_, h2⟩ => SqL.of (h2 _ _ (s1 _ _ hl))) ?_ ?_
    · rintro i x H1 hx ⟨h1, h2⟩
      rw [List.getElem?_map] at hx
      obtain ⟨z, hz, rfl⟩ := Option.map_eq_some_iff.1 hx
      have lt := (List.getElem?_eq_some_iff.1 hz).1
      refine ⟨rfl, ?_⟩
      refine ⟨_, rfl, z, rfl, words z (List.mem_of_getElem? hz), fun H2 h3 => ?_⟩
      refine ⟨_, h3 _ _ h1, by rw [List.length_map, List.length_replicate]; exact small1000 (by omega), ?_, fun b o eb => ?_⟩
      · rw [upd_same]
        simp [List.replicate_succ']
      · rw [upd_ne (ne_of_none eb hD)]
        exact h3 _ _ (h2 _ _ eb)
    · rintro H1 ⟨h1, h2⟩
      refine ⟨D, List.replicate xs.length true, rfl, SqL.of (by rw [← List.length_map (f := V.str)]; exact h1), ?_⟩
      have ea : (List.replicate xs.length true).all id = true := by simp
      rw [ea]
      refine ⟨_, rfl, iteT ?_⟩
      have stands : SqL K H1 l (xs.map V.str) := SqL.of (h2 _ _ (s1 _ _ hl))
      refine ⟨_, rfl, l, xs, rfl, stands, by omega, _, rfl, l, _, rfl, .inl stands, rfl, ?_⟩
      have e2 : (V.int ((met xs xs.length : Nat) : Int) = V.int (((xs.map V.str).length : Nat) : Int)) := by rw [met_all nd xs.length Nat.le.refl, List.length_map]
      rw [decide_eq_true e2]
      exact q _ (s1.trans h2)
/-! ### lists of some of a catalogue's books -/
theorem flat_strs (xs : List Str) : (xs.map V.str).all flatV = true := by
  rw [List.all_eq_true]
  intro v hv
  obtain ⟨z, _, rfl⟩ := List.mem_map.1 hv
  rfl
theorem inV_strs (z : Str) : ∀ xs : List Str, inV (.str z) (xs.map V.str) = decide (z ∈ xs)
  | [] => by simp [inV]
  | x :: r => by
    have ih := inV_strs z r
    unfold inV at ih ⊢
    rw [List.map_cons, List.any_cons, ih]
    change (x == z || decide (z ∈ r)) = decide (z ∈ x :: r)
    by_cases e : x = z
    · simp [e]
    · have e' : ¬ z = x := fun q => e q.symm
      simp [e, e']
theorem scUnlike : FnScope ["books", "value", "book"] ["books", "value"] (defScope sUnlike) := ⟨rfl, rfl, rfl, by decide +kernel, rfl, by decide +kernel, by decide +kernel⟩
def spUnlike : Sp := fun vs H Q _ => ∃ (l m : Addr) (xs ys : List Str), vs = [.ref l, .ref m] ∧ H l = some (.lst (xs.map V.str)) ∧ H m = some (.lst (ys.map V.str)) ∧ xs.length ≤ 100 ∧ ys.length ≤ 100 ∧ (∀ y ∈ ys, y ∈ xs) ∧ ys.Nodup ∧ ∀ H', Same H H' → Q (.bl true) H'
theorem ok_unlike {f : Addr} {fd : FuncData} (F : Fun K "are_unlike_of" "are_unlike_of" sUnlike f fd) (M : Md mg) : FnOk P w K mg base CX0 1 f fd ["books", "value"] spUnlike := by
  refine F.ok scUnlike (fun vs H Q E h => ?_) (fun cdv A outer s H vs Q E hr h => ?_)
  · obtain ⟨l, m, xs, ys, rfl, _⟩ := h
    rfl
  · obtain ⟨l, m, xs, ys, rfl, hl, hm, few, few2, sub, nd, q⟩ := h
    refine ⟨_, pss_cons (ps_if (pt_not (pt_val (pe_callB call_isi (by rfl) M.isi boot_isi (pa_cons (pv 1) (pa_cons (pe_bltn (v := .ty "list") rfl M.list boot_listT rfl) pa_nil))))) (pss_one (ps_ret pe_bl)) pss_nil)
      (pss_one (ps_ret (pe_and (pe_callB (cr_all rfl) (by rfl) M.all boot_all (pa_cons (pe_lc (own := [("book", 2)]) (g := gName 2) (tt := tYes) rfl scUnlike.nd (pi_list (pv 1)) (blkOk_by (N := ["books", "value", "book"]) (sc := defScope sUnlike) (by decide +kernel))
        (fun _ _ _ _ _ => pg_name (i := 2) scUnlike.nd rfl (Or.inl rfl)) (fun _ _ _ _ _ => pts_nil)
        (fun _ _ _ _ _ => pe_cmpR (op_in_seqK (K := K) rfl) (pv 2) (pv 0) rfl)) pa_nil))
        (pe_one (pe_cmpR op_eq (pe_lenSetT rfl (by rfl) M.len (by rfl) M.set (pv 1) (K := K)) (pe_callB call_len_seq (by rfl) M.len PySem.boot_len (pa_cons (pv 1) pa_nil)) (nomark _)))))), ?_⟩
    refine ⟨_, rfl, _, _, _, _, _, rfl, .ty _, .base (.lst hm), kit_ty (by decide +kernel), true, rfl, iteF ?_⟩
    refine ⟨_, rfl, m, rfl, ⟨_, SqL.of hm⟩, fun D hD => ?_⟩
    refine lc_list (K := K) (a := m) (xs := ys.map V.str) (fun i H' => H' D = some (.lst ((List.replicate i true).map V.bl)) ∧ Same H H') ⟨upd_same, same_upd hD⟩ (fun i H' _ ⟨_, h2⟩ => SqL.of (h2 _ _ hm)) ?_ ?_
    · rintro i x H1 hx ⟨h1, h2⟩
      rw [List.getElem?_map] at hx
      obtain ⟨z, hz, rfl⟩ := Option.map_eq_some_iff.1 hx
      have lt := (List.getElem?_eq_some_iff.1 hz).1
      refine ⟨rfl, ?_⟩
      refine ⟨_, rfl, _, rfl, l, xs.map V.str, rfl, .inl (SqL.of (h2 _ _ hl)), rfl, flat_strs xs, ?_⟩
      rw [inV_strs, decide_eq_true (sub z (List.mem_of_getElem? hz))]
      refine ⟨_, h1, by rw [List.length_map, List.length_replicate]; exact small1000 (by omega), ?_, fun b o eb => ?_⟩
      · rw [upd_same]
        simp [List.replicate_succ']
      · rw [upd_ne (ne_of_none eb hD)]
        exact h2 _ _ eb
    · rintro H1 ⟨h1, h2⟩
      refine ⟨D, List.replicate ys.length true, rfl, SqL.of (by rw [← List.length_map (f := V.str)]; exact h1), ?_⟩
      have ea : (List.replicate ys.length true).all id = true := by simp
      rw [ea]
      refine ⟨_, rfl, iteT ?_⟩
      have stands : SqL K H1 m (ys.map V.str) := SqL.of (h2 _ _ hm)
      refine ⟨_, rfl, m, ys, rfl, stands, by omega, _, rfl, m, _, rfl, .inl stands, rfl, ?_⟩
      have e2 : (V.int ((met ys ys.length : Nat) : Int) = V.int (((ys.map V.str).length : Nat) : Int)) := by rw [met_all nd ys.length Nat.le.refl, List.length_map]
      rw [decide_eq_true e2]
      exact q _ h2
abbrev sRowOf : Stmt := top 15
theorem scRowOf : FnScope ["catalogue", "value"] ["catalogue", "value"] (defScope sRowOf) := ⟨rfl, rfl, rfl, by decide +kernel, rfl, by decide +kernel, by decide +kernel⟩
def spRowOf : Sp := fun vs H Q _ => ∃ (l m : Addr) (xs ys : List Str), vs = [.ref l, .ref m] ∧ H l = some (.lst (xs.map V.str)) ∧ H m = some (.lst (ys.map V.str)) ∧ Cat xs ∧ Row xs ys ∧ ∀ H', Same H H' → Q (.bl true) H'
theorem ok_rowOf {f g : Addr} {fd gd : FuncData} (F : Fun K "is_row_of" "is_row_of" sRowOf f fd) (M : Md mg)
    (G : FnOk P w K mg base CX0 1 g gd ["books", "value"] spUnlike) (mG : mg "are_unlike_of" = some (.ref g)) (kG : PySem.W.keepIn K (.ref g) = true) (bG : Binds K gd ["books", "value"] []) : FnOk P w K mg base CX0 2 f fd ["catalogue", "value"] spRowOf := by
  refine F.ok scRowOf (fun vs H Q E h => ?_) (fun cdv A outer s H vs Q E hr h => ?_)
  · obtain ⟨l, m, xs, ys, rfl, _⟩ := h
    rfl
  · obtain ⟨l, m, xs, ys, rfl, hl, hm, cat, row, q⟩ := h
    refine ⟨_, pss_one (ps_ret (pe_and (pe_call G (hr.mono (by decide)) rfl mG kG bG .nil pass0 (pa_cons (pv 0) (pa_cons (pv 1) pa_nil)))
      (pe_one (pe_cmpR op_eq (pe_callB call_len_seq (by rfl) M.len PySem.boot_len (pa_cons (pv 1) pa_nil)) (pe_callB call_len_seq (by rfl) M.len PySem.boot_len (pa_cons (pv 0) pa_nil)) (nomark _))))), ?_⟩
    refine ⟨_, rfl, _, rfl, l, m, xs, ys, rfl, hl, hm, cat.2.1, by rw [row.2.2]; exact cat.2.1, row.1, row.2.1, fun H2 s2 => ⟨_, rfl, iteT ?_⟩⟩
    refine ⟨_, rfl, m, _, rfl, .inl (SqL.of (s2 _ _ hm)), _, rfl, l, _, rfl, .inl (SqL.of (s2 _ _ hl)), rfl, ?_⟩
    rw [decide_eq_true (show V.int (((ys.map V.str).length : Nat) : Int) = V.int (((xs.map V.str).length : Nat) : Int) by rw [List.length_map, List.length_map, row.2.2])]
    exact q _ s2
end

/-! ### runturns.shelves: the class Shelf -/
def clsB : Stmt → List Stmt
  | .ClassDef _ _ _ b _ _ _ _ _ _ _ => b
  | _ => []
def inShelf (i : Nat) : Stmt := (clsB (top 16)).getD i (.Pass ⟨0, 0, 0, 0⟩)
abbrev sInit : Stmt := inShelf 0
abbrev sEq : Stmt := inShelf 1
abbrev sCats : Stmt := inShelf 2
abbrev sRow : Stmt := inShelf 3
/-- what the class at C says -/
structure ShC (K : PySem.W.Frag) (C fi fq fc fr : Addr) : Prop where
  makes : Mk K C fi
  cl : Cls K C
  noC : NoAttr K C "_catalogue"
  noR : NoAttr K C "_row"
  mc : Meth K C "catalogue" fc
  mr : Meth K C "row" fr
  eq : OE.EqC K C fq
  ha : PySem.W.findIn K (.ref C) "__class__" = some (some (Value.builtin "object.__class__"))
  hn : PySem.W.specialIn K (Value.builtin "object.__class__") "__get__" = some (some (.builtin "getset_descriptor.__get__"))
  ht : PySem.W.takesIn K (Value.builtin "object.__class__") = some true
  isS : PySem.W.kitOne K (.ref C) (.ref C) = some true
theorem _root_.TL.ShAt.mono {H H' : Hp} {C a : Addr} {xs ys : List Str} (e : Same H H') : ShAt H C a xs ys → ShAt H' C a xs ys := fun ⟨dx, c, r, h1, h2, h3⟩ => ⟨dx, c, r, e _ _ h1, e _ _ h2, e _ _ h3⟩
theorem none_under {H H' : Hp} {a : Addr} (e : Same H H') (h : H' a = none) : H a = none := by
  cases q : H a with
  | none => rfl
  | some o => rw [e _ _ q] at h; cases h
theorem _root_.TL.ShNew.at {H H' : Hp} {C a : Addr} {xs ys : List Str} : ShNew H H' C a xs ys → ShAt H' C a xs ys := fun ⟨dx, c, r, h1, h2, h3, _⟩ => ⟨dx, c, r, h1, h2, h3⟩
/-- what was there may have been changed since -/
theorem _root_.TL.ShNew.kept {H H' H2 : Hp} {C a : Addr} {xs ys : List Str} (ha : H a = none) (k : ∀ b o, H b = none → H' b = some o → H2 b = some o) : ShNew H H' C a xs ys → ShAt H2 C a xs ys := fun ⟨dx, c, r, h1, h2, h3, h4, h5⟩ => ⟨dx, c, r, k _ _ ha h1, k _ _ h4 h2, k _ _ h5 h3⟩
theorem _root_.TL.ShNew.mono {H H' H2 : Hp} {C a : Addr} {xs ys : List Str} (e : Same H' H2) : ShNew H H' C a xs ys → ShNew H H2 C a xs ys := fun ⟨dx, c, r, h1, h2, h3, h4, h5⟩ => ⟨dx, c, r, e _ _ h1, e _ _ h2, e _ _ h3, h4, h5⟩
theorem _root_.TL.ShNew.under {H0 H H' : Hp} {C a : Addr} {xs ys : List Str} (e : Same H0 H) : ShNew H H' C a xs ys → ShNew H0 H' C a xs ys := fun ⟨dx, c, r, h1, h2, h3, h4, h5⟩ => ⟨dx, c, r, h1, h2, h3, none_under e h4, none_under e h5⟩
section
variable {base : Heap} {mg : Str → Option Value} {K : PySem.W.Frag} {w : World} {P : Program} {C fi fq fc fr : Addr}
theorem scInit : FnScope ["self", "catalogue", "row"] ["self", "catalogue", "row"] (defScope sInit) := ⟨rfl, rfl, rfl, by decide +kernel, rfl, by decide +kernel, by decide +kernel⟩
theorem ok_init {g1 g2 : Addr} {gd1 gd2 : FuncData} {fd : FuncData} (F : Fun K "__init__" "Shelf.__init__" sInit fi fd) (M : Md mg) (T : ShC K C fi fq fc fr)
    (G1 : FnOk P w K mg base CX0 2 g1 gd1 ["value"] spIsCat) (m1 : mg "is_catalogue" = some (.ref g1)) (k1 : PySem.W.keepIn K (.ref g1) = true) (b1 : Binds K gd1 ["value"] [])
    (G2 : FnOk P w K mg base CX0 2 g2 gd2 ["catalogue", "value"] spRowOf) (m2 : mg "is_row_of" = some (.ref g2)) (k2 : PySem.W.keepIn K (.ref g2) = true) (b2 : Binds K gd2 ["catalogue", "value"] []) :
    FnOk P w K mg base CX0 3 fi fd ["self", "catalogue", "row"] (spInit C) := by
  refine F.ok scInit (fun vs H Q E h => ?_) (fun cdv A outer s H vs Q E hr h => ?_)
  · obtain ⟨a, dx, l, m, xs, ys, rfl, _⟩ := h
    rfl
  · obtain ⟨a, dx, l, m, xs, ys, rfl, ha, hdx, hl, hm, cat, row, q⟩ := h
    refine ⟨_, pss_cons (ps_if (pt_not (pt_val (pe_call G1 hr rfl m1 k1 b1 .nil pass0 (pa_cons (pv 1) pa_nil)))) pss_never pss_nil)
      (pss_cons (ps_if (pt_not (pt_val (pe_call G2 hr rfl m2 k2 b2 .nil pass0 (pa_cons (pv 1) (pa_cons (pv 2) pa_nil))))) pss_never pss_nil)
      (pss_cons (ps_fld (pv 0) (pe_callTy call_list_of (by rfl) M.list boot_listT (pa_cons (pv 1) pa_nil)) rfl)
      (pss_one (ps_fld (pv 0) (pe_callTy call_list_of (by rfl) M.list boot_listT (pa_cons (pv 2) pa_nil)) rfl)))), ?_⟩
    refine ⟨_, rfl, l, xs, rfl, hl, cat, fun H1 s1 => ⟨true, rfl, iteF ?_⟩⟩
    refine ⟨_, rfl, _, rfl, l, m, xs, ys, rfl, s1 _ _ hl, s1 _ _ hm, cat, row, fun H2 s2 => ⟨true, rfl, iteF ?_⟩⟩
    have s02 := s1.trans s2
    have ha2 := s02 _ _ ha
    have hl2 := s02 _ _ hl
    have hm2 := s02 _ _ hm
    refine ⟨_, rfl, l, _, rfl, .inl (SqL.of hl2), fun c nc => ?_⟩
    have nca : a ≠ c := ne_of_none ha2 nc
    refine ⟨_, rfl, a, C, dx, [], rfl, by rw [upd_ne nca]; exact ha2, T.cl, T.noC, (by decide), ?_⟩
    have nma : m ≠ a := ne_of hm2 ha2 (by intro z; cases z)
    have nmc : m ≠ c := ne_of_none hm2 nc
    refine ⟨_, rfl, m, _, rfl, .inl (SqL.of (by rw [upd_ne nma, upd_ne nmc]; exact hm2)), fun r nr => ?_⟩
    have nra : a ≠ r := ne_of_none upd_same nr
    have ncr : c ≠ r := ne_of_none (o := .lst (xs.map V.str)) (by rw [upd_ne nca.symm]; exact upd_same) nr
    refine ⟨_, rfl, a, C, dx, [("_catalogue", .ref c)], rfl, by rw [upd_ne nra]; exact upd_same, T.cl, T.noR, (show 1 < 1000 by decide), ?_⟩
    have nr2 : H2 r = none := by
      rw [upd_ne nra.symm, upd_ne ncr.symm] at nr
      exact nr
    refine q _ (fun b o nb e => ?_) ⟨dx, c, r, upd_same, ?_, ?_, none_under s02 nc, none_under s02 nr2⟩
    · have e2 := s02 _ _ e
      have nbc : b ≠ c := ne_of_none e2 nc
      have nbr : b ≠ r := ne_of_none (o := o) (by rw [upd_ne nb, upd_ne nbc]; exact e2) nr
      rw [upd_ne nb, upd_ne nbr, upd_ne nb, upd_ne nbc]
      exact e2
    · rw [upd_ne nca.symm, upd_ne ncr, upd_ne nca.symm]
      exact upd_same
    · rw [upd_ne nra.symm]
      exact upd_same
/-! ### its methods -/
theorem scCats : FnScope ["self"] ["self"] (defScope sCats) := ⟨rfl, rfl, rfl, by decide +kernel, rfl, by decide +kernel, by decide +kernel⟩
theorem scRow : FnScope ["self"] ["self"] (defScope sRow) := ⟨rfl, rfl, rfl, by decide +kernel, rfl, by decide +kernel, by decide +kernel⟩
/-- a new list of it: l tells which -/
def spNew (C : Addr) (l : List Str → List Str → List Str) : Sp := fun vs H Q _ => ∃ (a : Addr) (xs ys : List Str), vs = [.ref a] ∧ ShAt H C a xs ys ∧ ∀ p, H p = none → Q (.ref p) (upd H p (.lst ((l xs ys).map V.str)))
theorem ok_cats {fd : FuncData} (F : Fun K "catalogue" "Shelf.catalogue" sCats fc fd) (M : Md mg) (T : ShC K C fi fq fc fr) : FnOk P w K mg base CX0 1 fc fd ["self"] (spNew C fun xs _ => xs) := by
  refine F.ok scCats (fun vs H Q E h => ?_) (fun cdv A outer s H vs Q E hr h => ?_)
  · obtain ⟨a, xs, ys, rfl, _⟩ := h
    rfl
  · obtain ⟨a, xs, ys, rfl, ⟨dx, c, r, ha, hc, hr'⟩, q⟩ := h
    refine ⟨_, pss_one (ps_ret (pe_callTy call_list_of (by rfl) M.list boot_listT (pa_cons (pe_fld (pv 0) rfl) pa_nil))), ?_⟩
    exact ⟨_, rfl, a, C, dx, _, _, rfl, ha, T.cl, T.noC, rfl, c, _, rfl, .inl (SqL.of hc), fun p np => q p np⟩
theorem ok_row {fd : FuncData} (F : Fun K "row" "Shelf.row" sRow fr fd) (M : Md mg) (T : ShC K C fi fq fc fr) : FnOk P w K mg base CX0 1 fr fd ["self"] (spNew C fun _ ys => ys) := by
  refine F.ok scRow (fun vs H Q E h => ?_) (fun cdv A outer s H vs Q E hr h => ?_)
  · obtain ⟨a, xs, ys, rfl, _⟩ := h
    rfl
  · obtain ⟨a, xs, ys, rfl, ⟨dx, c, r, ha, hc, hr'⟩, q⟩ := h
    refine ⟨_, pss_one (ps_ret (pe_callTy call_list_of (by rfl) M.list boot_listT (pa_cons (pe_fld (pv 0) rfl) pa_nil))), ?_⟩
    exact ⟨_, rfl, a, C, dx, _, _, rfl, ha, T.cl, T.noR, rfl, r, _, rfl, .inl (SqL.of hr'), fun p np => q p np⟩
/-! ### == of it -/
theorem eqv_strs : ∀ xs ys : List Str, PyData.eqvAll (xs.map PyData.str) (ys.map PyData.str) = decide (xs = ys)
  | [], [] => rfl
  | [], y :: r => rfl
  | x :: r, [] => rfl
  | x :: r, y :: q => by
    simp only [List.map_cons, PyData.eqvAll, PyData.eqv, eqv_strs r q]
    by_cases e : x = y
    · simp [e]
    · simp [e]
theorem scEq : FnScope ["self", "other"] ["self", "other"] (defScope sEq) := ⟨rfl, rfl, rfl, by decide +kernel, rfl, by decide +kernel, by decide +kernel⟩
theorem ok_eq {fd : FuncData} (F : Fun K "__eq__" "Shelf.__eq__" sEq fq fd) (M : Md mg) (gS : mg "Shelf" = some (.ref C)) (T : ShC K C fi fq fc fr) : FnOk P w K mg base CX0 1 fq fd ["self", "other"] (OE.spB (EqR K C)) := by
  refine F.ok scEq (fun vs H Q E h => ?_) (fun cdv A outer s H vs Q E hr h => ?_)
  · obtain ⟨a, y, b, rfl, _⟩ := h
    rfl
  · obtain ⟨a, y, b, rfl, ⟨xs, ys, ⟨dx, c, r, ha, hc, hr'⟩, w1, w2, alt⟩, q⟩ := h
    have hu : A.units + 3 + 64 < cLine := hr.units
    refine ⟨_, pss_one (ps_ret (pe_and (pe_callB call_isi (by rfl) M.isi boot_isi (pa_cons (pv 1) (pa_cons (pe_glob (v := .ref C) rfl gS rfl) pa_nil)))
      (pe_and (pe_cmpR (op_eqD hu) (pe_fld (pv 0) rfl) (pe_fld (pv 1) rfl) (nomark _)) (pe_one (pe_cmpR (op_eqD hu) (pe_fld (pv 0) rfl) (pe_fld (pv 1) rfl) (nomark _)))))), ?_⟩
    rcases alt with ⟨a', xs', ys', rfl, ⟨dx', c', r', ha', hc', hr2⟩, w3, w4, rfl⟩ | ⟨t, ty, no, rfl⟩
    · refine ⟨_, rfl, _, _, _, _, _, rfl, .own _, .base (.ins ha' T.cl T.ha T.hn T.ht T.eq.ob), T.isS, true, rfl, iteT ?_⟩
      refine ⟨_, rfl, a, C, dx, _, _, rfl, ha, T.cl, T.noC, rfl, _, rfl, a', C, dx', _, _, rfl, ha', T.cl, T.noC, rfl, ?_⟩
      refine ⟨_, _, .lst (SqL.of hc) (dp_strs xs), .lst (SqL.of hc') (dp_strs xs'), shaped_strs w1, shaped_strs w3, _, rfl, ?_⟩
      change (if PyData.eqvAll (xs.map PyData.str) (xs'.map PyData.str) = true then _ else _)
      rw [eqv_strs]
      by_cases e : xs = xs'
      · rw [decide_eq_true e] at q ⊢
        refine iteT ⟨_, rfl, a, C, dx, _, _, rfl, ha, T.cl, T.noR, rfl, _, rfl, a', C, dx', _, _, rfl, ha', T.cl, T.noR, rfl, ?_⟩
        refine ⟨_, _, .lst (SqL.of hr') (dp_strs ys), .lst (SqL.of hr2) (dp_strs ys'), shaped_strs w2, shaped_strs w4, ?_⟩
        change Q (V.bl (PyData.eqvAll (ys.map PyData.str) (ys'.map PyData.str))) H
        rw [eqv_strs]
        simpa using q
      · rw [decide_eq_false e] at q ⊢
        exact iteF (by simpa using q)
    · refine ⟨_, rfl, _, _, _, _, _, rfl, .own _, ty, no, false, rfl, iteF q⟩
end

/-! ### runturns.shelves: ranks, places, entries -/
abbrev sCheck : Stmt := top 17
abbrev sRanks : Stmt := top 18
/-- book by book its entry, from k on -/
def ent : List Str → Nat → List (Key × V)
  | [], _ => []
  | x :: r, k => (.inr x, .int (k : Int)) :: ent r (k + 1)
theorem ent_len : ∀ (xs : List Str) (k : Nat), (ent xs k).length = xs.length
  | [], _ => rfl
  | x :: r, k => congrArg Nat.succ (ent_len r (k + 1))
theorem ent_app : ∀ (xs : List Str) (y : Str) (k : Nat), ent (xs ++ [y]) k = ent xs k ++ [(.inr y, .int ((k + xs.length : Nat) : Int))]
  | [], y, k => rfl
  | x :: r, y, k => by
    simp only [List.cons_append, ent, ent_app r y (k + 1), List.length_cons]
    rw [show k + 1 + r.length = k + (r.length + 1) from by omega]
theorem ent_keys : ∀ (xs : List Str) (k : Nat) (p : Key × V), p ∈ ent xs k → ∃ x ∈ xs, p.1 = .inr x
  | x :: r, k, p, h => by
    rcases List.mem_cons.1 h with e | e
    · exact ⟨x, List.mem_cons_self, by rw [e]⟩
    · obtain ⟨z, hz, e2⟩ := ent_keys r (k + 1) p e
      exact ⟨z, List.mem_cons_of_mem _ hz, e2⟩
theorem ent_put {xs : List Str} {y : Str} (h : y ∉ xs) (v : V) : putK (ent xs 0) (.inr y) v = ent xs 0 ++ [(.inr y, v)] := by
  unfold putK
  rw [if_neg]
  intro e
  obtain ⟨p, hp, e⟩ := List.any_eq_true.1 e
  obtain ⟨x, hx, ex⟩ := ent_keys xs 0 p hp
  rw [ex] at e
  exact h (by have := of_decide_eq_true e; injection this with z; exact z ▸ hx)
theorem ent_val : ∀ (xs : List Str) (k : Nat) (y : Str), y ∈ xs → valV (ent xs k) (.inr y) = some (.int ((k + xs.idxOf y : Nat) : Int))
  | x :: r, k, y, h => by
    by_cases e : x = y
    · subst e
      simp [valV, ent]
    · have hr : y ∈ r := (List.mem_cons.1 h).resolve_left fun z => e z.symm
      have ih := ent_val r (k + 1) y hr
      have ix : (x :: r).idxOf y = r.idxOf y + 1 := by simp [List.idxOf_cons, show (x == y) = false from by simpa using e]
      rw [ix, show k + (r.idxOf y + 1) = k + 1 + r.idxOf y from by omega, ← ih]
      simp [valV, ent, List.find?_cons, e]
/-- a dict comprehension over any walk -/
theorem dc_it {J : It} {n : Nat} {G : Hp → Prop} {Y : Nat → Hp → V → Hp → Prop} (w : Walk J n G Y) {g : TG} {tt : TT} {tk tv : TE} {vs : List Nat} {σ : L2.St} {H1 : Hp} {D : Addr} {Qd : Hp → Prop} (Pv : Nat → Hp → Prop) (start_ : Pv 0 (upd H1 D (.dK [])))
    (while_ : ∀ i H, i ≤ n → Pv i H → G H)
    (turn : ∀ i x H H', i < n → Pv i H → Y i H x H' → g x (wipe σ vs) H' fun σ2 H2 => wipe σ2 vs = wipe σ vs ∧ tt σ2 H2 fun b H3 =>
      if b = true then tk σ2 H3 fun y H4 => tv σ2 H4 fun z H5 => ∃ kvs k, y = kV k ∧ H5 D = some (.dK kvs) ∧ kvs.length < sizeLine ∧ Pv (i + 1) (upd H5 D (.dK (putK kvs k z))) else Pv (i + 1) H3) (after : ∀ H, Pv n H → Qd H) :
    ∃ W : Nat → Nat → Hp → Prop, (∃ k, W 0 k (upd H1 D (.dK []))) ∧ ∀ i m H, W i m H →
      (J.stop i H ∧ Qd H) ∨ (J.go i H ∧ ∃ More : Hp → Prop, (∀ H', More H' → ∃ m', m' < m ∧ W (i + 1) m' H') ∧ ∀ x H', J.yld i H x H' → g x (wipe σ vs) H' fun σ2 H2 => wipe σ2 vs = wipe σ vs ∧ tt σ2 H2 fun b H3 =>
        if b = true then tk σ2 H3 fun y H4 => tv σ2 H4 fun z H5 => ∃ kvs k, y = kV k ∧ H5 D = some (.dK kvs) ∧ kvs.length < sizeLine ∧ More (upd H5 D (.dK (putK kvs k z))) else More H3) := by
  refine ⟨fun i m H => i + m = n ∧ Pv i H, ⟨n, Nat.zero_add n, start_⟩, fun i m H ⟨e, p⟩ => ?_⟩
  rcases Nat.eq_zero_or_pos m with z | z
  · have last : i = n := by omega
    subst last
    exact .inl ⟨w.stops H (while_ i H Nat.le.refl p), after H p⟩
  · have lt : i < n := by omega
    have g' := while_ i H (by omega) p
    exact .inr ⟨w.goes i H lt g', Pv (i + 1), fun H' p' => ⟨m - 1, by omega, by omega, p'⟩, fun x H' y => turn i x H H' lt p (w.yields i H x H' lt g' y)⟩
section
variable {base : Heap} {mg : Str → Option Value} {K : PySem.W.Frag} {w : World} {P : Program} {C fi fq fc fr : Addr}
theorem scCheck : FnScope ["shelf"] ["shelf"] (defScope sCheck) := ⟨rfl, rfl, rfl, by decide +kernel, rfl, by decide +kernel, by decide +kernel⟩
def spCheck (C : Addr) : Sp := fun vs H Q _ => ∃ (a : Addr) (xs ys : List Str), vs = [.ref a] ∧ ShAt H C a xs ys ∧ Q .non H
theorem ok_check {f : Addr} {fd : FuncData} (F : Fun K "check_shelf" "check_shelf" sCheck f fd) (M : Md mg) (gS : mg "Shelf" = some (.ref C)) (T : ShC K C fi fq fc fr) : FnOk P w K mg base CX0 1 f fd ["shelf"] (spCheck C) := by
  refine F.ok scCheck (fun vs H Q E h => ?_) (fun cdv A outer s H vs Q E hr h => ?_)
  · obtain ⟨a, xs, ys, rfl, _⟩ := h
    rfl
  · obtain ⟨a, xs, ys, rfl, ⟨dx, c, r, ha, hc, hr'⟩, q⟩ := h
    refine ⟨_, pss_one (ps_if (pt_not (pt_val (pe_callB call_isi (by rfl) M.isi boot_isi (pa_cons (pv 0) (pa_cons (pe_glob (v := .ref C) rfl gS rfl) pa_nil))))) pss_never pss_nil), ?_⟩
    exact ⟨_, rfl, _, _, _, _, _, rfl, .own _, .base (.ins ha T.cl T.ha T.hn T.ht T.eq.ob), T.isS, true, rfl, iteF q⟩
theorem scRanks : FnScope ["shelf", "entries", "entry", "book"] ["shelf"] (defScope sRanks) := ⟨rfl, rfl, rfl, by decide +kernel, rfl, by decide +kernel, by decide +kernel⟩
def spRanks (C : Addr) : Sp := fun vs H Q _ => ∃ (a : Addr) (xs ys : List Str), vs = [.ref a] ∧ ShAt H C a xs ys ∧ Cat xs ∧ Row xs ys ∧ ∀ H' p, Same H H' → H p = none → H' p = some (.lst ((rnk xs ys).map V.int)) → Q (.ref p) H'
theorem ok_ranks {f g : Addr} {fd gd fdc fdr : FuncData} (F : Fun K "ranks" "ranks" sRanks f fd) (M : Md mg) (T : ShC K C fi fq fc fr) (en : mg "enumerate" = none)
    (G : FnOk P w K mg base CX0 1 g gd ["shelf"] (spCheck C)) (mG : mg "check_shelf" = some (.ref g)) (kG : PySem.W.keepIn K (.ref g) = true) (bG : Binds K gd ["shelf"] [])
    (Gc : FnOk P w K mg base CX0 1 fc fdc ["self"] (spNew C fun xs _ => xs)) (bc : Binds K fdc ["self"] []) (Gr : FnOk P w K mg base CX0 1 fr fdr ["self"] (spNew C fun _ ys => ys)) (br : Binds K fdr ["self"] []) :
    FnOk P w K mg base CX0 2 f fd ["shelf"] (spRanks C) := by
  refine F.ok scRanks (fun vs H Q E h => ?_) (fun cdv A outer s H vs Q E hr h => ?_)
  · obtain ⟨a, xs, ys, rfl, _⟩ := h
    rfl
  · obtain ⟨a, xs, ys, rfl, sh, cat, row, q⟩ := h
    have hu : A.units + 3 + 1 < cLine := by have := hr.units; have e : (A.deeper (envOfC "ranks" (defScope sRanks) s.heap.objs.size f cdv)).units = A.units + 3 := rfl; omega
    refine ⟨_, pss_cons (ps_expr (pe_call G hr rfl mG kG bG .nil pass0 (pa_cons (pv 0) pa_nil)))
      (pss_cons (ps_set (i := 1) scRanks.nd rfl (Or.inr rfl) (pe_dc (own := [("entry", 2), ("book", 3)]) (g := gTup K 2 (gCons (gName 2) (gCons (gName 3) gNil))) (tt := tYes) rfl scRanks.nd
          (pi_enum rfl en (pa_cons (pe_meth0 (pv 0) T.cl T.mc Gc hr bc .nil pass0) pa_nil)) (blkOk_by (N := ["shelf", "entries", "entry", "book"]) (sc := defScope sRanks) (by decide +kernel))
          (fun _ _ _ _ _ => pg_tup rfl (pgs_cons (pg_name (i := 2) scRanks.nd rfl (Or.inl rfl)) (pgs_cons (pg_name (i := 3) scRanks.nd rfl (Or.inl rfl)) pgs_nil))) (fun _ _ _ _ _ => pts_nil)
          (fun _ _ _ _ _ => pv 3) (fun _ _ _ _ _ => pv 2)))
      (pss_one (ps_ret (pe_lc (own := [("book", 3)]) (g := gName 3) (tt := tYes) rfl scRanks.nd (pi_list (pe_meth0 (pv 0) T.cl T.mr Gr hr br .nil pass0)) (blkOk_by (N := ["shelf", "entries", "entry", "book"]) (sc := defScope sRanks) (by decide +kernel))
          (fun _ _ _ _ _ => pg_name (i := 3) scRanks.nd rfl (Or.inl rfl)) (fun _ _ _ _ _ => pts_nil)
          (fun _ _ _ _ _ => pe_dget hu (pv 1) (pv 3) (fun _ _ => rfl)))))), ?_⟩
    obtain ⟨dx, c, r, ha, hc, hr'⟩ := id sh
    refine ⟨_, rfl, a, xs, ys, rfl, sh, ?_⟩
    refine ⟨_, rfl, a, dx, _, rfl, ha, rfl, a, xs, ys, rfl, sh, fun l nl => ?_⟩
    have s1 : Same H (upd H l (.lst (xs.map V.str))) := same_upd nl
    have hl : (upd H l (.lst (xs.map V.str))) l = some (.lst (xs.map V.str)) := upd_same
    generalize upd H l (.lst (xs.map V.str)) = H1 at s1 hl
    refine ⟨l, _, rfl, SqL.of hl, fun D hD => ?_⟩
    refine dc_it (walk_enum (K := K) (a := l) (xs := xs.map V.str)) (fun i H' => H' D = some (.dK (ent (xs.take i) 0)) ∧ Same H1 H') ⟨upd_same, same_upd hD⟩ (fun i H' _ ⟨_, h2⟩ => SqL.of (h2 _ _ hl)) ?_ ?_
    · rintro i x H2 H3 hi ⟨h1, h2⟩ ⟨t, u, v, rfl, nt, rfl, eu, ev⟩
      rw [List.length_map] at hi
      have hi' : xs[i]? = some xs[i] := List.getElem?_eq_getElem hi
      change some (V.int ((i : Nat) : Int)) = some u at eu
      change (xs.map V.str)[i]? = some v at ev
      rw [List.getElem?_map, hi'] at ev
      obtain rfl := Option.some.inj ev
      obtain rfl := Option.some.inj eu
      have nDt : D ≠ t := ne_of_none h1 nt
      have new : xs[i] ∉ xs.take i := fun z => by
        have u' : (xs.take (i + 1)).Nodup := cat.2.2.2.sublist (List.take_sublist _ _)
        rw [List.take_succ, hi', List.nodup_append] at u'
        exact u'.2.2 _ z _ (List.mem_singleton_self _) rfl
      refine ⟨t, _, rfl, .inl (.inl upd_same), rfl, _, _, rfl, _, _, rfl, rfl, rfl, ?_⟩
      refine ⟨_, rfl, _, rfl, _, .inr xs[i], rfl, by rw [upd_ne nDt]; exact h1, by rw [ent_len]; exact small1000 (by have := cat.2.1; rw [List.length_take]; omega), ?_, fun b o eb => ?_⟩
      · rw [upd_same, ent_put new, List.take_succ, hi']
        simp only [Option.toList, ent_app, List.length_take, Nat.zero_add]
        rw [Nat.min_eq_left (by omega)]
      · have nb : b ≠ D := ne_of_none eb hD
        have e2 := h2 _ _ eb
        rw [upd_ne nb, upd_ne (ne_of_none e2 nt)]
        exact e2
    · rintro H2 ⟨h1, h2⟩
      rw [List.length_map, List.take_length] at h1
      have s2 : Same H H2 := s1.trans h2
      obtain ⟨e1, e2, e3⟩ := (⟨s2 _ _ ha, s2 _ _ hc, s2 _ _ hr'⟩ : _ ∧ _ ∧ _)
      refine ⟨_, rfl, a, dx, _, rfl, e1, rfl, a, xs, ys, rfl, sh.mono s2, fun m nm => ?_⟩
      have s3 : Same H2 (upd H2 m (.lst (ys.map V.str))) := same_upd nm
      have hm : (upd H2 m (.lst (ys.map V.str))) m = some (.lst (ys.map V.str)) := upd_same
      refine ⟨m, rfl, ⟨_, SqL.of hm⟩, fun p np => ?_⟩
      change ∃ W : Nat → Nat → Hp → Prop, _
      dsimp only at np ⊢
      generalize upd H2 m (.lst (ys.map V.str)) = H3 at s3 hm np ⊢
      have s03 := s2.trans s3
      refine lc_list (K := K) (a := m) (xs := ys.map V.str) (fun i H' => H' p = some (.lst ((rnk xs (ys.take i)).map V.int)) ∧ Same H3 H') ⟨upd_same, same_upd np⟩ (fun i H' _ ⟨_, h2⟩ => SqL.of (h2 _ _ hm)) ?_ ?_
      · rintro i x H4 hx ⟨g1, g2⟩
        rw [List.getElem?_map] at hx
        obtain ⟨z, hz, rfl⟩ := Option.map_eq_some_iff.1 hx
        have lt := (List.getElem?_eq_some_iff.1 hz).1
        refine ⟨rfl, ?_⟩
        have hd4 : H4 D = some (.dK (ent xs 0)) := g2 _ _ (s3 _ _ h1)
        have val := ent_val xs 0 z (row.1 z (List.mem_of_getElem? hz))
        have get := DGet.k (k := Sum.inr z) hd4
        rw [val] at get
        refine ⟨_, rfl, _, rfl, D, _, rfl, get, ?_⟩
        refine ⟨_, g1, by rw [List.length_map, rnk, List.length_map, List.length_take]; exact small1000 (by have := cat.2.1; have := row.2.2; omega), ?_, fun b o eb => ?_⟩
        · rw [upd_same, List.take_succ, hz]
          simp [rnk]
        · rw [upd_ne (ne_of_none eb np)]
          exact g2 _ _ eb
      · rintro H4 ⟨g1, g2⟩
        rw [List.length_map, List.take_length] at g1
        exact q H4 p (s03.trans g2) (by
          cases e : H p with
          | none => rfl
          | some o => rw [s03 _ _ e] at np; cases np) g1
end

end LW

-- RB
set_option Elab.async false
set_option linter.all false
set_option maxRecDepth 100000
set_option maxHeartbeats 4100000
/-! ### what the raw promises say by trees -/
namespace LW
open L2 PyProof.Rows PySem PySem.Spec TS TL
/-- a def of the module's -/
def RawF (K : PySem.W.Frag) (mg : Str → Option Value) (x : Str) (st : Stmt) : Prop := ∃ f fd, mg x = some (.ref f) ∧ Fun K x x st f fd
section
variable (P : Program) (w : World) (K : PySem.W.Frag) (mg : Str → Option Value) (base : Heap) (C : Addr)
/-- the class of shelves and its defs -/
structure ShL : Prop where
  x : ∃ (fi fq fc fr : Addr) (fdi fdq fdc fdr : FuncData), ShC K C fi fq fc fr ∧ mg "Shelf" = some (.ref C) ∧ FnOk P w K mg base CX0 3 fi fdi ["self", "catalogue", "row"] (spInit C) ∧ Binds K fdi ["self", "catalogue", "row"] [] ∧ FnOk P w K mg base CX0 1 fq fdq ["self", "other"] (OE.spB (EqR K C)) ∧ Binds K fdq ["self", "other"] [] ∧
    FnOk P w K mg base CX0 1 fc fdc ["self"] (spOf C [true] S_catalogue) ∧ Binds K fdc ["self"] [] ∧ FnOk P w K mg base CX0 1 fr fdr ["self"] (spOf C [true] S_row) ∧ Binds K fdr ["self"] [] ∧ IsC K C
end
section
variable {P : Program} {w : World} {K : PySem.W.Frag} {mg : Str → Option Value} {base : Heap} {C : Addr}
theorem has_no {k : Nat} {x : Str} {st : Stmt} {N ps : List Str} {ks : List Bool} (r : RawF K mg x st) (b : ∀ {f : Addr} {fd : FuncData}, Fun K x x st f fd → Binds K fd ps []) : Has P w K mg base C k x ps ks (fun _ _ _ => False) := by
  obtain ⟨f, fd, m, F⟩ := r
  exact ⟨f, fd, ⟨fun vs H Q E h => by obtain ⟨_, _, _, _, _, _, _, _, _, h, _⟩ := h; exact h.elim, fun A outer s H args us vs Q E _ _ _ _ h => by obtain ⟨_, _, _, _, _, _, _, _, _, h, _⟩ := h; exact h.elim⟩, m, F.kp, b F⟩
theorem conv_draw {k : Nat} {f : Addr} {fd : FuncData} {ps : List Str} (F : FnOk P w K mg base CX0 k f fd ps spDraw) : FnOk P w K mg base CX0 k f fd ps (spOf C [true, true] S_draw) := by
  refine F.imp fun vs H Q E h => ?_
  obtain ⟨p, W, n, ds, R, dom, pw, pa, ar, ⟨m, rfl, h1, h2, h3, hk⟩, q⟩ := h
  obtain ⟨v, u, rfl, hv, hu⟩ := ar.a2
  obtain ⟨a, rfl, rfl⟩ := hv.purse
  obtain ⟨b, hP, hb⟩ := pa
  refine ⟨a, m, b, by rw [hu.int], h1, h2, hP, by omega, fun H' r hr hP' hc => ?_⟩
  exact q _ H' (.val (.int r)) (n - 1) (fun c o nc e => (hc c fun z => nc (by rw [z])).trans e) ⟨b + 1, hP', by omega⟩ (rfl : V.int r = V.int r) (hk r hr)
theorem conv_word {k : Nat} {f : Addr} {fd : FuncData} {ps : List Str} (F : FnOk P w K mg base CX0 k f fd ps spWord) : FnOk P w K mg base CX0 k f fd ps (spOf C [true] S_word) := by
  refine F.imp fun vs H Q E h => ?_
  obtain ⟨p, W, n, ds, R, dom, pw, pa, ar, ⟨rfl, h3, hk⟩, q⟩ := h
  obtain ⟨v, rfl, hv⟩ := ar.a1
  obtain ⟨a, rfl, rfl⟩ := hv.purse
  obtain ⟨b, hP, hb⟩ := pa
  refine ⟨a, b, rfl, hP, by omega, fun H' z hz hP' hc => ?_⟩
  exact q _ H' (.val (.str z)) (n - 20) (fun c o nc e => hc c o (fun z => nc (by rw [z])) e) ⟨b + 20, hP', by omega⟩ (rfl : V.str z = V.str z) (hk z hz)
theorem conv_new {k : Nat} {f : Addr} {fd : FuncData} {ps : List Str} {l : List Str → List Str → List Str} (F : FnOk P w K mg base CX0 k f fd ps (spNew C l)) : FnOk P w K mg base CX0 k f fd ps (spOf C [true] fun ds n R => ∃ xs ys, ds = [.sh xs ys] ∧ R (.new (dS (l xs ys))) n) := by
  refine F.imp fun vs H Q E h => ?_
  obtain ⟨p, W, n, ds, R, dom, pw, pa, ar, ⟨xs, ys, rfl, hk⟩, q⟩ := h
  obtain ⟨v, rfl, hv⟩ := ar.a1
  obtain ⟨a, dx, c, r, rfl, h1, h2, h3⟩ := hv.sh
  exact ⟨a, xs, ys, rfl, ⟨dx, c, r, h1, h2, h3⟩, fun b nb => q _ _ (.new (dS (l xs ys))) n (.same (same_upd nb)) (pa.same (same_upd nb)) ⟨b, rfl, nb, _, upd_same, repL_strs _⟩ hk⟩
theorem conv_check {k : Nat} {f : Addr} {fd : FuncData} {ps : List Str} (F : FnOk P w K mg base CX0 k f fd ps (spCheck C)) : FnOk P w K mg base CX0 k f fd ps (spOf C [true] S_check) := by
  refine F.imp fun vs H Q E h => ?_
  obtain ⟨p, W, n, ds, R, dom, pw, pa, ar, ⟨xs, ys, rfl, hk⟩, q⟩ := h
  obtain ⟨v, rfl, hv⟩ := ar.a1
  obtain ⟨a, dx, c, r, rfl, h1, h2, h3⟩ := hv.sh
  exact ⟨a, xs, ys, rfl, ⟨dx, c, r, h1, h2, h3⟩, q _ H (.val .non) n .refl pa (rfl : V.non = V.non) hk⟩
theorem conv_ranks {k : Nat} {f : Addr} {fd : FuncData} {ps : List Str} (F : FnOk P w K mg base CX0 k f fd ps (spRanks C)) : FnOk P w K mg base CX0 k f fd ps (spOf C [true] S_ranks) := by
  refine F.imp fun vs H Q E h => ?_
  obtain ⟨p, W, n, ds, R, dom, pw, pa, ar, ⟨xs, ys, rfl, cat, row, hk⟩, q⟩ := h
  obtain ⟨v, rfl, hv⟩ := ar.a1
  obtain ⟨a, dx, c, r, rfl, h1, h2, h3⟩ := hv.sh
  refine ⟨a, xs, ys, rfl, ⟨dx, c, r, h1, h2, h3⟩, cat, row, fun H' b s nb hb => ?_⟩
  exact q _ H' (.new (dI (rnk xs ys))) n (.same s) (pa.same s) ⟨b, rfl, nb, _, hb, repL_ints _⟩ hk
theorem conv_cat {k : Nat} {f : Addr} {fd : FuncData} {ps : List Str} (F : FnOk P w K mg base CX0 k f fd ps spIsCat) : FnOk P w K mg base CX0 k f fd ps (spOf C [true] S_is_catalogue) := by
  refine F.imp fun vs H Q E h => ?_
  obtain ⟨p, W, n, ds, R, dom, pw, pa, ar, ⟨xs, rfl, cat, hk⟩, q⟩ := h
  obtain ⟨v, rfl, hv⟩ := ar.a1
  obtain ⟨a, us, rfl, ha, r⟩ := hv.lst
  rw [r.strs] at ha
  exact ⟨a, xs, rfl, ha, cat, fun H' s => q _ H' (.val (.bl true)) n (.same s) (pa.same s) (rfl : V.bl true = V.bl true) hk⟩
theorem conv_unlike {k : Nat} {f : Addr} {fd : FuncData} {ps : List Str} (F : FnOk P w K mg base CX0 k f fd ps spUnlike) : FnOk P w K mg base CX0 k f fd ps (spOf C [true, true] S_are_unlike) := by
  refine F.imp fun vs H Q E h => ?_
  obtain ⟨p, W, n, ds, R, dom, pw, pa, ar, ⟨xs, ys, rfl, f1, f2, sub, nd, hk⟩, q⟩ := h
  obtain ⟨v, u, rfl, hv, hu⟩ := ar.a2
  obtain ⟨a, us, rfl, ha, r⟩ := hv.lst
  obtain ⟨b, ws, rfl, hb, r2⟩ := hu.lst
  rw [r.strs] at ha
  rw [r2.strs] at hb
  exact ⟨a, b, xs, ys, rfl, ha, hb, f1, f2, sub, nd, fun H' s => q _ H' (.val (.bl true)) n (.same s) (pa.same s) (rfl : V.bl true = V.bl true) hk⟩
end
end LW

-- B
set_option Elab.async false
set_option linter.all false
set_option maxRecDepth 100000
set_option maxHeartbeats 4100000
namespace TL
open L2 PyProof.Rows PySem PySem.Spec TS TMin RZ
abbrev tab_COUNTS_BEHIND : List (Str × Int) := [("put", 2), ("out", 0), ("move", 1), ("list", 1)]
def B_is_count : TSt :=
  (tlRet (tlAnd (tlIsB "int" (tlV 0)) (tlAnd (tlNot (tlIsB "bool" (tlV 0))) (tlOp dGe (tlV 0) (tlC (.int 0))))))
def B_is_change (S1 : ST) (S2 : ST) : TSt :=
  (tlSq (tlIf (tlOrT (tlNotT (tlT (tlIsB "tuple" (tlV 0)))) (tlOrT (tlT (tlOp dLt (tlB dLen (tlCons (tlV 0) tlNil)) (tlC (.int 2)))) (tlNotT (tlT (tlIsB "str" (tlOp dIx (tlV 0) (tlC (.int 0)))))))) (tlRet (tlC (.bl false))) tlNx) (tlSq (tlSet 1 (tlKGet tab_COUNTS_BEHIND (tlOp dIx (tlV 0) (tlC (.int 0))))) (tlSq (tlIf (tlOrT (tlT (tlOp dIsN (tlV 1) (tlC .non))) (tlOrT (tlT (tlOp dNe (tlB dLen (tlCons (tlV 0) tlNil)) (tlOp dAdd (tlC (.int 2)) (tlV 1)))) (tlNotT (tlT (tlCall [true] S1 (tlCons (tlOp dIx (tlV 0) (tlC (.int 1))) tlNil)))))) (tlRet (tlC (.bl false))) tlNx) (tlRel 0 (tlRet (tlB dAll (tlCons (tlLc (tlSeq (tlSl (tlV 0) (some (tlC (.int 2))) none)) (.nm 2) tlYes (tlCall [true] S2 (tlCons (tlV 2) tlNil)) [2]) tlNil)))))))
def B_fits : TSt :=
  (tlSq (tlPar 2 3 (tlOp dIx (tlV 1) (tlC (.int 0))) (tlOp dIx (tlV 1) (tlC (.int 1)))) (tlSq (tlSet 4 (tlMeth [true] S_row (tlV 0) tlNil)) (tlSq (tlIf (tlT (tlOp dEq (tlV 2) (tlC (.str "put")))) (tlRet (tlAnd (tlOp dNin (tlV 3) (tlV 4)) (tlAnd (tlOp dLe (tlOp dIx (tlV 1) (tlC (.int 2))) (tlB dLen (tlCons (tlV 4) tlNil))) (tlOp dLe (tlOp dIx (tlV 1) (tlC (.int 3))) (tlB dLen (tlCons (tlV 4) tlNil)))))) tlNx) (tlSq (tlIf (tlT (tlOp dNin (tlV 3) (tlV 4))) (tlRet (tlC (.bl false))) tlNx) (tlSq (tlIf (tlT (tlOp dEq (tlV 2) (tlC (.str "out")))) (tlRet (tlOp dGt (tlB dLen (tlCons (tlV 4) tlNil)) (tlC (.int 1)))) tlNx) (tlSq (tlRel 4 (tlSet 5 (tlIfx (tlT (tlOp dEq (tlV 2) (tlC (.str "move")))) (tlV 4) (tlMeth [true] S_catalogue (tlV 0) tlNil)))) (tlRet (tlAnd (tlOp dLt (tlOp dIx (tlV 1) (tlC (.int 2))) (tlB dLen (tlCons (tlV 5) tlNil))) (tlOp dNeA (tlOp dIx (tlV 5) (tlOp dIx (tlV 1) (tlC (.int 2)))) (tlV 3))))))))))
def B_books_without : TSt :=
  (tlRet (tlLc (tlSeq (tlV 0)) (.nm 2) (tlT (tlOp dNeA (tlV 2) (tlV 1))) (tlV 2) [2]))
def B_books_with_at : TSt :=
  (tlRel 1 (tlRet (tlOp dAdd (tlOp dAdd (tlSl (tlV 0) none (some (tlV 2))) (tlLst (tlCons (tlV 1) tlNil))) (tlSl (tlV 0) (some (tlV 2)) none))))
def B_u_made (S1 : ST) (S2 : ST) : TSt :=
  (tlSq (tlUnp [2, 3, 4, 5] (tlTup (tlCons (tlOp dIx (tlV 1) (tlC (.int 0))) (tlCons (tlOp dIx (tlV 1) (tlC (.int 1))) (tlCons (tlMeth [true] S_catalogue (tlV 0) tlNil) (tlCons (tlMeth [true] S_row (tlV 0) tlNil) tlNil)))))) (tlSq (tlIf (tlT (tlOp dEq (tlV 2) (tlC (.str "put")))) (tlRel 3 (tlRet (tlShelf (tlCall [true, false, true] S1 (tlCons (tlV 4) (tlCons (tlV 3) (tlCons (tlOp dIx (tlV 1) (tlC (.int 2))) tlNil)))) (tlCall [true, false, true] S1 (tlCons (tlV 5) (tlCons (tlV 3) (tlCons (tlOp dIx (tlV 1) (tlC (.int 3))) tlNil))))))) tlNx) (tlSq (tlIf (tlT (tlOp dEq (tlV 2) (tlC (.str "out")))) (tlRet (tlShelf (tlCall [true, true] S2 (tlCons (tlV 4) (tlCons (tlV 3) tlNil))) (tlCall [true, true] S2 (tlCons (tlV 5) (tlCons (tlV 3) tlNil))))) tlNx) (tlSq (tlIf (tlT (tlOp dEq (tlV 2) (tlC (.str "move")))) (tlRel 3 (tlRet (tlShelf (tlV 4) (tlCall [true, false, true] S1 (tlCons (tlCall [true, true] S2 (tlCons (tlV 5) (tlCons (tlV 3) tlNil))) (tlCons (tlV 3) (tlCons (tlOp dIx (tlV 1) (tlC (.int 2))) tlNil))))))) tlNx) (tlRel 3 (tlRet (tlShelf (tlCall [true, false, true] S1 (tlCons (tlCall [true, true] S2 (tlCons (tlV 4) (tlCons (tlV 3) tlNil))) (tlCons (tlV 3) (tlCons (tlOp dIx (tlV 1) (tlC (.int 2))) tlNil)))) (tlV 5))))))))
def B_changed (S1 : ST) (S2 : ST) (S3 : ST) (S4 : ST) : TSt :=
  (tlSq (tlEx (tlCall [true] S1 (tlCons (tlV 0) tlNil))) (tlSq (tlRel 1 (tlIf (tlOrT (tlNotT (tlT (tlCall [false] S2 (tlCons (tlV 1) tlNil)))) (tlNotT (tlT (tlCall [true, true] S3 (tlCons (tlV 0) (tlCons (tlV 1) tlNil)))))) tlNever tlNx)) (tlRet (tlCall [true, true] S4 (tlCons (tlV 0) (tlCons (tlV 1) tlNil))))))
def B_are_gapless : TSt :=
  (tlRet (tlOp dEq (tlOp dSub (tlB dMax1 (tlCons (tlV 0) tlNil)) (tlB dMin1 (tlCons (tlV 0) tlNil))) (tlOp dSub (tlB dLen (tlCons (tlV 0) tlNil)) (tlC (.int 1)))))
def B_u_run_of_entries (S1 : ST) : TSt :=
  (tlSq (tlIf (tlNotT (tlT (tlCall [true] S1 (tlCons (tlV 1) tlNil)))) (tlRet (tlC .non)) tlNx) (tlSq (tlSet 2 (tlB dMin1 (tlCons (tlV 1) tlNil))) (tlRet (tlB dTup (tlCons (tlSl (tlV 0) (some (tlV 2)) (some (tlOp dAdd (tlV 2) (tlB dLen (tlCons (tlV 1) tlNil))))) tlNil)))))
def B_all_runs (S1 : ST) (S2 : ST) : TSt :=
  (tlSq (tlPar 1 2 (tlCall [true] S1 (tlCons (tlV 0) tlNil)) (tlMeth [true] S_catalogue (tlV 0) tlNil)) (tlSq (tlSet 3 (tlB dLen (tlCons (tlV 1) tlNil))) (tlSq (tlSet 4 (tlLc2 (tlRng1 (tlV 3)) (.nm 5) tlYes (tlRng2 (tlOp dAdd (tlV 5) (tlC (.int 2))) (tlOp dAdd (tlV 3) (tlC (.int 1)))) (.nm 6) tlYes (tlSl (tlV 1) (some (tlV 5)) (some (tlV 6))) [5, 6] [6])) (tlSq (tlSet 7 (tlLc (tlSeq (tlV 4)) (.nm 8) tlYes (tlCall [true, true] S2 (tlCons (tlV 2) (tlCons (tlV 8) tlNil))) [8])) (tlRet (tlB dSortedT (tlCons (tlLc (tlSeq (tlV 7)) (.nm 9) (tlT (tlOp dNotN (tlV 9) (tlC .non))) (tlV 9) [9]) tlNil)))))))
def B_u_forms_of (S1 : ST) : TSt :=
  (tlSq (tlPar 2 3 (tlOp dIx (tlV 1) (tlC (.int 0))) (tlOp dIx (tlV 1) (tlC (.int 1)))) (tlSq (tlIf (tlT (tlOp dEq (tlV 2) (tlC (.str "put")))) (tlRel 3 (tlRet (tlLst (tlCons (tlB dSortedT (tlCons (tlV 0) tlNil)) (tlCons (tlB dSortedT (tlCons (tlOp dAdd (tlB dList (tlCons (tlV 0) tlNil)) (tlLst (tlCons (tlV 3) tlNil))) tlNil)) tlNil))))) tlNx) (tlRet (tlLst (tlCons (tlIfx (tlT (tlOp dEq (tlV 2) (tlC (.str "out")))) (tlB dSortedT (tlCons (tlCall [true, true] S1 (tlCons (tlV 0) (tlCons (tlV 3) tlNil))) tlNil)) (tlB dSortedT (tlCons (tlV 0) tlNil))) tlNil)))))
def B_u_stay (S1 : ST) (S2 : ST) (S3 : ST) : TSt :=
  (tlSq (tlSq (tlRel 1 (tlSet 2 (tlLc (tlSeq (tlCall [true] S1 (tlCons (tlCall [true, false] S2 (tlCons (tlV 0) (tlCons (tlV 1) tlNil))) tlNil))) (.nm 3) tlYes (tlB dSortedT (tlCons (tlV 3) tlNil)) [3]))) (tlSet 4 (tlCall [true] S1 (tlCons (tlV 0) tlNil)))) (tlSet 5 (tlLc (tlSeq (tlV 4)) (.nm 3) (tlT (tlB dAny (tlCons (tlLc (tlSeq (tlCall [true, true] S3 (tlCons (tlV 3) (tlCons (tlV 1) tlNil)))) (.nm 6) tlYes (tlOp dInA (tlV 6) (tlV 2)) [6]) tlNil))) (tlV 3) [3])))
def B_u_stay_end (S1 : ST) (S2 : ST) (S3 : ST) : TSP :=
  (tlRet2 5 (tlLc (tlSeq (tlV 4)) (.nm 3) (tlT (tlOp dNin (tlV 3) (tlV 5))) (tlV 3) [3]))
def B_kept_runs (S1 : STP) : TSt :=
  (tlRel 1 (tlRet (tlCallIx [true, false] S1 0 (tlCons (tlV 0) (tlCons (tlV 1) tlNil)))))
def B_lost_runs (S1 : STP) : TSt :=
  (tlRel 1 (tlRet (tlCallIx [true, false] S1 1 (tlCons (tlV 0) (tlCons (tlV 1) tlNil)))))
def B_new_runs (S1 : ST) (S2 : ST) (S3 : ST) : TSt :=
  (tlSq (tlRel 1 (tlSet 2 (tlCall [true] S1 (tlCons (tlCall [true, false] S2 (tlCons (tlV 0) (tlCons (tlV 1) tlNil))) tlNil)))) (tlSq (tlSet 3 (tlLc2 (tlSeq (tlCall [true] S1 (tlCons (tlV 0) tlNil))) (.nm 4) tlYes (tlSeq (tlCall [true, true] S3 (tlCons (tlV 4) (tlCons (tlV 1) tlNil)))) (.nm 5) tlYes (tlV 5) [4, 5] [5])) (tlRet (tlLc (tlSeq (tlV 2)) (.nm 4) (tlT (tlOp dNin (tlB dSortedT (tlCons (tlV 4) tlNil)) (tlV 3))) (tlV 4) [4]))))
def B_w_one_of (S1 : ST) : TSt :=
  (tlRet (tlOp dIx (tlV 1) (tlCall [true, true] S1 (tlCons (tlV 0) (tlCons (tlB dLen (tlCons (tlV 1) tlNil)) tlNil)))))
def B_w_shuffled (S1 : ST) : TSt :=
  (tlSq (tlSet 2 (tlLst tlNil)) (tlSq (tlRel 1 (tlFor (tlSeq (tlV 1)) (.nm 3) (tlRel 3 (tlIns 2 (tlCall [true, true] S1 (tlCons (tlV 0) (tlCons (tlOp dAdd (tlB dLen (tlCons (tlV 2) tlNil)) (tlC (.int 1))) tlNil))) (tlV 3))))) (tlRetV 2)))
def B_w_same (S1 : ST) : TSt :=
  (tlSq (tlIf (tlT (tlIsB "dict" (tlV 0))) tlNever tlNx) (tlSq (tlIf (tlT (tlIsB "list" (tlV 0))) (tlRel 2 (tlRet (tlLc (tlSeq (tlV 0)) (.nm 2) tlYes (tlCall [false] S1 (tlCons (tlV 2) tlNil)) [2]))) tlNx) (tlRel 2 (tlRel 0 (tlRet (tlIfx (tlT (tlIsB "tuple" (tlV 0))) (tlB dTup (tlCons (tlLc (tlSeq (tlV 0)) (.nm 2) tlYes (tlCall [false] S1 (tlCons (tlV 2) tlNil)) [2]) tlNil)) (tlV 0)))))))
def B_w_exact (S1 : ST) : TSt :=
  (tlSq (tlIf (tlT (tlIsT "list" "tuple" (tlV 0))) (tlSq (tlSet 2 (tlAnd (tlOp dEq (tlIsB "list" (tlV 1)) (tlIsB "list" (tlV 0))) (tlOp dEq (tlIsB "tuple" (tlV 1)) (tlIsB "tuple" (tlV 0))))) (tlRet (tlAnd (tlV 2) (tlAnd (tlOp dEq (tlB dLen (tlCons (tlV 0) tlNil)) (tlB dLen (tlCons (tlV 1) tlNil))) (tlB dAll (tlCons (tlLc (tlZip (tlV 0) (tlV 1)) (.tp [3, 4]) tlYes (tlCall [true, true] S1 (tlCons (tlV 3) (tlCons (tlV 4) tlNil))) [3, 4]) tlNil)))))) tlNx) (tlSq (tlIf (tlT (tlIsB "dict" (tlV 0))) (tlSq (tlSet 2 (tlAnd (tlIsB "dict" (tlV 1)) (tlCall [true, true] S1 (tlCons (tlB dList (tlCons (tlV 0) tlNil)) (tlCons (tlB dList (tlCons (tlV 1) tlNil)) tlNil))))) (tlRet (tlAnd (tlV 2) (tlB dAll (tlCons (tlLc (tlSeq (tlV 0)) (.nm 5) tlYes (tlCall [true, true] S1 (tlCons (tlOp dIx (tlV 0) (tlV 5)) (tlCons (tlOp dIx (tlV 1) (tlV 5)) tlNil))) [5]) tlNil))))) tlNx) (tlRet (tlAnd (tlOp dEq (tlIsB "bool" (tlV 0)) (tlIsB "bool" (tlV 1))) (tlOp dEqA (tlV 0) (tlV 1))))))
def B_w_words (S1 : ST) (S2 : ST) : TSt :=
  (tlSq (tlPar 2 3 (tlCall [true] S1 (tlCons (tlV 0) tlNil)) (tlOp dEq (tlCall [true, true] S2 (tlCons (tlV 0) (tlCons (tlC (.int 3)) tlNil))) (tlC (.int 0)))) (tlSq (tlPar 4 5 (tlCall [true, true] S2 (tlCons (tlV 0) (tlCons (tlB dLen (tlCons (tlV 2) tlNil)) tlNil))) (tlLst tlNil)) (tlSq (tlFor (tlRng1 (tlV 1)) (.nm 6) (tlSq (tlSet 7 (tlOp dAdd (tlOp dAdd (tlSl (tlV 2) none (some (tlV 4))) (tlOp dIx (tlC (.str "abcdefghijklmnopqrstuvwxyz")) (tlCall [true, true] S2 (tlCons (tlV 0) (tlCons (tlC (.int 26)) tlNil))))) (tlSl (tlV 2) (some (tlOp dAdd (tlV 4) (tlC (.int 1)))) none))) (tlSq (tlIf (tlNotT (tlT (tlV 3))) (tlSet 7 (tlCall [true] S1 (tlCons (tlV 0) tlNil))) tlNx) (tlSq (tlIf (tlT (tlOp dInA (tlV 7) (tlV 5))) (tlSet 7 (tlOp dIx (tlLc (tlSeq (tlB dList (tlCons (tlC (.str "abcdefghijklmnopqrstuvwxyz")) tlNil))) (.nm 8) (tlT (tlOp dNin (tlV 8) (tlV 5))) (tlV 8) [8]) (tlC (.int 0)))) tlNx) (tlRel 7 (tlApp 5 (tlV 7))))))) (tlRetV 5))))
def B_w_catalogue (S1 : ST) (S2 : ST) (S3 : ST) : TSt :=
  (tlSq (tlSet 2 (tlCall [true, true] S1 (tlCons (tlV 0) (tlCons (tlV 1) tlNil)))) (tlRet (tlIfx (tlT (tlOp dEq (tlCall [true, true] S2 (tlCons (tlV 0) (tlCons (tlC (.int 2)) tlNil))) (tlC (.int 0)))) (tlB dSortedT (tlCons (tlV 2) tlNil)) (tlCall [true, true] S3 (tlCons (tlV 0) (tlCons (tlV 2) tlNil))))))
def B_w_sizes (S1 : ST) : TSt :=
  (tlSq (tlSet 3 (tlOp dMul (tlLst (tlCons (tlC (.int 1)) tlNil)) (tlV 2))) (tlSq (tlFor (tlRng1 (tlOp dSub (tlV 1) (tlV 2))) (.nm 4) (tlSq (tlSet 5 (tlCall [true, true] S1 (tlCons (tlV 0) (tlCons (tlV 2) tlNil)))) (tlSetIx 3 (tlOp dAdd (tlOp dIx (tlV 3) (tlV 5)) (tlC (.int 1))) (tlV 5)))) (tlRetV 3)))
def B_w_crossed_rows : TSt :=
  (tlSq (tlIf (tlT (tlOp dEq (tlV 0) (tlC (.int 4)))) (tlRet (tlLst (tlCons (tlLst (tlCons (tlC (.int 1)) (tlCons (tlC (.int 3)) (tlCons (tlC (.int 0)) (tlCons (tlC (.int 2)) tlNil))))) tlNil))) tlNx) (tlSq (tlIf (tlT (tlOp dEq (tlV 0) (tlC (.int 5)))) (tlRet (tlLst (tlCons (tlLst (tlCons (tlC (.int 1)) (tlCons (tlC (.int 3)) (tlCons (tlC (.int 0)) (tlCons (tlC (.int 4)) (tlCons (tlC (.int 2)) tlNil)))))) (tlCons (tlLst (tlCons (tlC (.int 1)) (tlCons (tlC (.int 4)) (tlCons (tlC (.int 2)) (tlCons (tlC (.int 0)) (tlCons (tlC (.int 3)) tlNil)))))) (tlCons (tlLst (tlCons (tlC (.int 2)) (tlCons (tlC (.int 0)) (tlCons (tlC (.int 4)) (tlCons (tlC (.int 1)) (tlCons (tlC (.int 3)) tlNil)))))) tlNil))))) tlNx) (tlRet (tlLst (tlCons (tlLst (tlCons (tlC (.int 1)) (tlCons (tlC (.int 3)) (tlCons (tlC (.int 5)) (tlCons (tlC (.int 0)) (tlCons (tlC (.int 2)) (tlCons (tlC (.int 4)) tlNil))))))) (tlCons (tlLst (tlCons (tlC (.int 1)) (tlCons (tlC (.int 4)) (tlCons (tlC (.int 0)) (tlCons (tlC (.int 3)) (tlCons (tlC (.int 5)) (tlCons (tlC (.int 2)) tlNil))))))) (tlCons (tlLst (tlCons (tlC (.int 2)) (tlCons (tlC (.int 0)) (tlCons (tlC (.int 4)) (tlCons (tlC (.int 1)) (tlCons (tlC (.int 5)) (tlCons (tlC (.int 3)) tlNil))))))) tlNil)))))))
def B_w_heap_sizes (S1 : ST) : TSt :=
  (tlSq (tlSet 2 (tlLst tlNil)) (tlSq (tlWhile (tlT (tlOp dLt (tlB dSum (tlCons (tlV 2) tlNil)) (tlV 1))) (tlSq (tlSet 3 (tlOp dSub (tlV 1) (tlB dSum (tlCons (tlV 2) tlNil)))) (tlIf (tlAndT (tlT (tlOp dGt (tlV 3) (tlC (.int 4)))) (tlT (tlOp dEq (tlCall [true, true] S1 (tlCons (tlV 0) (tlCons (tlC (.int 3)) tlNil))) (tlC (.int 0))))) (tlApp 2 (tlOp dAdd (tlC (.int 4)) (tlCall [true, true] S1 (tlCons (tlV 0) (tlCons (tlB dMin2 (tlCons (tlC (.int 3)) (tlCons (tlOp dSub (tlV 3) (tlC (.int 4))) tlNil))) tlNil))))) (tlIf (tlAndT (tlT (tlOp dGt (tlV 3) (tlC (.int 3)))) (tlAndT (tlT (tlOp dNe (tlV 2) (tlLst tlNil))) (tlT (tlOp dEq (tlCall [true, true] S1 (tlCons (tlV 0) (tlCons (tlC (.int 3)) tlNil))) (tlC (.int 0)))))) (tlApp 2 (tlOp dAdd (tlC (.int 4)) (tlCall [true, true] S1 (tlCons (tlV 0) (tlCons (tlOp dSub (tlV 3) (tlC (.int 3))) tlNil))))) (tlApp 2 (tlC (.int 1))))))) (tlRetV 2)))
def B_w_nodes (S1 : ST) (S2 : ST) (S3 : ST) (S4 : ST) (S5 : ST) : TSt :=
  (tlSq (tlRel 1 (tlPar 2 3 (tlLst (tlCons (tlLst (tlCons (tlC (.str "any")) (tlCons (tlC (.int 0)) (tlCons (tlV 1) (tlCons (tlLst tlNil) (tlCons (tlLst tlNil) tlNil)))))) tlNil)) (tlC (.int 0)))) (tlSq (tlWhile (tlT (tlOp dLt (tlV 3) (tlB dLen (tlCons (tlV 2) tlNil)))) (tlSq (tlUnp [4, 5, 6, 7, 8] (tlOp dIx (tlV 2) (tlV 3))) (tlSq (tlSet 9 (tlOr (tlOp dEq (tlV 4) (tlC (.str "crossed"))) (tlAnd (tlOp dEq (tlV 4) (tlC (.str "any"))) (tlAnd (tlOp dGt (tlV 6) (tlC (.int 3))) (tlOp dEq (tlCall [true, true] S1 (tlCons (tlV 0) (tlCons (tlC (.int 3)) tlNil))) (tlC (.int 0))))))) (tlSq (tlIf (tlT (tlOp dGt (tlV 6) (tlC (.int 1)))) (tlSq (tlSet 10 (tlIfx (tlT (tlV 9)) (tlLst tlNil) (tlCall [true, true] S2 (tlCons (tlV 0) (tlCons (tlV 6) tlNil))))) (tlSq (tlIf (tlT (tlV 9)) (tlSet 10 (tlCall [true, true, true] S3 (tlCons (tlV 0) (tlCons (tlV 6) (tlCons (tlOp dAdd (tlC (.int 4)) (tlCall [true, true] S1 (tlCons (tlV 0) (tlCons (tlB dMin2 (tlCons (tlC (.int 3)) (tlCons (tlOp dSub (tlV 6) (tlC (.int 3))) tlNil))) tlNil)))) tlNil))))) tlNx) (tlSq (tlSet 8 (tlLRg1 (tlB dLen (tlCons (tlV 10) tlNil)))) (tlSq (tlIf (tlT (tlV 9)) (tlSet 8 (tlCall [true, true] S4 (tlCons (tlV 0) (tlCons (tlCall [true] S5 (tlCons (tlB dLen (tlCons (tlV 10) tlNil)) tlNil)) tlNil)))) tlNx) (tlSq (tlRel 10 (tlFor (tlSeq (tlV 10)) (.nm 11) (tlSq (tlSet 7 (tlOp dAdd (tlV 7) (tlLst (tlCons (tlB dLen (tlCons (tlV 2) tlNil)) tlNil)))) (tlSq (tlRel 11 (tlRel 5 (tlApp 2 (tlLst (tlCons (tlIfx (tlT (tlV 9)) (tlC (.str "any")) (tlIfx (tlT (tlOp dGt (tlV 11) (tlC (.int 1)))) (tlC (.str "crossed")) (tlC (.str "book")))) (tlCons (tlV 5) (tlCons (tlV 11) (tlCons (tlLst tlNil) (tlCons (tlLst tlNil) tlNil))))))))) (tlSet 5 (tlOp dAdd (tlV 5) (tlV 11))))))) (tlRel 8 (tlRel 7 (tlRel 6 (tlSetIx 2 (tlLst (tlCons (tlIfx (tlT (tlV 9)) (tlC (.str "crossed")) (tlC (.str "heap"))) (tlCons (tlOp dIx (tlOp dIx (tlV 2) (tlV 3)) (tlC (.int 1))) (tlCons (tlV 6) (tlCons (tlV 7) (tlCons (tlV 8) tlNil)))))) (tlV 3)))))))))) tlNx) (tlSet 3 (tlOp dAdd (tlV 3) (tlC (.int 1)))))))) (tlRetV 2)))
def B_w_home_row : TSt :=
  (tlSq (tlPar 2 3 (tlLst (tlCons (tlC (.int 0)) tlNil)) (tlC (.int 0))) (tlSq (tlWhile (tlT (tlOp dLt (tlV 3) (tlB dLen (tlCons (tlV 2) tlNil)))) (tlSq (tlUnp [4, 5, 6, 7, 8] (tlOp dIx (tlV 0) (tlOp dIx (tlV 2) (tlV 3)))) (tlIf (tlT (tlOp dEq (tlV 7) (tlLst tlNil))) (tlSet 3 (tlOp dAdd (tlV 3) (tlC (.int 1)))) (tlSet 2 (tlOp dAdd (tlOp dAdd (tlSl (tlV 2) none (some (tlV 3))) (tlLc (tlSeq (tlV 8)) (.nm 9) tlYes (tlOp dIx (tlV 7) (tlV 9)) [9])) (tlSl (tlV 2) (some (tlOp dAdd (tlV 3) (tlC (.int 1)))) none)))))) (tlRet (tlLc (tlSeq (tlV 2)) (.nm 9) tlYes (tlOp dIx (tlV 1) (tlOp dIx (tlOp dIx (tlV 0) (tlV 9)) (tlC (.int 1)))) [9]))))
def B_w_turnables : TSt :=
  (tlSq (tlSet 2 (tlLst tlNil)) (tlSq (tlRel 0 (tlFor (tlSeq (tlV 0)) (.tp [3, 4, 5, 6, 7]) (tlSq (tlIf (tlT (tlOp dEq (tlV 3) (tlC (.str "crossed")))) (tlApp 2 (tlB dTup (tlCons (tlSl (tlV 1) (some (tlV 4)) (some (tlOp dAdd (tlV 4) (tlV 5)))) tlNil))) tlNx) (tlFor (tlRng1 (tlIfx (tlT (tlOp dEq (tlV 3) (tlC (.str "heap")))) (tlB dLen (tlCons (tlV 6) tlNil)) (tlC (.int 0)))) (.nm 8) (tlFor (tlRng2 (tlOp dAdd (tlV 8) (tlC (.int 1))) (tlB dLen (tlCons (tlV 6) tlNil))) (.nm 9) (tlSq (tlPar 10 11 (tlOp dIx (tlOp dIx (tlV 0) (tlOp dIx (tlV 6) (tlV 8))) (tlC (.int 1))) (tlOp dIx (tlV 0) (tlOp dIx (tlV 6) (tlV 9)))) (tlSq (tlSet 12 (tlOp dAdd (tlOp dIx (tlV 11) (tlC (.int 1))) (tlOp dIx (tlV 11) (tlC (.int 2))))) (tlApp 2 (tlB dTup (tlCons (tlSl (tlV 1) (some (tlV 10)) (some (tlV 12))) tlNil)))))))))) (tlRet (tlB dSortedT (tlCons (tlV 2) tlNil)))))
def B_w_overlap : TSt :=
  (tlSq (tlSet 2 (tlLc (tlSeq (tlV 0)) (.nm 3) (tlT (tlOp dInA (tlV 3) (tlV 1))) (tlV 3) [3])) (tlRet (tlChain dLt dLt (tlC (.int 0)) (tlB dLen (tlCons (tlV 2) tlNil)) (tlB dMin2 (tlCons (tlB dLen (tlCons (tlV 0) tlNil)) (tlCons (tlB dLen (tlCons (tlV 1) tlNil)) tlNil))))))
def B_w_drawn_lot (S1 : ST) (S2 : ST) (S3 : ST) : TSt :=
  (tlSq (tlSet 3 (tlLst tlNil)) (tlSq (tlFor (tlSeq (tlCall [true, true] S1 (tlCons (tlV 0) (tlCons (tlV 1) tlNil)))) (.nm 4) (tlIf (tlAndT (tlT (tlOp dLt (tlB dLen (tlCons (tlV 3) tlNil)) (tlV 2))) (tlNotT (tlT (tlB dAny (tlCons (tlLc (tlSeq (tlV 3)) (.nm 5) tlYes (tlCall [true, true] S2 (tlCons (tlV 4) (tlCons (tlV 5) tlNil))) [5]) tlNil))))) (tlRel 4 (tlApp 3 (tlV 4))) tlNx)) (tlSq (tlSet 6 (tlIfx (tlT (tlOp dEq (tlCall [true, true] S3 (tlCons (tlV 0) (tlCons (tlC (.int 2)) tlNil))) (tlC (.int 0)))) (tlB dLen (tlCons (tlV 3) tlNil)) (tlCall [true, true] S3 (tlCons (tlV 0) (tlCons (tlOp dAdd (tlB dLen (tlCons (tlV 3) tlNil)) (tlC (.int 1))) tlNil))))) (tlRet (tlB dSortedT (tlCons (tlSl (tlCall [true, true] S1 (tlCons (tlV 0) (tlCons (tlV 3) tlNil))) none (some (tlV 6))) tlNil))))))
def B_w_turn : TSt :=
  (tlSq (tlUnp [2, 3] (tlV 0)) (tlSq (tlSet 4 (tlLc (tlRng1 (tlB dLen (tlCons (tlV 3) tlNil))) (.nm 5) (tlT (tlOp dInA (tlOp dIx (tlV 3) (tlV 5)) (tlV 1))) (tlV 5) [5])) (tlSq (tlPar 6 7 (tlOp dIx (tlV 4) (tlC (.int 0))) (tlOp dAdd (tlOp dIx (tlV 4) (tlUn dNeg (tlC (.int 1)))) (tlC (.int 1)))) (tlRel 2 (tlRet (tlLst (tlCons (tlV 2) (tlCons (tlOp dAdd (tlOp dAdd (tlSl (tlV 3) none (some (tlV 6))) (tlRevA (tlSl (tlV 3) (some (tlV 6)) (some (tlV 7))))) (tlSl (tlV 3) (some (tlV 7)) none)) tlNil))))))))
def B_w_led (S1 : ST) : TSt :=
  (tlSq (tlRel 1 (tlFor (tlSeq (tlV 1)) (.nm 2) (tlSet 0 (tlCall [true, true] S1 (tlCons (tlV 0) (tlCons (tlV 2) tlNil)))))) (tlRetV 0))
def B_w_class (S1 : ST) (S2 : ST) (S3 : ST) (S4 : ST) (S5 : ST) (S6 : ST) (S7 : ST) : TSt :=
  (tlSq (tlSet 3 (tlCall [true, true] S1 (tlCons (tlV 0) (tlCons (tlV 1) tlNil)))) (tlSq (tlRel 1 (tlSet 4 (tlCall [true, false] S2 (tlCons (tlV 0) (tlCons (tlV 1) tlNil))))) (tlSq (tlRel 3 (tlPar 5 6 (tlLst (tlCons (tlV 3) (tlCons (tlCall [true, true] S3 (tlCons (tlV 4) (tlCons (tlV 3) tlNil))) tlNil))) (tlCall [true, true] S4 (tlCons (tlV 4) (tlCons (tlV 3) tlNil))))) (tlSq (tlSet 7 (tlLc (tlRng1 (tlV 2)) (.nm 8) tlYes (tlCall [true, true, true] S5 (tlCons (tlV 0) (tlCons (tlV 6) (tlCons (tlC (.int 12)) tlNil)))) [8])) (tlRel 7 (tlRel 6 (tlRel 5 (tlRet (tlLst (tlCons (tlV 5) (tlCons (tlV 6) (tlCons (tlV 7) (tlCons (tlLc (tlSeq (tlV 7)) (.nm 9) tlYes (tlCall [false, true] S6 (tlCons (tlV 5) (tlCons (tlCall [true, true] S7 (tlCons (tlV 0) (tlCons (tlV 9) tlNil))) tlNil))) [9]) tlNil)))))))))))))
def B_w_free (S1 : ST) (S2 : ST) : TSt :=
  (tlSq (tlSet 2 (tlCall [true, true] S1 (tlCons (tlV 0) (tlCons (tlV 1) tlNil)))) (tlRel 2 (tlRet (tlLst (tlCons (tlV 2) (tlCons (tlCall [true, true] S2 (tlCons (tlV 0) (tlCons (tlV 2) tlNil))) tlNil))))))
def B_w_world (S1 : ST) (S2 : ST) (S3 : ST) : TSt :=
  (tlRel 1 (tlRet (tlIfx (tlT (tlOp dEq (tlCall [true, true] S1 (tlCons (tlV 0) (tlCons (tlC (.int 4)) tlNil))) (tlC (.int 0)))) (tlCall [true, true] S2 (tlCons (tlV 0) (tlCons (tlV 1) tlNil))) (tlOp dIx (tlOp dIx (tlCall [true, false, true] S3 (tlCons (tlV 0) (tlCons (tlV 1) (tlCons (tlC (.int 1)) tlNil)))) (tlC (.int 3))) (tlC (.int 0))))))
def B_w_shelf : TSt :=
  (tlRet (tlShelf (tlB dList (tlCons (tlOp dIx (tlV 0) (tlC (.int 0))) tlNil)) (tlB dList (tlCons (tlOp dIx (tlV 0) (tlC (.int 1))) tlNil))))
def B_w_ranks : TSt :=
  (tlRet (tlLc (tlSeq (tlOp dIx (tlV 0) (tlC (.int 1)))) (.nm 1) tlYes (tlIdx (tlOp dIx (tlV 0) (tlC (.int 0))) (tlV 1)) [1]))
def B_w_runs (S1 : ST) : TSt :=
  (tlSq (tlPar 1 2 (tlCall [true] S1 (tlCons (tlV 0) tlNil)) (tlLst tlNil)) (tlSq (tlFor (tlRng1 (tlB dLen (tlCons (tlV 1) tlNil))) (.nm 3) (tlSq (tlPar 4 5 (tlOp dIx (tlV 1) (tlV 3)) (tlOp dIx (tlV 1) (tlV 3))) (tlFor (tlRng2 (tlOp dAdd (tlV 3) (tlC (.int 1))) (tlB dLen (tlCons (tlV 1) tlNil))) (.nm 6) (tlSq (tlPar 4 5 (tlB dMin2 (tlCons (tlV 4) (tlCons (tlOp dIx (tlV 1) (tlV 6)) tlNil))) (tlB dMax2 (tlCons (tlV 5) (tlCons (tlOp dIx (tlV 1) (tlV 6)) tlNil)))) (tlIf (tlT (tlOp dEq (tlOp dSub (tlV 5) (tlV 4)) (tlOp dSub (tlV 6) (tlV 3)))) (tlApp 2 (tlB dTup (tlCons (tlSl (tlOp dIx (tlV 0) (tlC (.int 0))) (some (tlV 4)) (some (tlOp dAdd (tlV 5) (tlC (.int 1))))) tlNil))) tlNx))))) (tlRet (tlB dSortedT (tlCons (tlV 2) tlNil)))))
def B_w_sized (S1 : ST) : TSt :=
  (tlRet (tlIfx (tlT (tlOp dEq (tlCall [true, true] S1 (tlCons (tlV 0) (tlCons (tlC (.int 4)) tlNil))) (tlC (.int 0)))) (tlOp dAdd (tlC (.int 1)) (tlCall [true, true] S1 (tlCons (tlV 0) (tlCons (tlC (.int 12)) tlNil)))) (tlOp dAdd (tlC (.int 2)) (tlCall [true, true] S1 (tlCons (tlV 0) (tlCons (tlC (.int 7)) tlNil))))))
def B_w_stays (S1 : ST) (S2 : ST) : TSt :=
  (tlRet (tlAnd (tlCall [true, true] S1 (tlCons (tlLst (tlCons (tlMeth [true] S_catalogue (tlV 1) tlNil) (tlCons (tlMeth [true] S_row (tlV 1) tlNil) tlNil))) (tlCons (tlLst (tlCons (tlB dList (tlCons (tlOp dIx (tlV 0) (tlC (.int 0))) tlNil)) (tlCons (tlB dList (tlCons (tlOp dIx (tlV 0) (tlC (.int 1))) tlNil)) tlNil))) tlNil))) (tlOp dEqA (tlV 1) (tlCall [true] S2 (tlCons (tlV 0) tlNil)))))
def B_w_strange_books : TSt :=
  (tlRet (tlLc (tlSeq (tlLc (tlSeq (tlB dList (tlCons (tlC (.str "abcdefghijklmnop")) tlNil))) (.nm 2) tlYes (tlOp dAdd (tlC (.str "zzzzzzz")) (tlV 2)) [2])) (.nm 1) (tlT (tlOp dNin (tlV 1) (tlOp dIx (tlV 0) (tlC (.int 0))))) (tlV 1) [1]))
def B_w_some_changes (S1 : ST) (S2 : ST) (S3 : ST) (S4 : ST) (S5 : ST) : TSt :=
  (tlSq (tlUnp [2, 3, 4] (tlTup (tlCons (tlB dList (tlCons (tlOp dIx (tlV 1) (tlC (.int 0))) tlNil)) (tlCons (tlB dLen (tlCons (tlOp dIx (tlV 1) (tlC (.int 0))) tlNil)) (tlCons (tlCall [true] S1 (tlCons (tlV 1) tlNil)) tlNil))))) (tlSq (tlSet 5 (tlLc (tlSeq (tlOp dAdd (tlB dList (tlCons (tlC (.str "abcdefghijklmnopqrstuvwxyz")) tlNil)) (tlLst (tlCons (tlC (.str "ab")) (tlCons (tlC (.str "mm")) (tlCons (tlC (.str "aaaaaaaa")) tlNil)))))) (.nm 6) (tlT (tlOp dNin (tlV 6) (tlV 2))) (tlV 6) [6])) (tlSq (tlSet 7 (tlOp dAdd (tlOp dAdd (tlOp dAdd (tlSl (tlV 4) none (some (tlC (.int 1)))) (tlSl (tlV 5) none (some (tlC (.int 2))))) (tlSl (tlV 5) (some (tlUn dNeg (tlC (.int 2)))) none)) (tlLc (tlSeq (tlCall [true, true] S2 (tlCons (tlV 0) (tlCons (tlC (.int 4)) tlNil)))) (.nm 6) (tlT (tlOp dNin (tlV 6) (tlV 2))) (tlV 6) [6]))) (tlSq (tlSet 8 (tlLc (tlRng1 (tlC (.int 2))) (.nm 9) tlYes (tlTup (tlCons (tlC (.str "put")) (tlCons (tlCall [true, true] S3 (tlCons (tlV 0) (tlCons (tlV 7) tlNil))) (tlCons (tlCall [true, true] S4 (tlCons (tlV 0) (tlCons (tlOp dAdd (tlV 3) (tlC (.int 1))) tlNil))) (tlCons (tlCall [true, true] S4 (tlCons (tlV 0) (tlCons (tlOp dAdd (tlV 3) (tlC (.int 1))) tlNil))) tlNil))))) [9])) (tlSq (tlFor (tlRng1 (tlC (.int 2))) (.nm 9) (tlSq (tlSet 10 (tlCall [true, true] S3 (tlCons (tlV 0) (tlCons (tlV 2) tlNil)))) (tlSq (tlRel 10 (tlSet 8 (tlOp dAdd (tlV 8) (tlIfx (tlT (tlOp dGt (tlV 3) (tlC (.int 1)))) (tlLst (tlCons (tlTup (tlCons (tlC (.str "out")) (tlCons (tlV 10) tlNil))) tlNil)) (tlLst tlNil))))) (tlSq (tlPar 11 12 (tlCall [true, true] S4 (tlCons (tlV 0) (tlCons (tlV 3) tlNil))) (tlCall [true, true] S4 (tlCons (tlV 0) (tlCons (tlV 3) tlNil)))) (tlSq (tlRel 11 (tlRel 10 (tlSet 8 (tlOp dAdd (tlV 8) (tlIfx (tlT (tlOp dNe (tlIdx (tlOp dIx (tlV 1) (tlC (.int 1))) (tlV 10)) (tlV 11))) (tlLst (tlCons (tlTup (tlCons (tlC (.str "move")) (tlCons (tlV 10) (tlCons (tlV 11) tlNil)))) tlNil)) (tlLst tlNil)))))) (tlRel 12 (tlRel 10 (tlSet 8 (tlOp dAdd (tlV 8) (tlIfx (tlT (tlOp dNe (tlIdx (tlOp dIx (tlV 1) (tlC (.int 0))) (tlV 10)) (tlV 12))) (tlLst (tlCons (tlTup (tlCons (tlC (.str "list")) (tlCons (tlV 10) (tlCons (tlV 12) tlNil)))) tlNil)) (tlLst tlNil))))))))))) (tlRet (tlCall [true, true] S5 (tlCons (tlV 0) (tlCons (tlIfx (tlT (tlOp dLt (tlV 3) (tlC (.int 12)))) (tlV 8) (tlLc (tlSeq (tlV 8)) (.nm 13) (tlT (tlOp dNe (tlOp dIx (tlV 13) (tlC (.int 0))) (tlC (.str "put")))) (tlV 13) [13])) tlNil)))))))))
def B_w_changed : TSt :=
  (tlSq (tlRel 1 (tlUnp [2, 3] (tlSl (tlV 1) none (some (tlC (.int 2)))))) (tlSq (tlPar 4 5 (tlLc (tlSeq (tlOp dIx (tlV 0) (tlC (.int 0)))) (.nm 6) (tlT (tlOp dNeA (tlV 6) (tlV 3))) (tlV 6) [6]) (tlLc (tlSeq (tlOp dIx (tlV 0) (tlC (.int 1)))) (.nm 6) (tlT (tlOp dNeA (tlV 6) (tlV 3))) (tlV 6) [6])) (tlSq (tlIf (tlT (tlOp dEq (tlV 2) (tlC (.str "put")))) (tlRel 3 (tlRet (tlLst (tlCons (tlOp dAdd (tlOp dAdd (tlSl (tlV 4) none (some (tlOp dIx (tlV 1) (tlC (.int 2))))) (tlLst (tlCons (tlV 3) tlNil))) (tlSl (tlV 4) (some (tlOp dIx (tlV 1) (tlC (.int 2)))) none)) (tlCons (tlOp dAdd (tlOp dAdd (tlSl (tlV 5) none (some (tlOp dIx (tlV 1) (tlC (.int 3))))) (tlLst (tlCons (tlV 3) tlNil))) (tlSl (tlV 5) (some (tlOp dIx (tlV 1) (tlC (.int 3)))) none)) tlNil))))) tlNx) (tlSq (tlIf (tlT (tlOp dEq (tlV 2) (tlC (.str "out")))) (tlRel 5 (tlRel 4 (tlRet (tlLst (tlCons (tlV 4) (tlCons (tlV 5) tlNil)))))) tlNx) (tlSq (tlIf (tlT (tlOp dEq (tlV 2) (tlC (.str "move")))) (tlRel 3 (tlRet (tlLst (tlCons (tlB dList (tlCons (tlOp dIx (tlV 0) (tlC (.int 0))) tlNil)) (tlCons (tlOp dAdd (tlOp dAdd (tlSl (tlV 5) none (some (tlOp dIx (tlV 1) (tlC (.int 2))))) (tlLst (tlCons (tlV 3) tlNil))) (tlSl (tlV 5) (some (tlOp dIx (tlV 1) (tlC (.int 2)))) none)) tlNil))))) tlNx) (tlRel 3 (tlRet (tlLst (tlCons (tlOp dAdd (tlOp dAdd (tlSl (tlV 4) none (some (tlOp dIx (tlV 1) (tlC (.int 2))))) (tlLst (tlCons (tlV 3) tlNil))) (tlSl (tlV 4) (some (tlOp dIx (tlV 1) (tlC (.int 2)))) none)) (tlCons (tlB dList (tlCons (tlOp dIx (tlV 0) (tlC (.int 1))) tlNil)) tlNil))))))))))
def B_w_lots_of_run : TSt :=
  (tlSq (tlSet 2 (tlLc (tlSeq (tlV 0)) (.nm 3) (tlOrT (tlT (tlOp dNe (tlOp dIx (tlV 1) (tlC (.int 0))) (tlC (.str "out")))) (tlT (tlOp dNeA (tlV 3) (tlOp dIx (tlV 1) (tlC (.int 1)))))) (tlV 3) [3])) (tlRet (tlOp dAdd (tlLst (tlCons (tlB dSortedT (tlCons (tlV 2) tlNil)) tlNil)) (tlIfx (tlT (tlOp dEq (tlOp dIx (tlV 1) (tlC (.int 0))) (tlC (.str "put")))) (tlLst (tlCons (tlB dSortedT (tlCons (tlOp dAdd (tlV 2) (tlLst (tlCons (tlOp dIx (tlV 1) (tlC (.int 1))) tlNil))) tlNil)) tlNil)) (tlLst tlNil)))))
def B_w_stays_right (S1 : ST) (S2 : ST) (S3 : ST) (S4 : ST) (S5 : ST) (S6 : ST) (S7 : ST) (S8 : ST) (S9 : ST) (S10 : ST) (S11 : ST) (S12 : ST) (S13 : ST) : TSt :=
  (tlSq (tlPar 2 3 (tlCall [true] S1 (tlCons (tlV 1) tlNil)) (tlCall [true] S2 (tlCons (tlV 1) tlNil))) (tlSq (tlPar 4 5 (tlSl (tlCall [true, true] S3 (tlCons (tlV 0) (tlCons (tlV 1) tlNil))) none (some (tlC (.int 5)))) (tlLst tlNil)) (tlSq (tlRel 4 (tlFor (tlSeq (tlV 4)) (.nm 6) (tlRel 6 (tlApp 5 (tlLst (tlCons (tlCall [true, false] S4 (tlCons (tlV 2) (tlCons (tlV 6) tlNil))) (tlCons (tlCall [true, false] S5 (tlCons (tlV 2) (tlCons (tlV 6) tlNil))) (tlCons (tlCall [true, false] S6 (tlCons (tlV 2) (tlCons (tlV 6) tlNil))) tlNil)))))))) (tlSq (tlRel 5 (tlSet 7 (tlCall [false] S7 (tlCons (tlV 5) tlNil)))) (tlSq (tlFor (tlSeq (tlRevA (tlV 4))) (.nm 6) (tlRel 6 (tlSet 5 (tlOp dAdd (tlV 5) (tlLst (tlCons (tlLst (tlCons (tlCall [true, false] S4 (tlCons (tlV 2) (tlCons (tlV 6) tlNil))) (tlCons (tlCall [true, false] S5 (tlCons (tlV 2) (tlCons (tlV 6) tlNil))) (tlCons (tlCall [true, false] S6 (tlCons (tlV 2) (tlCons (tlV 6) tlNil))) tlNil)))) tlNil)))))) (tlSq (tlIf (tlNotT (tlT (tlCall [true, true] S8 (tlCons (tlV 5) (tlCons (tlOp dAdd (tlV 7) (tlRevA (tlV 7))) tlNil))))) (tlRet (tlC (.bl false))) tlNx) (tlSq (tlRel 4 (tlFor (tlSeq (tlV 4)) (.nm 6) (tlSq (tlRel 6 (tlSet 8 (tlCall [true, false] S9 (tlCons (tlV 1) (tlCons (tlV 6) tlNil))))) (tlSq (tlSet 9 (tlCall [true] S2 (tlCons (tlV 8) tlNil))) (tlSq (tlPar 10 11 (tlLc (tlSeq (tlV 9)) (.nm 12) tlYes (tlB dSortedT (tlCons (tlV 12) tlNil)) [12]) (tlLst tlNil)) (tlSq (tlRel 3 (tlFor (tlSeq (tlV 3)) (.nm 12) (tlSet 11 (tlOp dAdd (tlV 11) (tlCall [true, true] S10 (tlCons (tlV 12) (tlCons (tlV 6) tlNil))))))) (tlSq (tlSet 13 (tlLc (tlSeq (tlV 3)) (.nm 12) (tlT (tlB dAny (tlCons (tlLc (tlSeq (tlCall [true, true] S10 (tlCons (tlV 12) (tlCons (tlV 6) tlNil)))) (.nm 14) tlYes (tlOp dInA (tlV 14) (tlV 10)) [14]) tlNil))) (tlV 12) [12])) (tlSq (tlPar 15 16 (tlLc (tlSeq (tlV 3)) (.nm 12) (tlT (tlOp dNin (tlV 12) (tlV 13))) (tlV 12) [12]) (tlLc (tlSeq (tlV 9)) (.nm 12) (tlT (tlOp dNin (tlB dSortedT (tlCons (tlV 12) tlNil)) (tlV 11))) (tlV 12) [12])) (tlRel 16 (tlRel 15 (tlRel 13 (tlRel 6 (tlNest 17 (tlCons (tlCall [true, false] S4 (tlCons (tlV 2) (tlCons (tlV 6) tlNil))) (tlCons (tlCall [true, false] S5 (tlCons (tlV 2) (tlCons (tlV 6) tlNil))) (tlCons (tlCall [true, false] S6 (tlCons (tlV 2) (tlCons (tlV 6) tlNil))) tlNil))) (n1If 17 (tlNotT (tlT (tlCall [true, true] S8 (tlCons (tlV 17) (tlCons (tlLst (tlCons (tlV 13) (tlCons (tlV 15) (tlCons (tlV 16) tlNil)))) tlNil))))) (n1If 17 (tlAndT (tlT (tlOp dEq (tlOp dIx (tlV 6) (tlC (.int 0))) (tlC (.str "out")))) (tlT (tlOp dNe (tlV 15) (tlLc (tlSeq (tlV 3)) (.nm 12) (tlAndT (tlT (tlOp dEq (tlB dLen (tlCons (tlV 12) tlNil)) (tlC (.int 2)))) (tlT (tlOp dInA (tlOp dIx (tlV 6) (tlC (.int 1))) (tlV 12)))) (tlV 12) [12])))) (n1If 17 (tlAndT (tlT (tlOp dEq (tlOp dIx (tlV 6) (tlC (.int 0))) (tlC (.str "put")))) (tlNotT (tlT (tlB dAll (tlCons (tlLc (tlSeq (tlV 16)) (.nm 12) tlYes (tlAnd (tlOp dEq (tlB dLen (tlCons (tlV 12) tlNil)) (tlC (.int 2))) (tlOp dInA (tlOp dIx (tlV 6) (tlC (.int 1))) (tlV 12))) [12]) tlNil))))) (n1Go (n2All 17 18 (n2End (tlSq (tlRel 16 (tlRel 15 (tlRel 13 (tlRel 6 (tlIf (tlNotT (tlT (tlCall [true, true] S8 (tlCons (tlLst (tlCons (tlCall [true, false] S4 (tlCons (tlV 2) (tlCons (tlV 6) tlNil))) (tlCons (tlCall [true, false] S5 (tlCons (tlV 2) (tlCons (tlV 6) tlNil))) (tlCons (tlCall [true, false] S6 (tlCons (tlV 2) (tlCons (tlV 6) tlNil))) tlNil)))) (tlCons (tlLst (tlCons (tlV 13) (tlCons (tlV 15) (tlCons (tlV 16) tlNil)))) tlNil))))) (tlRet (tlC (.bl false))) tlNx))))) (tlRel 6 (tlIf (tlNotT (tlT (tlCall [true, true] S8 (tlCons (tlCall [true] S11 (tlCons (tlCall [true, false] S12 (tlCons (tlV 2) (tlCons (tlV 6) tlNil))) tlNil)) (tlCons (tlV 9) tlNil))))) (tlRet (tlC (.bl false))) tlNx)))))))))))))))))))))) (tlRet (tlCall [true, true] S13 (tlCons (tlV 1) (tlCons (tlV 2) tlNil)))))))))))
def B_w_all_outs (S1 : ST) (S2 : ST) (S3 : ST) (S4 : ST) : TSt :=
  (tlSq (tlPar 1 2 (tlCall [true] S1 (tlCons (tlV 0) tlNil)) (tlCall [true] S2 (tlCons (tlV 0) tlNil))) (tlSq (tlFor (tlSeq (tlIfx (tlT (tlOp dGt (tlB dLen (tlCons (tlOp dIx (tlV 0) (tlC (.int 0))) tlNil)) (tlC (.int 1)))) (tlOp dIx (tlV 0) (tlC (.int 0))) (tlLst tlNil))) (.nm 3) (tlSq (tlSet 4 (tlLc (tlSeq (tlV 2)) (.nm 5) (tlAndT (tlT (tlOp dEq (tlB dLen (tlCons (tlV 5) tlNil)) (tlC (.int 2)))) (tlT (tlOp dInA (tlV 3) (tlV 5)))) (tlV 5) [5])) (tlRel 3 (tlIf (tlNotT (tlT (tlCall [true, true] S3 (tlCons (tlCall [true, false] S4 (tlCons (tlV 1) (tlCons (tlTup (tlCons (tlC (.str "out")) (tlCons (tlV 3) tlNil))) tlNil))) (tlCons (tlV 4) tlNil))))) (tlRet (tlC (.bl false))) tlNx)))) (tlRet (tlC (.bl true)))))
end TL

-- Dv
set_option Elab.async false
set_option linter.all false
set_option maxRecDepth 100000
set_option maxHeartbeats 4100000
namespace LW
open L2 PyProof.Rows PySem PySem.Spec TS TL TMin RZ
section
variable {P : Program} {w : World} {K : PySem.W.Frag} {mg : Str → Option Value} {base : Heap} {C : Addr}
abbrev st_is_count : Stmt := top 1
abbrev nn_is_count : List Str := ["value"]
theorem sc_is_count : FnScope nn_is_count ["value"] (defScope st_is_count) := ⟨rfl, rfl, rfl, by decide +kernel, rfl, by decide +kernel, by decide +kernel⟩
theorem has_is_count {S : ST} (M : Nm mg) (L : ShL P w K mg base C) (r : RawF K mg "is_count" st_is_count)
    (tree : ∀ ds n R, S ds n R → B_is_count (ends R) (slots [true] ds 0) n) : Has P w K mg base C 1 "is_count" ["value"] [true] S := by
  obtain ⟨f, fd, m0, F⟩ := r
  obtain ⟨fi, fq, fc, fr, fdi, fdq, fdc, fdr, T, gS, Fi, bi, Fq, bq, Fc, bc, Fr, br, I⟩ := L.x
  refine ⟨f, fd, def_ok F sc_is_count rfl (fun cdv A outer s H E hr => ?_) tree, m0, F.kp, F.binds fun _ _ _ _ _ _ us hl => match us, hl with | [_], _ => rfl⟩
  have hu := units62 hr
  exact ⟨_, (pss_one (ps_ret (pe_and (pe_callB call_isi (by rfl) M.isinstance b_isinstance (pa_cons (pv 0) (pa_cons (pe_bltn (v := .ty "int") rfl M.int b_int rfl) pa_nil))) (pe_and (pe_not (pe_callB call_isi (by rfl) M.isinstance b_isinstance (pa_cons (pv 0) (pa_cons (pe_bltn (v := .ty "bool") rfl M.bool b_bool rfl) pa_nil)))) (pe_one (pe_cmpR op_ge (pv 0) pe_int (by first | exact nomark _ | rfl))))))), (rs_ret fun Z => (re_and (re_isB I (by decide) re_v) (re_and (re_not (re_isB I (by decide) re_v)) (re_op r2_ge re_v re_int))))⟩
abbrev st_is_change : Stmt := top 19
abbrev nn_is_change : List Str := ["value", "behind", "number"]
theorem sc_is_change : FnScope nn_is_change ["value"] (defScope st_is_change) := ⟨rfl, rfl, rfl, by decide +kernel, rfl, by decide +kernel, by decide +kernel⟩
theorem has_is_change {S S1 S2 : ST} (M : Nm mg) (L : ShL P w K mg base C) (T_COUNTS_BEHIND : KDs w K mg "COUNTS_BEHIND" tab_COUNTS_BEHIND) (r : RawF K mg "is_change" st_is_change) (h1 : Has P w K mg base C 1 "is_book" ["value"] [true] S1) (h2 : Has P w K mg base C 1 "is_count" ["value"] [true] S2)
    (tree : ∀ ds n R, S ds n R → B_is_change S1 S2 (ends R) (slots [false] ds 2) n) : Has P w K mg base C 2 "is_change" ["value"] [false] S := by
  obtain ⟨f, fd, m0, F⟩ := r
  obtain ⟨fi, fq, fc, fr, fdi, fdq, fdc, fdr, T, gS, Fi, bi, Fq, bq, Fc, bc, Fr, br, I⟩ := L.x
  obtain ⟨f1, fd1, F1, m1, k1, b1⟩ := h1
  obtain ⟨f2, fd2, F2, m2, k2, b2⟩ := h2
  obtain ⟨a_COUNTS_BEHIND, m_COUNTS_BEHIND, K_COUNTS_BEHIND⟩ := T_COUNTS_BEHIND
  refine ⟨f, fd, def_ok F sc_is_change rfl (fun cdv A outer s H E hr => ?_) tree, m0, F.kp, F.binds fun _ _ _ _ _ _ us hl => match us, hl with | [_], _ => rfl⟩
  have hu := units62 hr
  exact ⟨_, (pss_cons (ps_if (PW.pt (pw_or (pt_not (pt_val (pe_callB call_isi (by rfl) M.isinstance b_isinstance (pa_cons (pv 0) (pa_cons (pe_bltn (v := .ty "tuple") rfl M.tuple b_tuple rfl) pa_nil))))) (pw_or (pt_cmpR op_ltA (pe_callB call_lenA (by rfl) M.len b_len (pa_cons (pv 0) pa_nil)) pe_int (by first | exact nomark _ | rfl)) (pw_or1 (pt_not (pt_val (pe_callB call_isi (by rfl) M.isinstance b_isinstance (pa_cons (pe_ix ix_any (pv 0) pe_int (fun _ _ => rfl)) (pa_cons (pe_bltn (v := .ty "str") rfl M.str b_str rfl) pa_nil))))))))) (pss_one (ps_ret pe_bl)) pss_nil) (pss_cons (ps_set (i := 1) sc_is_change.nd rfl (Or.inl rfl) (pe_kget K_COUNTS_BEHIND (pe_glob (v := .ref a_COUNTS_BEHIND) rfl m_COUNTS_BEHIND rfl) (pe_ix ix_any (pv 0) pe_int (fun _ _ => rfl)) ⟨rfl, rfl, rfl, rfl⟩)) (pss_cons (ps_if (PW.pt (pw_or (pt_cmpR op_isN (pv 1) pe_non (by first | exact nomark _ | rfl)) (pw_or (pt_cmpR (op_neP hu) (pe_callB call_lenA (by rfl) M.len b_len (pa_cons (pv 0) pa_nil)) (pe_op op_addA pe_int (pv 1)) (by first | exact nomark _ | rfl)) (pw_or1 (pt_not (pt_val (pe_call F1 (hr.mono (by first | decide | omega)) rfl m1 k1 b1 .nil pass0 (pa_cons (pe_ix ix_any (pv 0) pe_int (fun _ _ => rfl)) pa_nil)))))))) (pss_one (ps_ret pe_bl)) pss_nil) (pss_one (ps_ret (pe_callB (cr_all rfl) (by rfl) M.all b_all (pa_cons (pe_lc (own := [("number", 2)]) rfl sc_is_change.nd (pi_seq (pe_slice sl_any (pv 0) (po_some pe_int) po_none)) (blkOk_by (N := nn_is_change) (sc := defScope st_is_change) (by decide +kernel)) (fun _ _ _ _ _ => (pg_name (i := 2) sc_is_change.nd rfl (Or.inl rfl))) (fun _ _ _ _ _ => pts_nil) (fun _ _ _ _ _ => (pe_call F2 (hr.mono (by first | decide | omega)) (by rfl) m2 k2 b2 .nil pass0 (pa_cons (pv 2) pa_nil)))) pa_nil))))))), (rs_sq (rs_if (fun Z => (rt_or (rt_not (rt_v (re_isB I (by decide) re_v))) (rt_or (rt_c (re_op r2_lt (re_cb rn_len (ra_cons re_v ra_nil)) re_int)) (rt_not (rt_v (re_isB I (by decide) (re_op r2_ix re_v re_int))))))) (rs_ret fun Z => re_bl) rs_nx) (rs_sq (rs_set fun Z => (re_kget (re_op r2_ix re_v re_int))) (rs_sq (rs_if (fun Z => (rt_or (rt_c (re_op r2_isN re_v re_non)) (rt_or (rt_c (re_op r2_ne (re_cb rn_len (ra_cons re_v ra_nil)) (re_op r2_add re_int re_v))) (rt_not (rt_v (re_call (ra_cons (re_op r2_ix re_v re_int) ra_nil))))))) (rs_ret fun Z => re_bl) rs_nx) (rs_rel 0 (rs_ret fun Z => (re_cb rn_all (ra_cons (re_lc (ri_seq (re_sl re_v (ro_some re_int) ro_none)) rg_nm (by decide) (fun Z => rt_yes) (fun Z => (re_call (ra_cons re_v ra_nil)))) ra_nil)))))))⟩
abbrev st_fits : Stmt := top 20
abbrev nn_fits : List Str := ["shelf", "change", "word", "book", "row", "order"]
theorem sc_fits : FnScope nn_fits ["shelf", "change"] (defScope st_fits) := ⟨rfl, rfl, rfl, by decide +kernel, rfl, by decide +kernel, by decide +kernel⟩
theorem has_fits {S : ST} (M : Nm mg) (L : ShL P w K mg base C) (r : RawF K mg "fits" st_fits)
    (tree : ∀ ds n R, S ds n R → B_fits (ends R) (slots [true, true] ds 4) n) : Has P w K mg base C 3 "fits" ["shelf", "change"] [true, true] S := by
  obtain ⟨f, fd, m0, F⟩ := r
  obtain ⟨fi, fq, fc, fr, fdi, fdq, fdc, fdr, T, gS, Fi, bi, Fq, bq, Fc, bc, Fr, br, I⟩ := L.x
  refine ⟨f, fd, def_ok F sc_fits rfl (fun cdv A outer s H E hr => ?_) tree, m0, F.kp, F.binds fun _ _ _ _ _ _ us hl => match us, hl with | [_, _], _ => rfl⟩
  have hu := units62 hr
  exact ⟨_, (pss_cons (ps_par (i := 2) (j := 3) rfl sc_fits.nd rfl rfl (by decide) rfl rfl (pa_cons (pe_ix ix_any (pv 1) pe_int (fun _ _ => rfl)) (pa_cons (pe_ix ix_any (pv 1) pe_int (fun _ _ => rfl)) pa_nil)) rfl) (pss_cons (ps_set (i := 4) sc_fits.nd rfl (Or.inl rfl) (pe_meth0 (pv 0) T.cl T.mr Fr (hr.mono (by first | decide | omega)) br .nil pass0)) (pss_cons (ps_if (pt_cmpR (op_eqP hu) (pv 2) pe_str (by first | exact nomark _ | rfl)) (pss_one (ps_ret (pe_and (pe_cmpR (op_ninP hu) (pv 3) (pv 4) (by first | exact nomark _ | rfl)) (pe_and (pe_cmpR op_le (pe_ix ix_any (pv 1) pe_int (fun _ _ => rfl)) (pe_callB call_lenA (by rfl) M.len b_len (pa_cons (pv 4) pa_nil)) (by first | exact nomark _ | rfl)) (pe_one (pe_cmpR op_le (pe_ix ix_any (pv 1) pe_int (fun _ _ => rfl)) (pe_callB call_lenA (by rfl) M.len b_len (pa_cons (pv 4) pa_nil)) (by first | exact nomark _ | rfl))))))) pss_nil) (pss_cons (ps_if (pt_cmpR (op_ninP hu) (pv 3) (pv 4) (by first | exact nomark _ | rfl)) (pss_one (ps_ret pe_bl)) pss_nil) (pss_cons (ps_if (pt_cmpR (op_eqP hu) (pv 2) pe_str (by first | exact nomark _ | rfl)) (pss_one (ps_ret (pe_cmpR op_gt (pe_callB call_lenA (by rfl) M.len b_len (pa_cons (pv 4) pa_nil)) pe_int (by first | exact nomark _ | rfl)))) pss_nil) (pss_cons (ps_set (i := 5) sc_fits.nd rfl (Or.inl rfl) (pe_ifExp (pt_cmpR (op_eqP hu) (pv 2) pe_str (by first | exact nomark _ | rfl)) (pv 4) (pe_meth0 (pv 0) T.cl T.mc Fc (hr.mono (by first | decide | omega)) bc .nil pass0))) (pss_one (ps_ret (pe_and (pe_cmpR op_ltA (pe_ix ix_any (pv 1) pe_int (fun _ _ => rfl)) (pe_callB call_lenA (by rfl) M.len b_len (pa_cons (pv 5) pa_nil)) (by first | exact nomark _ | rfl)) (pe_one (pe_cmpR (op_neA hu Fq T.eq (hr.mono (by first | decide | omega)) bq) (pe_ix ix_any (pv 5) (pe_ix ix_any (pv 1) pe_int (fun _ _ => rfl)) (fun _ _ => rfl)) (pv 3) (by first | exact nomark _ | rfl)))))))))))), (rs_sq (rs_par (fun Z => (re_op r2_ix re_v re_int)) (fun Z => (re_op r2_ix re_v re_int))) (rs_sq (rs_set fun Z => (re_meth rfl rfl re_v ra_nil)) (rs_sq (rs_if (fun Z => (rt_c (re_op r2_eq re_v re_str))) (rs_ret fun Z => (re_and (re_op r2_nin re_v re_v) (re_and (re_op r2_le (re_op r2_ix re_v re_int) (re_cb rn_len (ra_cons re_v ra_nil))) (re_op r2_le (re_op r2_ix re_v re_int) (re_cb rn_len (ra_cons re_v ra_nil)))))) rs_nx) (rs_sq (rs_if (fun Z => (rt_c (re_op r2_nin re_v re_v))) (rs_ret fun Z => re_bl) rs_nx) (rs_sq (rs_if (fun Z => (rt_c (re_op r2_eq re_v re_str))) (rs_ret fun Z => (re_op r2_gt (re_cb rn_len (ra_cons re_v ra_nil)) re_int)) rs_nx) (rs_sq (rs_rel 4 (rs_set fun Z => (re_ifx (rt_c (re_op r2_eq re_v re_str)) re_v (re_meth rfl rfl re_v ra_nil)))) (rs_ret fun Z => (re_and (re_op r2_lt (re_op r2_ix re_v re_int) (re_cb rn_len (ra_cons re_v ra_nil))) (re_op (r2_neA I) (re_op r2_ix re_v (re_op r2_ix re_v re_int)) re_v)))))))))⟩
abbrev st_books_without : Stmt := top 21
abbrev nn_books_without : List Str := ["books", "book", "one"]
theorem sc_books_without : FnScope nn_books_without ["books", "book"] (defScope st_books_without) := ⟨rfl, rfl, rfl, by decide +kernel, rfl, by decide +kernel, by decide +kernel⟩
theorem has_books_without {S : ST} (M : Nm mg) (L : ShL P w K mg base C) (r : RawF K mg "books_without" st_books_without)
    (tree : ∀ ds n R, S ds n R → B_books_without (ends R) (slots [true, true] ds 1) n) : Has P w K mg base C 3 "books_without" ["books", "book"] [true, true] S := by
  obtain ⟨f, fd, m0, F⟩ := r
  obtain ⟨fi, fq, fc, fr, fdi, fdq, fdc, fdr, T, gS, Fi, bi, Fq, bq, Fc, bc, Fr, br, I⟩ := L.x
  refine ⟨f, fd, def_ok F sc_books_without rfl (fun cdv A outer s H E hr => ?_) tree, m0, F.kp, F.binds fun _ _ _ _ _ _ us hl => match us, hl with | [_, _], _ => rfl⟩
  have hu := units62 hr
  exact ⟨_, (pss_one (ps_ret (pe_lc (own := [("one", 2)]) rfl sc_books_without.nd (pi_seq (pv 0)) (blkOk_by (N := nn_books_without) (sc := defScope st_books_without) (by decide +kernel)) (fun _ _ _ _ _ => (pg_name (i := 2) sc_books_without.nd rfl (Or.inl rfl))) (fun _ _ _ _ _ => (pts_one (pt_cmpR (op_neA hu Fq T.eq (hr.mono (by first | decide | omega)) bq) (pv 2) (pv 1) (by first | exact nomark _ | rfl)))) (fun _ _ _ _ _ => (pv 2))))), (rs_ret fun Z => (re_lc (ri_seq re_v) rg_nm (by decide) (fun Z => (rt_c (re_op (r2_neA I) re_v re_v))) (fun Z => re_v)))⟩
abbrev st_books_with_at : Stmt := top 22
abbrev nn_books_with_at : List Str := ["books", "book", "at"]
theorem sc_books_with_at : FnScope nn_books_with_at ["books", "book", "at"] (defScope st_books_with_at) := ⟨rfl, rfl, rfl, by decide +kernel, rfl, by decide +kernel, by decide +kernel⟩
theorem has_books_with_at {S : ST} (M : Nm mg) (r : RawF K mg "books_with_at" st_books_with_at)
    (tree : ∀ ds n R, S ds n R → B_books_with_at (ends R) (slots [true, false, true] ds 0) n) : Has P w K mg base C 1 "books_with_at" ["books", "book", "at"] [true, false, true] S := by
  obtain ⟨f, fd, m0, F⟩ := r
  refine ⟨f, fd, def_ok F sc_books_with_at rfl (fun cdv A outer s H E hr => ?_) tree, m0, F.kp, F.binds fun _ _ _ _ _ _ us hl => match us, hl with | [_, _, _], _ => rfl⟩
  have hu := units62 hr
  exact ⟨_, (pss_one (ps_ret (pe_op op_addA (pe_op op_addA (pe_slice sl_any (pv 0) po_none (po_some (pv 2))) (pe_lst (pa_cons (pv 1) pa_nil))) (pe_slice sl_any (pv 0) (po_some (pv 2)) po_none)))), (rs_rel 1 (rs_ret fun Z => (re_op r2_add (re_op r2_add (re_sl re_v ro_none (ro_some re_v)) (re_lst (ra_cons re_v ra_nil))) (re_sl re_v (ro_some re_v) ro_none))))⟩
abbrev st_u_made : Stmt := top 23
abbrev nn_u_made : List Str := ["shelf", "change", "word", "book", "catalogue", "row"]
theorem sc_u_made : FnScope nn_u_made ["shelf", "change"] (defScope st_u_made) := ⟨rfl, rfl, rfl, by decide +kernel, rfl, by decide +kernel, by decide +kernel⟩
theorem has_u_made {S S1 S2 : ST} (M : Nm mg) (L : ShL P w K mg base C) (r : RawF K mg "_made" st_u_made) (h1 : Has P w K mg base C 1 "books_with_at" ["books", "book", "at"] [true, false, true] S1) (h2 : Has P w K mg base C 3 "books_without" ["books", "book"] [true, true] S2)
    (tree : ∀ ds n R, S ds n R → B_u_made S1 S2 (ends R) (slots [true, true] ds 4) n) : Has P w K mg base C 6 "_made" ["shelf", "change"] [true, true] S := by
  obtain ⟨f, fd, m0, F⟩ := r
  obtain ⟨fi, fq, fc, fr, fdi, fdq, fdc, fdr, T, gS, Fi, bi, Fq, bq, Fc, bc, Fr, br, I⟩ := L.x
  obtain ⟨f1, fd1, F1, m1, k1, b1⟩ := h1
  obtain ⟨f2, fd2, F2, m2, k2, b2⟩ := h2
  refine ⟨f, fd, def_ok F sc_u_made rfl (fun cdv A outer s H E hr => ?_) tree, m0, F.kp, F.binds fun _ _ _ _ _ _ us hl => match us, hl with | [_, _], _ => rfl⟩
  have hu := units62 hr
  exact ⟨_, (pss_cons (ps_asg (pe_tup (pa_cons (pe_ix ix_any (pv 1) pe_int (fun _ _ => rfl)) (pa_cons (pe_ix ix_any (pv 1) pe_int (fun _ _ => rfl)) (pa_cons (pe_meth0 (pv 0) T.cl T.mc Fc (hr.mono (by first | decide | omega)) bc .nil pass0) (pa_cons (pe_meth0 (pv 0) T.cl T.mr Fr (hr.mono (by first | decide | omega)) br .nil pass0) pa_nil))))) (pg_un rfl (pgs_cons (pg_name (i := 2) sc_u_made.nd rfl (Or.inl rfl)) (pgs_cons (pg_name (i := 3) sc_u_made.nd rfl (Or.inl rfl)) (pgs_cons (pg_name (i := 4) sc_u_made.nd rfl (Or.inl rfl)) (pgs_cons (pg_name (i := 5) sc_u_made.nd rfl (Or.inl rfl)) pgs_nil)))))) (pss_cons (ps_if (pt_cmpR (op_eqP hu) (pv 2) pe_str (by first | exact nomark _ | rfl)) (pss_one (ps_ret (pe_make T.makes Fi (hr.mono (by first | decide | omega)) rfl gS bi .nil pass0 (pa_cons (pe_call F1 (hr.mono (by first | decide | omega)) rfl m1 k1 b1 .nil pass0 (pa_cons (pv 4) (pa_cons (pv 3) (pa_cons (pe_ix ix_any (pv 1) pe_int (fun _ _ => rfl)) pa_nil)))) (pa_cons (pe_call F1 (hr.mono (by first | decide | omega)) rfl m1 k1 b1 .nil pass0 (pa_cons (pv 5) (pa_cons (pv 3) (pa_cons (pe_ix ix_any (pv 1) pe_int (fun _ _ => rfl)) pa_nil)))) pa_nil))))) pss_nil) (pss_cons (ps_if (pt_cmpR (op_eqP hu) (pv 2) pe_str (by first | exact nomark _ | rfl)) (pss_one (ps_ret (pe_make T.makes Fi (hr.mono (by first | decide | omega)) rfl gS bi .nil pass0 (pa_cons (pe_call F2 (hr.mono (by first | decide | omega)) rfl m2 k2 b2 .nil pass0 (pa_cons (pv 4) (pa_cons (pv 3) pa_nil))) (pa_cons (pe_call F2 (hr.mono (by first | decide | omega)) rfl m2 k2 b2 .nil pass0 (pa_cons (pv 5) (pa_cons (pv 3) pa_nil))) pa_nil))))) pss_nil) (pss_cons (ps_if (pt_cmpR (op_eqP hu) (pv 2) pe_str (by first | exact nomark _ | rfl)) (pss_one (ps_ret (pe_make T.makes Fi (hr.mono (by first | decide | omega)) rfl gS bi .nil pass0 (pa_cons (pv 4) (pa_cons (pe_call F1 (hr.mono (by first | decide | omega)) rfl m1 k1 b1 .nil pass0 (pa_cons (pe_call F2 (hr.mono (by first | decide | omega)) rfl m2 k2 b2 .nil pass0 (pa_cons (pv 5) (pa_cons (pv 3) pa_nil))) (pa_cons (pv 3) (pa_cons (pe_ix ix_any (pv 1) pe_int (fun _ _ => rfl)) pa_nil)))) pa_nil))))) pss_nil) (pss_one (ps_ret (pe_make T.makes Fi (hr.mono (by first | decide | omega)) rfl gS bi .nil pass0 (pa_cons (pe_call F1 (hr.mono (by first | decide | omega)) rfl m1 k1 b1 .nil pass0 (pa_cons (pe_call F2 (hr.mono (by first | decide | omega)) rfl m2 k2 b2 .nil pass0 (pa_cons (pv 4) (pa_cons (pv 3) pa_nil))) (pa_cons (pv 3) (pa_cons (pe_ix ix_any (pv 1) pe_int (fun _ _ => rfl)) pa_nil)))) (pa_cons (pv 5) pa_nil))))))))), (rs_sq (rs_un rfl (fun Z => (re_tup (ra_cons (re_op r2_ix re_v re_int) (ra_cons (re_op r2_ix re_v re_int) (ra_cons (re_meth rfl rfl re_v ra_nil) (ra_cons (re_meth rfl rfl re_v ra_nil) ra_nil))))))) (rs_sq (rs_if (fun Z => (rt_c (re_op r2_eq re_v re_str))) (rs_rel 3 (rs_ret fun Z => (re_shelf (re_call (ra_cons re_v (ra_cons re_v (ra_cons (re_op r2_ix re_v re_int) ra_nil)))) (re_call (ra_cons re_v (ra_cons re_v (ra_cons (re_op r2_ix re_v re_int) ra_nil))))))) rs_nx) (rs_sq (rs_if (fun Z => (rt_c (re_op r2_eq re_v re_str))) (rs_ret fun Z => (re_shelf (re_call (ra_cons re_v (ra_cons re_v ra_nil))) (re_call (ra_cons re_v (ra_cons re_v ra_nil))))) rs_nx) (rs_sq (rs_if (fun Z => (rt_c (re_op r2_eq re_v re_str))) (rs_rel 3 (rs_ret fun Z => (re_shelf re_v (re_call (ra_cons (re_call (ra_cons re_v (ra_cons re_v ra_nil))) (ra_cons re_v (ra_cons (re_op r2_ix re_v re_int) ra_nil))))))) rs_nx) (rs_rel 3 (rs_ret fun Z => (re_shelf (re_call (ra_cons (re_call (ra_cons re_v (ra_cons re_v ra_nil))) (ra_cons re_v (ra_cons (re_op r2_ix re_v re_int) ra_nil)))) re_v)))))))⟩
abbrev st_changed : Stmt := top 24
abbrev nn_changed : List Str := ["shelf", "change"]
theorem sc_changed : FnScope nn_changed ["shelf", "change"] (defScope st_changed) := ⟨rfl, rfl, rfl, by decide +kernel, rfl, by decide +kernel, by decide +kernel⟩
theorem has_changed {S S1 S2 S3 S4 : ST} (M : Nm mg) (r : RawF K mg "changed" st_changed) (h1 : Has P w K mg base C 1 "check_shelf" ["shelf"] [true] S1) (h2 : Has P w K mg base C 2 "is_change" ["value"] [false] S2) (h3 : Has P w K mg base C 3 "fits" ["shelf", "change"] [true, true] S3) (h4 : Has P w K mg base C 6 "_made" ["shelf", "change"] [true, true] S4)
    (tree : ∀ ds n R, S ds n R → B_changed S1 S2 S3 S4 (ends R) (slots [true, false] ds 0) n) : Has P w K mg base C 7 "changed" ["shelf", "change"] [true, false] S := by
  obtain ⟨f, fd, m0, F⟩ := r
  obtain ⟨f1, fd1, F1, m1, k1, b1⟩ := h1
  obtain ⟨f2, fd2, F2, m2, k2, b2⟩ := h2
  obtain ⟨f3, fd3, F3, m3, k3, b3⟩ := h3
  obtain ⟨f4, fd4, F4, m4, k4, b4⟩ := h4
  refine ⟨f, fd, def_ok F sc_changed rfl (fun cdv A outer s H E hr => ?_) tree, m0, F.kp, F.binds fun _ _ _ _ _ _ us hl => match us, hl with | [_, _], _ => rfl⟩
  have hu := units62 hr
  exact ⟨_, (pss_cons (ps_expr (pe_call F1 (hr.mono (by first | decide | omega)) rfl m1 k1 b1 .nil pass0 (pa_cons (pv 0) pa_nil))) (pss_cons (ps_if (PW.pt (pw_or (pt_not (pt_val (pe_call F2 (hr.mono (by first | decide | omega)) rfl m2 k2 b2 .nil pass0 (pa_cons (pv 1) pa_nil)))) (pw_or1 (pt_not (pt_val (pe_call F3 (hr.mono (by first | decide | omega)) rfl m3 k3 b3 .nil pass0 (pa_cons (pv 0) (pa_cons (pv 1) pa_nil)))))))) pss_never pss_nil) (pss_one (ps_ret (pe_call F4 (hr.mono (by first | decide | omega)) rfl m4 k4 b4 .nil pass0 (pa_cons (pv 0) (pa_cons (pv 1) pa_nil))))))), (rs_sq (rs_ex fun Z => (re_call (ra_cons re_v ra_nil))) (rs_sq (rs_rel 1 (rs_if (fun Z => (rt_or (rt_not (rt_v (re_call (ra_cons re_v ra_nil)))) (rt_not (rt_v (re_call (ra_cons re_v (ra_cons re_v ra_nil))))))) rs_never rs_nx)) (rs_ret fun Z => (re_call (ra_cons re_v (ra_cons re_v ra_nil))))))⟩
abbrev st_are_gapless : Stmt := top 26
abbrev nn_are_gapless : List Str := ["entries"]
theorem sc_are_gapless : FnScope nn_are_gapless ["entries"] (defScope st_are_gapless) := ⟨rfl, rfl, rfl, by decide +kernel, rfl, by decide +kernel, by decide +kernel⟩
theorem has_are_gapless {S : ST} (M : Nm mg) (r : RawF K mg "are_gapless" st_are_gapless)
    (tree : ∀ ds n R, S ds n R → B_are_gapless (ends R) (slots [true] ds 0) n) : Has P w K mg base C 1 "are_gapless" ["entries"] [true] S := by
  obtain ⟨f, fd, m0, F⟩ := r
  refine ⟨f, fd, def_ok F sc_are_gapless rfl (fun cdv A outer s H E hr => ?_) tree, m0, F.kp, F.binds fun _ _ _ _ _ _ us hl => match us, hl with | [_], _ => rfl⟩
  have hu := units62 hr
  exact ⟨_, (pss_one (ps_ret (pe_cmpR (op_eqP hu) (pe_op op_sub (pe_callB (call_maxA rfl) (by rfl) M.max b_max (pa_cons (pv 0) pa_nil)) (pe_callB (call_minA rfl) (by rfl) M.min b_min (pa_cons (pv 0) pa_nil))) (pe_op op_sub (pe_callB call_lenA (by rfl) M.len b_len (pa_cons (pv 0) pa_nil)) pe_int) (by first | exact nomark _ | rfl)))), (rs_ret fun Z => (re_op r2_eq (re_op r2_sub (re_cb (rn_or2 rn_max1) (ra_cons re_v ra_nil)) (re_cb (rn_or2 rn_min1) (ra_cons re_v ra_nil))) (re_op r2_sub (re_cb rn_len (ra_cons re_v ra_nil)) re_int)))⟩
abbrev st_u_run_of_entries : Stmt := top 27
abbrev nn_u_run_of_entries : List Str := ["catalogue", "entries", "first"]
theorem sc_u_run_of_entries : FnScope nn_u_run_of_entries ["catalogue", "entries"] (defScope st_u_run_of_entries) := ⟨rfl, rfl, rfl, by decide +kernel, rfl, by decide +kernel, by decide +kernel⟩
theorem has_u_run_of_entries {S S1 : ST} (M : Nm mg) (r : RawF K mg "_run_of_entries" st_u_run_of_entries) (h1 : Has P w K mg base C 1 "are_gapless" ["entries"] [true] S1)
    (tree : ∀ ds n R, S ds n R → B_u_run_of_entries S1 (ends R) (slots [true, true] ds 1) n) : Has P w K mg base C 2 "_run_of_entries" ["catalogue", "entries"] [true, true] S := by
  obtain ⟨f, fd, m0, F⟩ := r
  obtain ⟨f1, fd1, F1, m1, k1, b1⟩ := h1
  refine ⟨f, fd, def_ok F sc_u_run_of_entries rfl (fun cdv A outer s H E hr => ?_) tree, m0, F.kp, F.binds fun _ _ _ _ _ _ us hl => match us, hl with | [_, _], _ => rfl⟩
  have hu := units62 hr
  exact ⟨_, (pss_cons (ps_if (pt_not (pt_val (pe_call F1 (hr.mono (by first | decide | omega)) rfl m1 k1 b1 .nil pass0 (pa_cons (pv 1) pa_nil)))) (pss_one (ps_ret pe_non)) pss_nil) (pss_cons (ps_set (i := 2) sc_u_run_of_entries.nd rfl (Or.inl rfl) (pe_callB (call_minA rfl) (by rfl) M.min b_min (pa_cons (pv 1) pa_nil))) (pss_one (ps_ret (pe_callTy call_tupA (by rfl) M.tuple b_tuple (pa_cons (pe_slice sl_any (pv 0) (po_some (pv 2)) (po_some (pe_op op_addA (pv 2) (pe_callB call_lenA (by rfl) M.len b_len (pa_cons (pv 1) pa_nil))))) pa_nil)))))), (rs_sq (rs_if (fun Z => (rt_not (rt_v (re_call (ra_cons re_v ra_nil))))) (rs_ret fun Z => re_non) rs_nx) (rs_sq (rs_set fun Z => (re_cb (rn_or2 rn_min1) (ra_cons re_v ra_nil))) (rs_ret fun Z => (re_cb rn_tup (ra_cons (re_sl re_v (ro_some re_v) (ro_some (re_op r2_add re_v (re_cb rn_len (ra_cons re_v ra_nil))))) ra_nil)))))⟩
abbrev st_all_runs : Stmt := top 28
abbrev nn_all_runs : List Str := ["shelf", "entries", "catalogue", "many", "stretches", "start", "end", "named", "stretch", "run"]
theorem sc_all_runs : FnScope nn_all_runs ["shelf"] (defScope st_all_runs) := ⟨rfl, rfl, rfl, by decide +kernel, rfl, by decide +kernel, by decide +kernel⟩
theorem has_all_runs {S S1 S2 : ST} (M : Nm mg) (L : ShL P w K mg base C) (r : RawF K mg "all_runs" st_all_runs) (h1 : Has P w K mg base C 2 "ranks" ["shelf"] [true] S1) (h2 : Has P w K mg base C 2 "_run_of_entries" ["catalogue", "entries"] [true, true] S2)
    (tree : ∀ ds n R, S ds n R → B_all_runs S1 S2 (ends R) (slots [true] ds 9) n) : Has P w K mg base C 3 "all_runs" ["shelf"] [true] S := by
  obtain ⟨f, fd, m0, F⟩ := r
  obtain ⟨fi, fq, fc, fr, fdi, fdq, fdc, fdr, T, gS, Fi, bi, Fq, bq, Fc, bc, Fr, br, I⟩ := L.x
  obtain ⟨f1, fd1, F1, m1, k1, b1⟩ := h1
  obtain ⟨f2, fd2, F2, m2, k2, b2⟩ := h2
  refine ⟨f, fd, def_ok F sc_all_runs rfl (fun cdv A outer s H E hr => ?_) tree, m0, F.kp, F.binds fun _ _ _ _ _ _ us hl => match us, hl with | [_], _ => rfl⟩
  have hu := units62 hr
  exact ⟨_, (pss_cons (ps_asg (pe_tup (pa_cons (pe_call F1 (hr.mono (by first | decide | omega)) rfl m1 k1 b1 .nil pass0 (pa_cons (pv 0) pa_nil)) (pa_cons (pe_meth0 (pv 0) T.cl T.mc Fc (hr.mono (by first | decide | omega)) bc .nil pass0) pa_nil))) (pg_un rfl (pgs_cons (pg_name (i := 1) sc_all_runs.nd rfl (Or.inr rfl)) (pgs_cons (pg_name (i := 2) sc_all_runs.nd rfl (Or.inr rfl)) pgs_nil)))) (pss_cons (ps_set (i := 3) sc_all_runs.nd rfl (Or.inr rfl) (pe_callB call_lenA (by rfl) M.len b_len (pa_cons (pv 1) pa_nil))) (pss_cons (ps_setLc2 (i := 4) (own := [("start", 5), ("end", 6)]) (vs1 := [6]) rfl sc_all_runs.nd rfl rfl (sw_true rfl rfl rfl (by decide +kernel)) (pi_range1 (by rfl) M.range (pa_cons (pv 3) pa_nil)) (blkOk_by (N := nn_all_runs) (sc := defScope st_all_runs) (by decide +kernel)) (by decide) (fun _ _ _ _ _ => (pg_name (i := 5) sc_all_runs.nd rfl (Or.inl rfl))) (fun _ _ _ _ _ => pts_nil) (fun _ _ _ _ _ => (pi_range2 (by rfl) M.range (pa_cons (pe_op op_addA (pv 5) pe_int) (pa_cons (pe_op op_addA (pv 3) pe_int) pa_nil)))) (fun _ _ _ _ _ => (pg_name (i := 6) sc_all_runs.nd rfl (Or.inl rfl))) (fun _ _ _ _ _ => pts_nil) (fun _ _ _ _ _ => (pe_slice sl_any (pv 1) (po_some (pv 5)) (po_some (pv 6))))) (pss_cons (ps_setLc (i := 7) (own := [("stretch", 8)]) rfl sc_all_runs.nd rfl rfl (sw_true rfl rfl rfl (by decide +kernel)) (pi_seq (pv 4)) (blkOk_by (N := nn_all_runs) (sc := defScope st_all_runs) (by decide +kernel)) (fun _ _ _ _ _ => (pg_name (i := 8) sc_all_runs.nd rfl (Or.inl rfl))) (fun _ _ _ _ _ => pts_nil) (fun _ _ _ _ _ => (pe_call F2 (hr.mono (by first | decide | omega)) (by rfl) m2 k2 b2 .nil pass0 (pa_cons (pv 2) (pa_cons (pv 8) pa_nil))))) (pss_one (ps_ret (pe_callB cr_sortAT (by rfl) M.sorted b_sorted (pa_cons (pe_lc (own := [("run", 9)]) rfl sc_all_runs.nd (pi_seq (pv 7)) (blkOk_by (N := nn_all_runs) (sc := defScope st_all_runs) (by decide +kernel)) (fun _ _ _ _ _ => (pg_name (i := 9) sc_all_runs.nd rfl (Or.inl rfl))) (fun _ _ _ _ _ => (pts_one (pt_cmpR op_notN (pv 9) pe_non (by first | exact nomark _ | rfl)))) (fun _ _ _ _ _ => (pv 9))) pa_nil)))))))), (rs_sq (rs_parU (fun Z => (re_call (ra_cons re_v ra_nil))) (fun Z => (re_meth rfl rfl re_v ra_nil))) (rs_sq (rs_set fun Z => (re_cb rn_len (ra_cons re_v ra_nil))) (rs_sq (rs_set fun Z => (re_lc2 (ri_r1 re_v) rg_nm (by decide) (fun Z => rt_yes) (fun Z => (ri_r2 (re_op r2_add re_v re_int) (re_op r2_add re_v re_int))) rg_nm (by decide) (fun Z => rt_yes) (fun Z => (re_sl re_v (ro_some re_v) (ro_some re_v))))) (rs_sq (rs_set fun Z => (re_lc (ri_seq re_v) rg_nm (by decide) (fun Z => rt_yes) (fun Z => (re_call (ra_cons re_v (ra_cons re_v ra_nil)))))) (rs_ret fun Z => (re_cb rn_sortedT (ra_cons (re_lc (ri_seq re_v) rg_nm (by decide) (fun Z => (rt_c (re_op r2_notN re_v re_non))) (fun Z => re_v)) ra_nil)))))))⟩
abbrev st_u_forms_of : Stmt := top 30
abbrev nn_u_forms_of : List Str := ["run", "change", "word", "book"]
theorem sc_u_forms_of : FnScope nn_u_forms_of ["run", "change"] (defScope st_u_forms_of) := ⟨rfl, rfl, rfl, by decide +kernel, rfl, by decide +kernel, by decide +kernel⟩
theorem has_u_forms_of {S S1 : ST} (M : Nm mg) (r : RawF K mg "_forms_of" st_u_forms_of) (h1 : Has P w K mg base C 3 "books_without" ["books", "book"] [true, true] S1)
    (tree : ∀ ds n R, S ds n R → B_u_forms_of S1 (ends R) (slots [true, true] ds 2) n) : Has P w K mg base C 4 "_forms_of" ["run", "change"] [true, true] S := by
  obtain ⟨f, fd, m0, F⟩ := r
  obtain ⟨f1, fd1, F1, m1, k1, b1⟩ := h1
  refine ⟨f, fd, def_ok F sc_u_forms_of rfl (fun cdv A outer s H E hr => ?_) tree, m0, F.kp, F.binds fun _ _ _ _ _ _ us hl => match us, hl with | [_, _], _ => rfl⟩
  have hu := units62 hr
  exact ⟨_, (pss_cons (ps_par (i := 2) (j := 3) rfl sc_u_forms_of.nd rfl rfl (by decide) rfl rfl (pa_cons (pe_ix ix_any (pv 1) pe_int (fun _ _ => rfl)) (pa_cons (pe_ix ix_any (pv 1) pe_int (fun _ _ => rfl)) pa_nil)) rfl) (pss_cons (ps_if (pt_cmpR (op_eqP hu) (pv 2) pe_str (by first | exact nomark _ | rfl)) (pss_one (ps_ret (pe_lst (pa_cons (pe_callB cr_sortAT (by rfl) M.sorted b_sorted (pa_cons (pv 0) pa_nil)) (pa_cons (pe_callB cr_sortAT (by rfl) M.sorted b_sorted (pa_cons (pe_op op_addA (pe_callTy (call_listA rfl) (by rfl) M.list b_list (pa_cons (pv 0) pa_nil)) (pe_lst (pa_cons (pv 3) pa_nil))) pa_nil)) pa_nil))))) pss_nil) (pss_one (ps_ret (pe_lst (pa_cons (pe_ifExp (pt_cmpR (op_eqP hu) (pv 2) pe_str (by first | exact nomark _ | rfl)) (pe_callB cr_sortAT (by rfl) M.sorted b_sorted (pa_cons (pe_call F1 (hr.mono (by first | decide | omega)) rfl m1 k1 b1 .nil pass0 (pa_cons (pv 0) (pa_cons (pv 3) pa_nil))) pa_nil)) (pe_callB cr_sortAT (by rfl) M.sorted b_sorted (pa_cons (pv 0) pa_nil))) pa_nil)))))), (rs_sq (rs_par (fun Z => (re_op r2_ix re_v re_int)) (fun Z => (re_op r2_ix re_v re_int))) (rs_sq (rs_if (fun Z => (rt_c (re_op r2_eq re_v re_str))) (rs_rel 3 (rs_ret fun Z => (re_lst (ra_cons (re_cb rn_sortedT (ra_cons re_v ra_nil)) (ra_cons (re_cb rn_sortedT (ra_cons (re_op r2_add (re_cb rn_list (ra_cons re_v ra_nil)) (re_lst (ra_cons re_v ra_nil))) ra_nil)) ra_nil))))) rs_nx) (rs_ret fun Z => (re_lst (ra_cons (re_ifx (rt_c (re_op r2_eq re_v re_str)) (re_cb rn_sortedT (ra_cons (re_call (ra_cons re_v (ra_cons re_v ra_nil))) ra_nil)) (re_cb rn_sortedT (ra_cons re_v ra_nil))) ra_nil)))))⟩
abbrev st_u_stay : Stmt := top 31
abbrev nn_u_stay : List Str := ["shelf", "change", "behind", "run", "runs", "kept", "form"]
theorem sc_u_stay : FnScope nn_u_stay ["shelf", "change"] (defScope st_u_stay) := ⟨rfl, rfl, rfl, by decide +kernel, rfl, by decide +kernel, by decide +kernel⟩
theorem has_u_stay {S : STP} {S1 S2 S3 : ST} (M : Nm mg) (r : RawF K mg "_stay" st_u_stay) (h1 : Has P w K mg base C 3 "all_runs" ["shelf"] [true] S1) (h2 : Has P w K mg base C 7 "changed" ["shelf", "change"] [true, false] S2) (h3 : Has P w K mg base C 4 "_forms_of" ["run", "change"] [true, true] S3)
    (tree : ∀ ds n R, S ds n R → B_u_stay S1 S2 S3 { nx := fun Γ n => B_u_stay_end S1 S2 S3 R Γ n, rt := fun _ _ => False } (slots [true, false] ds 5) n) : HasP P w K mg base C 8 "_stay" ["shelf", "change"] [true, false] S := by
  obtain ⟨f, fd, m0, F⟩ := r
  obtain ⟨f1, fd1, F1, m1, k1, b1⟩ := h1
  obtain ⟨f2, fd2, F2, m2, k2, b2⟩ := h2
  obtain ⟨f3, fd3, F3, m3, k3, b3⟩ := h3
  refine ⟨f, fd, def_okP F sc_u_stay rfl (fun cdv A outer s H E hr => ?_) tree, m0, F.kp, F.binds fun _ _ _ _ _ _ us hl => match us, hl with | [_, _], _ => rfl⟩
  have hu := units62 hr
  exact ⟨_, _, (pss_l3 (ps_set (i := 2) sc_u_stay.nd rfl (Or.inr rfl) (pe_lc (own := [("run", 3)]) rfl sc_u_stay.nd (pi_seq (pe_call F1 (hr.mono (by first | decide | omega)) rfl m1 k1 b1 .nil pass0 (pa_cons (pe_call F2 (hr.mono (by first | decide | omega)) rfl m2 k2 b2 .nil pass0 (pa_cons (pv 0) (pa_cons (pv 1) pa_nil))) pa_nil))) (blkOk_by (N := nn_u_stay) (sc := defScope st_u_stay) (by decide +kernel)) (fun _ _ _ _ _ => (pg_name (i := 3) sc_u_stay.nd rfl (Or.inl rfl))) (fun _ _ _ _ _ => pts_nil) (fun _ _ _ _ _ => (pe_callB cr_sortAT (by rfl) M.sorted b_sorted (pa_cons (pv 3) pa_nil))))) (ps_set (i := 4) sc_u_stay.nd rfl (Or.inl rfl) (pe_call F1 (hr.mono (by first | decide | omega)) rfl m1 k1 b1 .nil pass0 (pa_cons (pv 0) pa_nil))) (ps_set (i := 5) sc_u_stay.nd rfl (Or.inr rfl) (pe_lc (own := [("run", 3)]) rfl sc_u_stay.nd (pi_seq (pv 4)) (blkOk_by (N := nn_u_stay) (sc := defScope st_u_stay) (by decide +kernel)) (fun _ _ _ _ _ => (pg_name (i := 3) sc_u_stay.nd rfl (Or.inl rfl))) (fun _ _ _ _ _ => (pts_one (pt_val (pe_callB (cr_any rfl) (by rfl) M.any b_any (pa_cons (pe_lc (own := [("form", 6)]) rfl sc_u_stay.nd (pi_seq (pe_call F3 (hr.mono (by first | decide | omega)) (by rfl) m3 k3 b3 .nil pass0 (pa_cons (pv 3) (pa_cons (pv 1) pa_nil)))) (blkOk_by (N := nn_u_stay) (sc := { kind := .function, names := [(".0", .local), ("run", .local), ("any", .globalImplicit), ("_forms_of", .globalImplicit), ("behind", .cell), ("change", .cell)], isGenerator := false, isCoroutine := false }) (by decide +kernel)) (fun _ _ _ _ _ => (pg_name (i := 6) sc_u_stay.nd rfl (Or.inl rfl))) (fun _ _ _ _ _ => pts_nil) (fun _ _ _ _ _ => (pe_cmpR (op_inA hu) (pv 6) (pv 2) (by first | exact nomark _ | rfl)))) pa_nil))))) (fun _ _ _ _ _ => (pv 3)))) (ps_ret (pe_tup (pa_cons (pv 5) (pa_cons (pe_lc (own := [("run", 3)]) rfl sc_u_stay.nd (pi_seq (pv 4)) (blkOk_by (N := nn_u_stay) (sc := defScope st_u_stay) (by decide +kernel)) (fun _ _ _ _ _ => (pg_name (i := 3) sc_u_stay.nd rfl (Or.inl rfl))) (fun _ _ _ _ _ => (pts_one (pt_cmpR (op_ninP hu) (pv 3) (pv 5) (by first | exact nomark _ | rfl)))) (fun _ _ _ _ _ => (pv 3))) pa_nil))))), (rs_sq (rs_sq (rs_rel 1 (rs_set fun Z => (re_lc (ri_seq (re_call (ra_cons (re_call (ra_cons re_v (ra_cons re_v ra_nil))) ra_nil))) rg_nm (by decide) (fun Z => rt_yes) (fun Z => (re_cb rn_sortedT (ra_cons re_v ra_nil)))))) (rs_set fun Z => (re_call (ra_cons re_v ra_nil)))) (rs_set fun Z => (re_lc (ri_seq re_v) rg_nm (by decide) (fun Z => (rt_v (re_cb rn_any (ra_cons (re_lc (ri_seq (re_call (ra_cons re_v (ra_cons re_v ra_nil)))) rg_nm (by decide) (fun Z => rt_yes) (fun Z => (re_op r2_inA re_v re_v))) ra_nil)))) (fun Z => re_v)))), (rp_ret2 fun Z => (re_lc (ri_seq re_v) rg_nm (by decide) (fun Z => (rt_c (re_op r2_nin re_v re_v))) (fun Z => re_v)))⟩
abbrev st_kept_runs : Stmt := top 32
abbrev nn_kept_runs : List Str := ["shelf", "change"]
theorem sc_kept_runs : FnScope nn_kept_runs ["shelf", "change"] (defScope st_kept_runs) := ⟨rfl, rfl, rfl, by decide +kernel, rfl, by decide +kernel, by decide +kernel⟩
theorem has_kept_runs {S : ST} {S1 : STP} (M : Nm mg) (r : RawF K mg "kept_runs" st_kept_runs) (h1 : HasP P w K mg base C 8 "_stay" ["shelf", "change"] [true, false] S1)
    (tree : ∀ ds n R, S ds n R → B_kept_runs S1 (ends R) (slots [true, false] ds 0) n) : Has P w K mg base C 9 "kept_runs" ["shelf", "change"] [true, false] S := by
  obtain ⟨f, fd, m0, F⟩ := r
  obtain ⟨f1, fd1, F1, m1, k1, b1⟩ := h1
  refine ⟨f, fd, def_ok F sc_kept_runs rfl (fun cdv A outer s H E hr => ?_) tree, m0, F.kp, F.binds fun _ _ _ _ _ _ us hl => match us, hl with | [_, _], _ => rfl⟩
  have hu := units62 hr
  exact ⟨_, (pss_one (ps_ret (pe_ix ix_any (pe_call F1 (hr.mono (by first | decide | omega)) rfl m1 k1 b1 .nil pass0 (pa_cons (pv 0) (pa_cons (pv 1) pa_nil))) pe_int (fun _ _ => rfl)))), (rs_rel 1 (rs_ret fun Z => (re_callIx (j := 0) (ra_cons re_v (ra_cons re_v ra_nil)))))⟩
abbrev st_lost_runs : Stmt := top 33
abbrev nn_lost_runs : List Str := ["shelf", "change"]
theorem sc_lost_runs : FnScope nn_lost_runs ["shelf", "change"] (defScope st_lost_runs) := ⟨rfl, rfl, rfl, by decide +kernel, rfl, by decide +kernel, by decide +kernel⟩
theorem has_lost_runs {S : ST} {S1 : STP} (M : Nm mg) (r : RawF K mg "lost_runs" st_lost_runs) (h1 : HasP P w K mg base C 8 "_stay" ["shelf", "change"] [true, false] S1)
    (tree : ∀ ds n R, S ds n R → B_lost_runs S1 (ends R) (slots [true, false] ds 0) n) : Has P w K mg base C 9 "lost_runs" ["shelf", "change"] [true, false] S := by
  obtain ⟨f, fd, m0, F⟩ := r
  obtain ⟨f1, fd1, F1, m1, k1, b1⟩ := h1
  refine ⟨f, fd, def_ok F sc_lost_runs rfl (fun cdv A outer s H E hr => ?_) tree, m0, F.kp, F.binds fun _ _ _ _ _ _ us hl => match us, hl with | [_, _], _ => rfl⟩
  have hu := units62 hr
  exact ⟨_, (pss_one (ps_ret (pe_ix ix_any (pe_call F1 (hr.mono (by first | decide | omega)) rfl m1 k1 b1 .nil pass0 (pa_cons (pv 0) (pa_cons (pv 1) pa_nil))) pe_int (fun _ _ => rfl)))), (rs_rel 1 (rs_ret fun Z => (re_callIx (j := 1) (ra_cons re_v (ra_cons re_v ra_nil)))))⟩
abbrev st_new_runs : Stmt := top 34
abbrev nn_new_runs : List Str := ["shelf", "change", "behind", "forms", "run", "form"]
theorem sc_new_runs : FnScope nn_new_runs ["shelf", "change"] (defScope st_new_runs) := ⟨rfl, rfl, rfl, by decide +kernel, rfl, by decide +kernel, by decide +kernel⟩
theorem has_new_runs {S S1 S2 S3 : ST} (M : Nm mg) (r : RawF K mg "new_runs" st_new_runs) (h1 : Has P w K mg base C 3 "all_runs" ["shelf"] [true] S1) (h2 : Has P w K mg base C 7 "changed" ["shelf", "change"] [true, false] S2) (h3 : Has P w K mg base C 4 "_forms_of" ["run", "change"] [true, true] S3)
    (tree : ∀ ds n R, S ds n R → B_new_runs S1 S2 S3 (ends R) (slots [true, false] ds 4) n) : Has P w K mg base C 8 "new_runs" ["shelf", "change"] [true, false] S := by
  obtain ⟨f, fd, m0, F⟩ := r
  obtain ⟨f1, fd1, F1, m1, k1, b1⟩ := h1
  obtain ⟨f2, fd2, F2, m2, k2, b2⟩ := h2
  obtain ⟨f3, fd3, F3, m3, k3, b3⟩ := h3
  refine ⟨f, fd, def_ok F sc_new_runs rfl (fun cdv A outer s H E hr => ?_) tree, m0, F.kp, F.binds fun _ _ _ _ _ _ us hl => match us, hl with | [_, _], _ => rfl⟩
  have hu := units62 hr
  exact ⟨_, (pss_cons (ps_set (i := 2) sc_new_runs.nd rfl (Or.inl rfl) (pe_call F1 (hr.mono (by first | decide | omega)) rfl m1 k1 b1 .nil pass0 (pa_cons (pe_call F2 (hr.mono (by first | decide | omega)) rfl m2 k2 b2 .nil pass0 (pa_cons (pv 0) (pa_cons (pv 1) pa_nil))) pa_nil))) (pss_cons (ps_set (i := 3) sc_new_runs.nd rfl (Or.inr rfl) (pe_lc2 (own := [("run", 4), ("form", 5)]) (vs1 := [5]) rfl sc_new_runs.nd (pi_seq (pe_call F1 (hr.mono (by first | decide | omega)) rfl m1 k1 b1 .nil pass0 (pa_cons (pv 0) pa_nil))) (blkOk_by (N := nn_new_runs) (sc := defScope st_new_runs) (by decide +kernel)) (by decide) (fun _ _ _ _ _ => (pg_name (i := 4) sc_new_runs.nd rfl (Or.inl rfl))) (fun _ _ _ _ _ => pts_nil) (fun _ _ _ _ _ => (pi_seq (pe_call F3 (hr.mono (by first | decide | omega)) (by rfl) m3 k3 b3 .nil pass0 (pa_cons (pv 4) (pa_cons (pv 1) pa_nil))))) (fun _ _ _ _ _ => (pg_name (i := 5) sc_new_runs.nd rfl (Or.inl rfl))) (fun _ _ _ _ _ => pts_nil) (fun _ _ _ _ _ => (pv 5)))) (pss_one (ps_ret (pe_lc (own := [("run", 4)]) rfl sc_new_runs.nd (pi_seq (pv 2)) (blkOk_by (N := nn_new_runs) (sc := defScope st_new_runs) (by decide +kernel)) (fun _ _ _ _ _ => (pg_name (i := 4) sc_new_runs.nd rfl (Or.inl rfl))) (fun _ _ _ _ _ => (pts_one (pt_cmpR (op_ninP hu) (pe_callB cr_sortAT (by rfl) M.sorted b_sorted (pa_cons (pv 4) pa_nil)) (pv 3) (by first | exact nomark _ | rfl)))) (fun _ _ _ _ _ => (pv 4))))))), (rs_sq (rs_rel 1 (rs_set fun Z => (re_call (ra_cons (re_call (ra_cons re_v (ra_cons re_v ra_nil))) ra_nil)))) (rs_sq (rs_set fun Z => (re_lc2 (ri_seq (re_call (ra_cons re_v ra_nil))) rg_nm (by decide) (fun Z => rt_yes) (fun Z => (ri_seq (re_call (ra_cons re_v (ra_cons re_v ra_nil))))) rg_nm (by decide) (fun Z => rt_yes) (fun Z => re_v))) (rs_ret fun Z => (re_lc (ri_seq re_v) rg_nm (by decide) (fun Z => (rt_c (re_op r2_nin (re_cb rn_sortedT (ra_cons re_v ra_nil)) re_v))) (fun Z => re_v)))))⟩
abbrev st_w_one_of : Stmt := top 40
abbrev nn_w_one_of : List Str := ["_law_purse_here", "_law_some"]
theorem sc_w_one_of : FnScope nn_w_one_of ["_law_purse_here", "_law_some"] (defScope st_w_one_of) := ⟨rfl, rfl, rfl, by decide +kernel, rfl, by decide +kernel, by decide +kernel⟩
theorem has_w_one_of {S S1 : ST} (M : Nm mg) (r : RawF K mg "_law_one_of" st_w_one_of) (h1 : Has P w K mg base C 2 "_law_draw" ["_law_purse_here", "_law_many"] [true, true] S1)
    (tree : ∀ ds n R, S ds n R → B_w_one_of S1 (ends R) (slots [true, true] ds 0) n) : Has P w K mg base C 3 "_law_one_of" ["_law_purse_here", "_law_some"] [true, true] S := by
  obtain ⟨f, fd, m0, F⟩ := r
  obtain ⟨f1, fd1, F1, m1, k1, b1⟩ := h1
  refine ⟨f, fd, def_ok F sc_w_one_of rfl (fun cdv A outer s H E hr => ?_) tree, m0, F.kp, F.binds fun _ _ _ _ _ _ us hl => match us, hl with | [_, _], _ => rfl⟩
  have hu := units62 hr
  exact ⟨_, (pss_one (ps_ret (pe_ix ix_any (pv 1) (pe_call F1 (hr.mono (by first | decide | omega)) rfl m1 k1 b1 .nil pass0 (pa_cons (pv 0) (pa_cons (pe_callB call_lenA (by rfl) M.len b_len (pa_cons (pv 1) pa_nil)) pa_nil))) (fun _ _ => rfl)))), (rs_ret fun Z => (re_op r2_ix re_v (re_call (ra_cons re_v (ra_cons (re_cb rn_len (ra_cons re_v ra_nil)) ra_nil)))))⟩
abbrev st_w_shuffled : Stmt := top 41
abbrev nn_w_shuffled : List Str := ["_law_purse_here", "_law_some", "_law_found", "_law_item"]
theorem sc_w_shuffled : FnScope nn_w_shuffled ["_law_purse_here", "_law_some"] (defScope st_w_shuffled) := ⟨rfl, rfl, rfl, by decide +kernel, rfl, by decide +kernel, by decide +kernel⟩
theorem has_w_shuffled {S S1 : ST} (M : Nm mg) (r : RawF K mg "_law_shuffled" st_w_shuffled) (h1 : Has P w K mg base C 2 "_law_draw" ["_law_purse_here", "_law_many"] [true, true] S1)
    (tree : ∀ ds n R, S ds n R → B_w_shuffled S1 (ends R) (slots [true, true] ds 2) n) : Has P w K mg base C 3 "_law_shuffled" ["_law_purse_here", "_law_some"] [true, true] S := by
  obtain ⟨f, fd, m0, F⟩ := r
  obtain ⟨f1, fd1, F1, m1, k1, b1⟩ := h1
  refine ⟨f, fd, def_ok F sc_w_shuffled rfl (fun cdv A outer s H E hr => ?_) tree, m0, F.kp, F.binds fun _ _ _ _ _ _ us hl => match us, hl with | [_, _], _ => rfl⟩
  have hu := units62 hr
  exact ⟨_, (pss_cons (ps_set (i := 2) sc_w_shuffled.nd rfl (Or.inl rfl) (pe_lst pa_nil)) (pss_cons (ps_for PassesOwn.never rfl (pi_seq (pv 1)) (pg_name (i := 3) sc_w_shuffled.nd rfl (Or.inl rfl)) (pss_one (ps_expr (pe_bm PySem.F.plainAttrs_list PySem.F.slot_list_insert PySem.F.type_list_insert mt_ins (pv 2) (pa_cons (pe_call F1 (hr.mono (by first | decide | omega)) rfl m1 k1 b1 .nil pass0 (pa_cons (pv 0) (pa_cons (pe_op op_addA (pe_callB call_lenA (by rfl) M.len b_len (pa_cons (pv 2) pa_nil)) pe_int) pa_nil))) (pa_cons (pv 3) pa_nil)))))) (pss_one (ps_ret (pv 2))))), (rs_sq (rs_set fun Z => (re_lst ra_nil)) (rs_sq (rs_rel 1 (rs_for (fun Z => (ri_seq re_v)) rg_nm (rs_rel 3 (rs_ins (fun Z => (re_call (ra_cons re_v (ra_cons (re_op r2_add (re_cb rn_len (ra_cons re_v ra_nil)) re_int) ra_nil)))) (fun Z => re_v))))) rs_retV))⟩
abbrev st_w_same : Stmt := top 42
abbrev nn_w_same : List Str := ["_law_thing", "_law_key", "_law_item"]
theorem sc_w_same : FnScope nn_w_same ["_law_thing"] (defScope st_w_same) := ⟨rfl, rfl, rfl, by decide +kernel, rfl, by decide +kernel, by decide +kernel⟩
theorem has_w_same {k : Nat} {S S1 : ST} (M : Nm mg) (L : ShL P w K mg base C) (r : RawF K mg "_law_same" st_w_same) (h1 : Has P w K mg base C (k + 1) "_law_same" ["_law_thing"] [false] S1)
    (tree : ∀ ds n R, S ds n R → B_w_same S1 (ends R) (slots [false] ds 2) n) : Has P w K mg base C (k + 2) "_law_same" ["_law_thing"] [false] S := by
  obtain ⟨f, fd, m0, F⟩ := r
  obtain ⟨fi, fq, fc, fr, fdi, fdq, fdc, fdr, T, gS, Fi, bi, Fq, bq, Fc, bc, Fr, br, I⟩ := L.x
  obtain ⟨f1, fd1, F1, m1, k1, b1⟩ := h1
  refine ⟨f, fd, def_ok F sc_w_same rfl (fun cdv A outer s H E hr => ?_) tree, m0, F.kp, F.binds fun _ _ _ _ _ _ us hl => match us, hl with | [_], _ => rfl⟩
  have hu := units62 hr
  exact ⟨_, (pss_cons (ps_if (pt_val (pe_callB call_isi (by rfl) M.isinstance b_isinstance (pa_cons (pv 0) (pa_cons (pe_bltn (v := .ty "dict") rfl M.dict b_dict rfl) pa_nil)))) pss_never pss_nil) (pss_cons (ps_if (pt_val (pe_callB call_isi (by rfl) M.isinstance b_isinstance (pa_cons (pv 0) (pa_cons (pe_bltn (v := .ty "list") rfl M.list b_list rfl) pa_nil)))) (pss_one (ps_ret (pe_lc (own := [("_law_item", 2)]) rfl sc_w_same.nd (pi_seq (pv 0)) (blkOk_by (N := nn_w_same) (sc := defScope st_w_same) (by decide +kernel)) (fun _ _ _ _ _ => (pg_name (i := 2) sc_w_same.nd rfl (Or.inl rfl))) (fun _ _ _ _ _ => pts_nil) (fun _ _ _ _ _ => (pe_call F1 hr (by rfl) m1 k1 b1 .nil pass0 (pa_cons (pv 2) pa_nil)))))) pss_nil) (pss_one (ps_ret (pe_ifExp (pt_val (pe_callB call_isi (by rfl) M.isinstance b_isinstance (pa_cons (pv 0) (pa_cons (pe_bltn (v := .ty "tuple") rfl M.tuple b_tuple rfl) pa_nil)))) (pe_callTy call_tupA (by rfl) M.tuple b_tuple (pa_cons (pe_lc (own := [("_law_item", 2)]) rfl sc_w_same.nd (pi_seq (pv 0)) (blkOk_by (N := nn_w_same) (sc := defScope st_w_same) (by decide +kernel)) (fun _ _ _ _ _ => (pg_name (i := 2) sc_w_same.nd rfl (Or.inl rfl))) (fun _ _ _ _ _ => pts_nil) (fun _ _ _ _ _ => (pe_call F1 hr (by rfl) m1 k1 b1 .nil pass0 (pa_cons (pv 2) pa_nil)))) pa_nil)) (pv 0)))))), (rs_sq (rs_if (fun Z => (rt_v (re_isB I (by decide) re_v))) rs_never rs_nx) (rs_sq (rs_if (fun Z => (rt_v (re_isB I (by decide) re_v))) (rs_rel 2 (rs_ret fun Z => (re_lc (ri_seq re_v) rg_nm (by decide) (fun Z => rt_yes) (fun Z => (re_call (ra_cons re_v ra_nil)))))) rs_nx) (rs_rel 2 (rs_rel 0 (rs_ret fun Z => (re_ifx (rt_v (re_isB I (by decide) re_v)) (re_cb rn_tup (ra_cons (re_lc (ri_seq re_v) rg_nm (by decide) (fun Z => rt_yes) (fun Z => (re_call (ra_cons re_v ra_nil)))) ra_nil)) re_v))))))⟩
abbrev st_w_exact : Stmt := top 43
abbrev nn_w_exact : List Str := ["_law_mine", "_law_theirs", "_law_alike", "_law_a", "_law_b", "_law_key"]
theorem sc_w_exact : FnScope nn_w_exact ["_law_mine", "_law_theirs"] (defScope st_w_exact) := ⟨rfl, rfl, rfl, by decide +kernel, rfl, by decide +kernel, by decide +kernel⟩
theorem has_w_exact {k : Nat} {S S1 : ST} (M : Nm mg) (L : ShL P w K mg base C) (r : RawF K mg "_law_exact" st_w_exact) (h1 : Has P w K mg base C (k + 1) "_law_exact" ["_law_mine", "_law_theirs"] [true, true] S1)
    (tree : ∀ ds n R, S ds n R → B_w_exact S1 (ends R) (slots [true, true] ds 4) n) : Has P w K mg base C (k + 2) "_law_exact" ["_law_mine", "_law_theirs"] [true, true] S := by
  obtain ⟨f, fd, m0, F⟩ := r
  obtain ⟨fi, fq, fc, fr, fdi, fdq, fdc, fdr, T, gS, Fi, bi, Fq, bq, Fc, bc, Fr, br, I⟩ := L.x
  obtain ⟨f1, fd1, F1, m1, k1, b1⟩ := h1
  refine ⟨f, fd, def_ok F sc_w_exact rfl (fun cdv A outer s H E hr => ?_) tree, m0, F.kp, F.binds fun _ _ _ _ _ _ us hl => match us, hl with | [_, _], _ => rfl⟩
  have hu := units62 hr
  exact ⟨_, (pss_cons (ps_if (pt_val (pe_callB call_isiT (by rfl) M.isinstance b_isinstance (pa_cons (pv 0) (pa_cons (pe_tup (pa_cons (pe_bltn (v := .ty "list") rfl M.list b_list rfl) (pa_cons (pe_bltn (v := .ty "tuple") rfl M.tuple b_tuple rfl) pa_nil))) pa_nil)))) (pss_cons (ps_set (i := 2) sc_w_exact.nd rfl (Or.inl rfl) (pe_and (pe_cmpR (op_eqP hu) (pe_callB call_isi (by rfl) M.isinstance b_isinstance (pa_cons (pv 1) (pa_cons (pe_bltn (v := .ty "list") rfl M.list b_list rfl) pa_nil))) (pe_callB call_isi (by rfl) M.isinstance b_isinstance (pa_cons (pv 0) (pa_cons (pe_bltn (v := .ty "list") rfl M.list b_list rfl) pa_nil))) (by first | exact nomark _ | rfl)) (pe_one (pe_cmpR (op_eqP hu) (pe_callB call_isi (by rfl) M.isinstance b_isinstance (pa_cons (pv 1) (pa_cons (pe_bltn (v := .ty "tuple") rfl M.tuple b_tuple rfl) pa_nil))) (pe_callB call_isi (by rfl) M.isinstance b_isinstance (pa_cons (pv 0) (pa_cons (pe_bltn (v := .ty "tuple") rfl M.tuple b_tuple rfl) pa_nil))) (by first | exact nomark _ | rfl))))) (pss_one (ps_ret (pe_and (pv 2) (pe_and (pe_cmpR (op_eqP hu) (pe_callB call_lenA (by rfl) M.len b_len (pa_cons (pv 0) pa_nil)) (pe_callB call_lenA (by rfl) M.len b_len (pa_cons (pv 1) pa_nil)) (by first | exact nomark _ | rfl)) (pe_one (pe_callB (cr_all rfl) (by rfl) M.all b_all (pa_cons (pe_lc (own := [("_law_a", 3), ("_law_b", 4)]) rfl sc_w_exact.nd (pi_zipA (by rfl) M.zip (pa_cons (pv 0) (pa_cons (pv 1) pa_nil))) (blkOk_by (N := nn_w_exact) (sc := defScope st_w_exact) (by decide +kernel)) (fun _ _ _ _ _ => (pg_un rfl (pgs_cons (pg_name (i := 3) sc_w_exact.nd rfl (Or.inl rfl)) (pgs_cons (pg_name (i := 4) sc_w_exact.nd rfl (Or.inl rfl)) pgs_nil)))) (fun _ _ _ _ _ => pts_nil) (fun _ _ _ _ _ => (pe_call F1 hr (by rfl) m1 k1 b1 .nil pass0 (pa_cons (pv 3) (pa_cons (pv 4) pa_nil))))) pa_nil)))))))) pss_nil) (pss_cons (ps_if (pt_val (pe_callB call_isi (by rfl) M.isinstance b_isinstance (pa_cons (pv 0) (pa_cons (pe_bltn (v := .ty "dict") rfl M.dict b_dict rfl) pa_nil)))) (pss_cons (ps_set (i := 2) sc_w_exact.nd rfl (Or.inl rfl) (pe_and (pe_callB call_isi (by rfl) M.isinstance b_isinstance (pa_cons (pv 1) (pa_cons (pe_bltn (v := .ty "dict") rfl M.dict b_dict rfl) pa_nil))) (pe_one (pe_call F1 hr rfl m1 k1 b1 .nil pass0 (pa_cons (pe_callTy (call_listA rfl) (by rfl) M.list b_list (pa_cons (pv 0) pa_nil)) (pa_cons (pe_callTy (call_listA rfl) (by rfl) M.list b_list (pa_cons (pv 1) pa_nil)) pa_nil)))))) (pss_one (ps_ret (pe_and (pv 2) (pe_one (pe_callB (cr_all rfl) (by rfl) M.all b_all (pa_cons (pe_lc (own := [("_law_key", 5)]) rfl sc_w_exact.nd (pi_seq (pv 0)) (blkOk_by (N := nn_w_exact) (sc := defScope st_w_exact) (by decide +kernel)) (fun _ _ _ _ _ => (pg_name (i := 5) sc_w_exact.nd rfl (Or.inl rfl))) (fun _ _ _ _ _ => pts_nil) (fun _ _ _ _ _ => (pe_call F1 hr (by rfl) m1 k1 b1 .nil pass0 (pa_cons (pe_ix ix_any (pv 0) (pv 5) (fun _ _ => rfl)) (pa_cons (pe_ix ix_any (pv 1) (pv 5) (fun _ _ => rfl)) pa_nil))))) pa_nil))))))) pss_nil) (pss_one (ps_ret (pe_and (pe_cmpR (op_eqP hu) (pe_callB call_isi (by rfl) M.isinstance b_isinstance (pa_cons (pv 0) (pa_cons (pe_bltn (v := .ty "bool") rfl M.bool b_bool rfl) pa_nil))) (pe_callB call_isi (by rfl) M.isinstance b_isinstance (pa_cons (pv 1) (pa_cons (pe_bltn (v := .ty "bool") rfl M.bool b_bool rfl) pa_nil))) (by first | exact nomark _ | rfl)) (pe_one (pe_cmpR (op_eqA hu Fq T.eq (hr.mono (by first | decide | omega)) bq) (pv 0) (pv 1) (by first | exact nomark _ | rfl)))))))), (rs_sq (rs_if (fun Z => (rt_v (re_isT I rfl rfl re_v))) (rs_sq (rs_set fun Z => (re_and (re_op r2_eq (re_isB I (by decide) re_v) (re_isB I (by decide) re_v)) (re_op r2_eq (re_isB I (by decide) re_v) (re_isB I (by decide) re_v)))) (rs_ret fun Z => (re_and re_v (re_and (re_op r2_eq (re_cb rn_len (ra_cons re_v ra_nil)) (re_cb rn_len (ra_cons re_v ra_nil))) (re_cb rn_all (ra_cons (re_lc (ri_zip re_v re_v) (rg_un rfl) (by decide) (fun Z => rt_yes) (fun Z => (re_call (ra_cons re_v (ra_cons re_v ra_nil))))) ra_nil)))))) rs_nx) (rs_sq (rs_if (fun Z => (rt_v (re_isB I (by decide) re_v))) (rs_sq (rs_set fun Z => (re_and (re_isB I (by decide) re_v) (re_call (ra_cons (re_cb rn_list (ra_cons re_v ra_nil)) (ra_cons (re_cb rn_list (ra_cons re_v ra_nil)) ra_nil))))) (rs_ret fun Z => (re_and re_v (re_cb rn_all (ra_cons (re_lc (ri_seq re_v) rg_nm (by decide) (fun Z => rt_yes) (fun Z => (re_call (ra_cons (re_op r2_ix re_v re_v) (ra_cons (re_op r2_ix re_v re_v) ra_nil))))) ra_nil))))) rs_nx) (rs_ret fun Z => (re_and (re_op r2_eq (re_isB I (by decide) re_v) (re_isB I (by decide) re_v)) (re_op (r2_eqA I) re_v re_v)))))⟩
abbrev st_w_words : Stmt := top 45
abbrev nn_w_words : List Str := ["_law_purse_here", "_law_many", "_law_base", "_law_near", "_law_spot", "_law_found", "_law_turn_here", "_law_word_here", "_law_letter"]
theorem sc_w_words : FnScope nn_w_words ["_law_purse_here", "_law_many"] (defScope st_w_words) := ⟨rfl, rfl, rfl, by decide +kernel, rfl, by decide +kernel, by decide +kernel⟩
theorem has_w_words {S S1 S2 : ST} (M : Nm mg) (r : RawF K mg "_law_words" st_w_words) (h1 : Has P w K mg base C 3 "_law_word" ["_law_purse_here"] [true] S1) (h2 : Has P w K mg base C 2 "_law_draw" ["_law_purse_here", "_law_many"] [true, true] S2)
    (tree : ∀ ds n R, S ds n R → B_w_words S1 S2 (ends R) (slots [true, true] ds 7) n) : Has P w K mg base C 4 "_law_words" ["_law_purse_here", "_law_many"] [true, true] S := by
  obtain ⟨f, fd, m0, F⟩ := r
  obtain ⟨f1, fd1, F1, m1, k1, b1⟩ := h1
  obtain ⟨f2, fd2, F2, m2, k2, b2⟩ := h2
  refine ⟨f, fd, def_ok F sc_w_words rfl (fun cdv A outer s H E hr => ?_) tree, m0, F.kp, F.binds fun _ _ _ _ _ _ us hl => match us, hl with | [_, _], _ => rfl⟩
  have hu := units62 hr
  exact ⟨_, (pss_cons (ps_par (i := 2) (j := 3) rfl sc_w_words.nd rfl rfl (by decide) rfl rfl (pa_cons (pe_call F1 (hr.mono (by first | decide | omega)) rfl m1 k1 b1 .nil pass0 (pa_cons (pv 0) pa_nil)) (pa_cons (pe_cmpR (op_eqP hu) (pe_call F2 (hr.mono (by first | decide | omega)) rfl m2 k2 b2 .nil pass0 (pa_cons (pv 0) (pa_cons pe_int pa_nil))) pe_int (by first | exact nomark _ | rfl)) pa_nil)) rfl) (pss_cons (ps_asg (pe_tup (pa_cons (pe_call F2 (hr.mono (by first | decide | omega)) rfl m2 k2 b2 .nil pass0 (pa_cons (pv 0) (pa_cons (pe_callB call_lenA (by rfl) M.len b_len (pa_cons (pv 2) pa_nil)) pa_nil))) (pa_cons (pe_lst pa_nil) pa_nil))) (pg_un rfl (pgs_cons (pg_name (i := 4) sc_w_words.nd rfl (Or.inl rfl)) (pgs_cons (pg_name (i := 5) sc_w_words.nd rfl (Or.inr rfl)) pgs_nil)))) (pss_cons (ps_for PassesOwn.never rfl (pi_range1 (by rfl) M.range (pa_cons (pv 1) pa_nil)) (pg_name (i := 6) sc_w_words.nd rfl (Or.inl rfl)) (pss_cons (ps_set (i := 7) sc_w_words.nd rfl (Or.inl rfl) (pe_op op_addA (pe_op op_addA (pe_slice sl_any (pv 2) po_none (po_some (pv 4))) (pe_ix ix_any pe_str (pe_call F2 (hr.mono (by first | decide | omega)) rfl m2 k2 b2 .nil pass0 (pa_cons (pv 0) (pa_cons pe_int pa_nil))) (fun _ _ => rfl))) (pe_slice sl_any (pv 2) (po_some (pe_op op_addA (pv 4) pe_int)) po_none))) (pss_cons (ps_if (pt_not (pt_val (pv 3))) (pss_one (ps_set (i := 7) sc_w_words.nd rfl (Or.inl rfl) (pe_call F1 (hr.mono (by first | decide | omega)) rfl m1 k1 b1 .nil pass0 (pa_cons (pv 0) pa_nil)))) pss_nil) (pss_cons (ps_if (pt_cmpR (op_inA hu) (pv 7) (pv 5) (by first | exact nomark _ | rfl)) (pss_one (ps_set (i := 7) sc_w_words.nd rfl (Or.inl rfl) (pe_ix ix_any (pe_lc (own := [("_law_letter", 8)]) rfl sc_w_words.nd (pi_seq (pe_callTy (call_listA rfl) (by rfl) M.list b_list (pa_cons pe_str pa_nil))) (blkOk_by (N := nn_w_words) (sc := defScope st_w_words) (by decide +kernel)) (fun _ _ _ _ _ => (pg_name (i := 8) sc_w_words.nd rfl (Or.inl rfl))) (fun _ _ _ _ _ => (pts_one (pt_cmpR (op_ninP hu) (pv 8) (pv 5) (by first | exact nomark _ | rfl)))) (fun _ _ _ _ _ => (pv 8))) pe_int (fun _ _ => rfl)))) pss_nil) (pss_one (ps_expr (pe_bm PySem.F.plainAttrs_list PySem.F.slot_list_append PySem.F.type_list_append mt_append (pv 5) (pa_cons (pv 7) pa_nil)))))))) (pss_one (ps_ret (pv 5)))))), (rs_sq (rs_par (fun Z => (re_call (ra_cons re_v ra_nil))) (fun Z => (re_op r2_eq (re_call (ra_cons re_v (ra_cons re_int ra_nil))) re_int))) (rs_sq (rs_parU (fun Z => (re_call (ra_cons re_v (ra_cons (re_cb rn_len (ra_cons re_v ra_nil)) ra_nil)))) (fun Z => (re_lst ra_nil))) (rs_sq (rs_for (fun Z => (ri_r1 re_v)) rg_nm (rs_sq (rs_set fun Z => (re_op r2_add (re_op r2_add (re_sl re_v ro_none (ro_some re_v)) (re_op r2_ix re_str (re_call (ra_cons re_v (ra_cons re_int ra_nil))))) (re_sl re_v (ro_some (re_op r2_add re_v re_int)) ro_none))) (rs_sq (rs_if (fun Z => (rt_not (rt_v re_v))) (rs_set fun Z => (re_call (ra_cons re_v ra_nil))) rs_nx) (rs_sq (rs_if (fun Z => (rt_c (re_op r2_inA re_v re_v))) (rs_set fun Z => (re_op r2_ix (re_lc (ri_seq (re_cb rn_list (ra_cons re_str ra_nil))) rg_nm (by decide) (fun Z => (rt_c (re_op r2_nin re_v re_v))) (fun Z => re_v)) re_int)) rs_nx) (rs_rel 7 (rs_app fun Z => re_v)))))) rs_retV)))⟩
abbrev st_w_catalogue : Stmt := top 46
abbrev nn_w_catalogue : List Str := ["_law_purse_here", "_law_many", "_law_words_here"]
theorem sc_w_catalogue : FnScope nn_w_catalogue ["_law_purse_here", "_law_many"] (defScope st_w_catalogue) := ⟨rfl, rfl, rfl, by decide +kernel, rfl, by decide +kernel, by decide +kernel⟩
theorem has_w_catalogue {S S1 S2 S3 : ST} (M : Nm mg) (r : RawF K mg "_law_catalogue" st_w_catalogue) (h1 : Has P w K mg base C 4 "_law_words" ["_law_purse_here", "_law_many"] [true, true] S1) (h2 : Has P w K mg base C 2 "_law_draw" ["_law_purse_here", "_law_many"] [true, true] S2) (h3 : Has P w K mg base C 3 "_law_shuffled" ["_law_purse_here", "_law_some"] [true, true] S3)
    (tree : ∀ ds n R, S ds n R → B_w_catalogue S1 S2 S3 (ends R) (slots [true, true] ds 1) n) : Has P w K mg base C 5 "_law_catalogue" ["_law_purse_here", "_law_many"] [true, true] S := by
  obtain ⟨f, fd, m0, F⟩ := r
  obtain ⟨f1, fd1, F1, m1, k1, b1⟩ := h1
  obtain ⟨f2, fd2, F2, m2, k2, b2⟩ := h2
  obtain ⟨f3, fd3, F3, m3, k3, b3⟩ := h3
  refine ⟨f, fd, def_ok F sc_w_catalogue rfl (fun cdv A outer s H E hr => ?_) tree, m0, F.kp, F.binds fun _ _ _ _ _ _ us hl => match us, hl with | [_, _], _ => rfl⟩
  have hu := units62 hr
  exact ⟨_, (pss_cons (ps_set (i := 2) sc_w_catalogue.nd rfl (Or.inl rfl) (pe_call F1 (hr.mono (by first | decide | omega)) rfl m1 k1 b1 .nil pass0 (pa_cons (pv 0) (pa_cons (pv 1) pa_nil)))) (pss_one (ps_ret (pe_ifExp (pt_cmpR (op_eqP hu) (pe_call F2 (hr.mono (by first | decide | omega)) rfl m2 k2 b2 .nil pass0 (pa_cons (pv 0) (pa_cons pe_int pa_nil))) pe_int (by first | exact nomark _ | rfl)) (pe_callB cr_sortAT (by rfl) M.sorted b_sorted (pa_cons (pv 2) pa_nil)) (pe_call F3 (hr.mono (by first | decide | omega)) rfl m3 k3 b3 .nil pass0 (pa_cons (pv 0) (pa_cons (pv 2) pa_nil))))))), (rs_sq (rs_set fun Z => (re_call (ra_cons re_v (ra_cons re_v ra_nil)))) (rs_ret fun Z => (re_ifx (rt_c (re_op r2_eq (re_call (ra_cons re_v (ra_cons re_int ra_nil))) re_int)) (re_cb rn_sortedT (ra_cons re_v ra_nil)) (re_call (ra_cons re_v (ra_cons re_v ra_nil))))))⟩
abbrev st_w_sizes : Stmt := top 47
abbrev nn_w_sizes : List Str := ["_law_purse_here", "_law_size", "_law_many", "_law_sizes_here", "_law_turn_here", "_law_at"]
theorem sc_w_sizes : FnScope nn_w_sizes ["_law_purse_here", "_law_size", "_law_many"] (defScope st_w_sizes) := ⟨rfl, rfl, rfl, by decide +kernel, rfl, by decide +kernel, by decide +kernel⟩
theorem has_w_sizes {S S1 : ST} (M : Nm mg) (r : RawF K mg "_law_sizes" st_w_sizes) (h1 : Has P w K mg base C 2 "_law_draw" ["_law_purse_here", "_law_many"] [true, true] S1)
    (tree : ∀ ds n R, S ds n R → B_w_sizes S1 (ends R) (slots [true, true, true] ds 3) n) : Has P w K mg base C 3 "_law_sizes" ["_law_purse_here", "_law_size", "_law_many"] [true, true, true] S := by
  obtain ⟨f, fd, m0, F⟩ := r
  obtain ⟨f1, fd1, F1, m1, k1, b1⟩ := h1
  refine ⟨f, fd, def_ok F sc_w_sizes rfl (fun cdv A outer s H E hr => ?_) tree, m0, F.kp, F.binds fun _ _ _ _ _ _ us hl => match us, hl with | [_, _, _], _ => rfl⟩
  have hu := units62 hr
  exact ⟨_, (pss_cons (ps_set (i := 3) sc_w_sizes.nd rfl (Or.inl rfl) (pe_op op_mulA (pe_lst (pa_cons pe_int pa_nil)) (pv 2))) (pss_cons (ps_for PassesOwn.never rfl (pi_range1 (by rfl) M.range (pa_cons (pe_op op_sub (pv 1) (pv 2)) pa_nil)) (pg_name (i := 4) sc_w_sizes.nd rfl (Or.inl rfl)) (pss_cons (ps_set (i := 5) sc_w_sizes.nd rfl (Or.inl rfl) (pe_call F1 (hr.mono (by first | decide | omega)) rfl m1 k1 b1 .nil pass0 (pa_cons (pv 0) (pa_cons (pv 2) pa_nil)))) (pss_one (ps_asg (pe_op op_addA (pe_ix ix_any (pv 3) (pv 5) (fun _ _ => rfl)) pe_int) (pg_sub (pv 3) (pv 5) set_list))))) (pss_one (ps_ret (pv 3))))), (rs_sq (rs_set fun Z => (re_op r2_mul (re_lst (ra_cons re_int ra_nil)) re_v)) (rs_sq (rs_for (fun Z => (ri_r1 (re_op r2_sub re_v re_v))) rg_nm (rs_sq (rs_set fun Z => (re_call (ra_cons re_v (ra_cons re_v ra_nil)))) (rs_setIx (fun Z => (re_op r2_add (re_op r2_ix re_v re_v) re_int)) (fun Z => re_v)))) rs_retV))⟩
abbrev st_w_crossed_rows : Stmt := top 48
abbrev nn_w_crossed_rows : List Str := ["_law_many"]
theorem sc_w_crossed_rows : FnScope nn_w_crossed_rows ["_law_many"] (defScope st_w_crossed_rows) := ⟨rfl, rfl, rfl, by decide +kernel, rfl, by decide +kernel, by decide +kernel⟩
theorem has_w_crossed_rows {S : ST} (M : Nm mg) (r : RawF K mg "_law_crossed_rows" st_w_crossed_rows)
    (tree : ∀ ds n R, S ds n R → B_w_crossed_rows (ends R) (slots [true] ds 0) n) : Has P w K mg base C 1 "_law_crossed_rows" ["_law_many"] [true] S := by
  obtain ⟨f, fd, m0, F⟩ := r
  refine ⟨f, fd, def_ok F sc_w_crossed_rows rfl (fun cdv A outer s H E hr => ?_) tree, m0, F.kp, F.binds fun _ _ _ _ _ _ us hl => match us, hl with | [_], _ => rfl⟩
  have hu := units62 hr
  exact ⟨_, (pss_cons (ps_if (pt_cmpR (op_eqP hu) (pv 0) pe_int (by first | exact nomark _ | rfl)) (pss_one (ps_ret (pe_lst (pa_cons (pe_lst (pa_cons pe_int (pa_cons pe_int (pa_cons pe_int (pa_cons pe_int pa_nil))))) pa_nil)))) pss_nil) (pss_cons (ps_if (pt_cmpR (op_eqP hu) (pv 0) pe_int (by first | exact nomark _ | rfl)) (pss_one (ps_ret (pe_lst (pa_cons (pe_lst (pa_cons pe_int (pa_cons pe_int (pa_cons pe_int (pa_cons pe_int (pa_cons pe_int pa_nil)))))) (pa_cons (pe_lst (pa_cons pe_int (pa_cons pe_int (pa_cons pe_int (pa_cons pe_int (pa_cons pe_int pa_nil)))))) (pa_cons (pe_lst (pa_cons pe_int (pa_cons pe_int (pa_cons pe_int (pa_cons pe_int (pa_cons pe_int pa_nil)))))) pa_nil)))))) pss_nil) (pss_one (ps_ret (pe_lst (pa_cons (pe_lst (pa_cons pe_int (pa_cons pe_int (pa_cons pe_int (pa_cons pe_int (pa_cons pe_int (pa_cons pe_int pa_nil))))))) (pa_cons (pe_lst (pa_cons pe_int (pa_cons pe_int (pa_cons pe_int (pa_cons pe_int (pa_cons pe_int (pa_cons pe_int pa_nil))))))) (pa_cons (pe_lst (pa_cons pe_int (pa_cons pe_int (pa_cons pe_int (pa_cons pe_int (pa_cons pe_int (pa_cons pe_int pa_nil))))))) pa_nil)))))))), (rs_sq (rs_if (fun Z => (rt_c (re_op r2_eq re_v re_int))) (rs_ret fun Z => (re_lst (ra_cons (re_lst (ra_cons re_int (ra_cons re_int (ra_cons re_int (ra_cons re_int ra_nil))))) ra_nil))) rs_nx) (rs_sq (rs_if (fun Z => (rt_c (re_op r2_eq re_v re_int))) (rs_ret fun Z => (re_lst (ra_cons (re_lst (ra_cons re_int (ra_cons re_int (ra_cons re_int (ra_cons re_int (ra_cons re_int ra_nil)))))) (ra_cons (re_lst (ra_cons re_int (ra_cons re_int (ra_cons re_int (ra_cons re_int (ra_cons re_int ra_nil)))))) (ra_cons (re_lst (ra_cons re_int (ra_cons re_int (ra_cons re_int (ra_cons re_int (ra_cons re_int ra_nil)))))) ra_nil))))) rs_nx) (rs_ret fun Z => (re_lst (ra_cons (re_lst (ra_cons re_int (ra_cons re_int (ra_cons re_int (ra_cons re_int (ra_cons re_int (ra_cons re_int ra_nil))))))) (ra_cons (re_lst (ra_cons re_int (ra_cons re_int (ra_cons re_int (ra_cons re_int (ra_cons re_int (ra_cons re_int ra_nil))))))) (ra_cons (re_lst (ra_cons re_int (ra_cons re_int (ra_cons re_int (ra_cons re_int (ra_cons re_int (ra_cons re_int ra_nil))))))) ra_nil)))))))⟩
abbrev st_w_heap_sizes : Stmt := top 49
abbrev nn_w_heap_sizes : List Str := ["_law_purse_here", "_law_size", "_law_sizes_here", "_law_rest"]
theorem sc_w_heap_sizes : FnScope nn_w_heap_sizes ["_law_purse_here", "_law_size"] (defScope st_w_heap_sizes) := ⟨rfl, rfl, rfl, by decide +kernel, rfl, by decide +kernel, by decide +kernel⟩
theorem has_w_heap_sizes {S S1 : ST} (M : Nm mg) (r : RawF K mg "_law_heap_sizes" st_w_heap_sizes) (h1 : Has P w K mg base C 2 "_law_draw" ["_law_purse_here", "_law_many"] [true, true] S1)
    (tree : ∀ ds n R, S ds n R → B_w_heap_sizes S1 (ends R) (slots [true, true] ds 2) n) : Has P w K mg base C 3 "_law_heap_sizes" ["_law_purse_here", "_law_size"] [true, true] S := by
  obtain ⟨f, fd, m0, F⟩ := r
  obtain ⟨f1, fd1, F1, m1, k1, b1⟩ := h1
  refine ⟨f, fd, def_ok F sc_w_heap_sizes rfl (fun cdv A outer s H E hr => ?_) tree, m0, F.kp, F.binds fun _ _ _ _ _ _ us hl => match us, hl with | [_, _], _ => rfl⟩
  have hu := units62 hr
  exact ⟨_, (pss_cons (ps_set (i := 2) sc_w_heap_sizes.nd rfl (Or.inl rfl) (pe_lst pa_nil)) (pss_cons (ps_while PassesOwn.never (pt_cmpR op_ltA (pe_callB (cr_sum rfl) (by rfl) M.sum b_sum (pa_cons (pv 2) pa_nil)) (pv 1) (by first | exact nomark _ | rfl)) (pss_cons (ps_set (i := 3) sc_w_heap_sizes.nd rfl (Or.inl rfl) (pe_op op_sub (pv 1) (pe_callB (cr_sum rfl) (by rfl) M.sum b_sum (pa_cons (pv 2) pa_nil)))) (pss_one (ps_if (PW.pt (pw_and (pt_cmpR op_gt (pv 3) pe_int (by first | exact nomark _ | rfl)) (pw_and1 (pt_cmpR (op_eqP hu) (pe_call F1 (hr.mono (by first | decide | omega)) rfl m1 k1 b1 .nil pass0 (pa_cons (pv 0) (pa_cons pe_int pa_nil))) pe_int (by first | exact nomark _ | rfl))))) (pss_one (ps_expr (pe_bm PySem.F.plainAttrs_list PySem.F.slot_list_append PySem.F.type_list_append mt_append (pv 2) (pa_cons (pe_op op_addA pe_int (pe_call F1 (hr.mono (by first | decide | omega)) rfl m1 k1 b1 .nil pass0 (pa_cons (pv 0) (pa_cons (pe_callB (call_minA rfl) (by rfl) M.min b_min (pa_cons pe_int (pa_cons (pe_op op_sub (pv 3) pe_int) pa_nil))) pa_nil)))) pa_nil)))) (pss_one (ps_if (PW.pt (pw_and (pt_cmpR op_gt (pv 3) pe_int (by first | exact nomark _ | rfl)) (pw_and (pt_cmpR (op_neP hu) (pv 2) (pe_lst pa_nil) (by first | exact nomark _ | rfl)) (pw_and1 (pt_cmpR (op_eqP hu) (pe_call F1 (hr.mono (by first | decide | omega)) rfl m1 k1 b1 .nil pass0 (pa_cons (pv 0) (pa_cons pe_int pa_nil))) pe_int (by first | exact nomark _ | rfl)))))) (pss_one (ps_expr (pe_bm PySem.F.plainAttrs_list PySem.F.slot_list_append PySem.F.type_list_append mt_append (pv 2) (pa_cons (pe_op op_addA pe_int (pe_call F1 (hr.mono (by first | decide | omega)) rfl m1 k1 b1 .nil pass0 (pa_cons (pv 0) (pa_cons (pe_op op_sub (pv 3) pe_int) pa_nil)))) pa_nil)))) (pss_one (ps_expr (pe_bm PySem.F.plainAttrs_list PySem.F.slot_list_append PySem.F.type_list_append mt_append (pv 2) (pa_cons pe_int pa_nil)))))))))) (pss_one (ps_ret (pv 2))))), (rs_sq (rs_set fun Z => (re_lst ra_nil)) (rs_sq (rs_while (fun Z => (rt_c (re_op r2_lt (re_cb rn_sum (ra_cons re_v ra_nil)) re_v))) (rs_sq (rs_set fun Z => (re_op r2_sub re_v (re_cb rn_sum (ra_cons re_v ra_nil)))) (rs_if (fun Z => (rt_and (rt_c (re_op r2_gt re_v re_int)) (rt_c (re_op r2_eq (re_call (ra_cons re_v (ra_cons re_int ra_nil))) re_int)))) (rs_app fun Z => (re_op r2_add re_int (re_call (ra_cons re_v (ra_cons (re_cb (rn_or1 rn_min2) (ra_cons re_int (ra_cons (re_op r2_sub re_v re_int) ra_nil))) ra_nil))))) (rs_if (fun Z => (rt_and (rt_c (re_op r2_gt re_v re_int)) (rt_and (rt_c (re_op r2_ne re_v (re_lst ra_nil))) (rt_c (re_op r2_eq (re_call (ra_cons re_v (ra_cons re_int ra_nil))) re_int))))) (rs_app fun Z => (re_op r2_add re_int (re_call (ra_cons re_v (ra_cons (re_op r2_sub re_v re_int) ra_nil))))) (rs_app fun Z => re_int))))) rs_retV))⟩
abbrev st_w_nodes : Stmt := top 50
abbrev nn_w_nodes : List Str := ["_law_purse_here", "_law_size", "_law_nodes_here", "_law_at", "_law_kind", "_law_start", "_law_many", "_law_parts", "_law_numbers", "_law_is_crossed", "_law_sizes_here", "_law_piece"]
theorem sc_w_nodes : FnScope nn_w_nodes ["_law_purse_here", "_law_size"] (defScope st_w_nodes) := ⟨rfl, rfl, rfl, by decide +kernel, rfl, by decide +kernel, by decide +kernel⟩
theorem has_w_nodes {S S1 S2 S3 S4 S5 : ST} (M : Nm mg) (r : RawF K mg "_law_nodes" st_w_nodes) (h1 : Has P w K mg base C 2 "_law_draw" ["_law_purse_here", "_law_many"] [true, true] S1) (h2 : Has P w K mg base C 3 "_law_heap_sizes" ["_law_purse_here", "_law_size"] [true, true] S2) (h3 : Has P w K mg base C 3 "_law_sizes" ["_law_purse_here", "_law_size", "_law_many"] [true, true, true] S3) (h4 : Has P w K mg base C 3 "_law_one_of" ["_law_purse_here", "_law_some"] [true, true] S4) (h5 : Has P w K mg base C 1 "_law_crossed_rows" ["_law_many"] [true] S5)
    (tree : ∀ ds n R, S ds n R → B_w_nodes S1 S2 S3 S4 S5 (ends R) (slots [true, false] ds 10) n) : Has P w K mg base C 4 "_law_nodes" ["_law_purse_here", "_law_size"] [true, false] S := by
  obtain ⟨f, fd, m0, F⟩ := r
  obtain ⟨f1, fd1, F1, m1, k1, b1⟩ := h1
  obtain ⟨f2, fd2, F2, m2, k2, b2⟩ := h2
  obtain ⟨f3, fd3, F3, m3, k3, b3⟩ := h3
  obtain ⟨f4, fd4, F4, m4, k4, b4⟩ := h4
  obtain ⟨f5, fd5, F5, m5, k5, b5⟩ := h5
  refine ⟨f, fd, def_ok F sc_w_nodes rfl (fun cdv A outer s H E hr => ?_) tree, m0, F.kp, F.binds fun _ _ _ _ _ _ us hl => match us, hl with | [_, _], _ => rfl⟩
  have hu := units62 hr
  exact ⟨_, (pss_cons (ps_par (i := 2) (j := 3) rfl sc_w_nodes.nd rfl rfl (by decide) rfl rfl (pa_cons (pe_lst (pa_cons (pe_lst (pa_cons pe_str (pa_cons pe_int (pa_cons (pv 1) (pa_cons (pe_lst pa_nil) (pa_cons (pe_lst pa_nil) pa_nil)))))) pa_nil)) (pa_cons pe_int pa_nil)) rfl) (pss_cons (ps_while PassesOwn.never (pt_cmpR op_ltA (pv 3) (pe_callB call_lenA (by rfl) M.len b_len (pa_cons (pv 2) pa_nil)) (by first | exact nomark _ | rfl)) (pss_cons (ps_asg (pe_ix ix_any (pv 2) (pv 3) (fun _ _ => rfl)) (pg_un rfl (pgs_cons (pg_name (i := 4) sc_w_nodes.nd rfl (Or.inl rfl)) (pgs_cons (pg_name (i := 5) sc_w_nodes.nd rfl (Or.inl rfl)) (pgs_cons (pg_name (i := 6) sc_w_nodes.nd rfl (Or.inl rfl)) (pgs_cons (pg_name (i := 7) sc_w_nodes.nd rfl (Or.inl rfl)) (pgs_cons (pg_name (i := 8) sc_w_nodes.nd rfl (Or.inl rfl)) pgs_nil))))))) (pss_cons (ps_set (i := 9) sc_w_nodes.nd rfl (Or.inl rfl) (pe_or (pe_cmpR (op_eqP hu) (pv 4) pe_str (by first | exact nomark _ | rfl)) (pe_one (pe_and (pe_cmpR (op_eqP hu) (pv 4) pe_str (by first | exact nomark _ | rfl)) (pe_and (pe_cmpR op_gt (pv 6) pe_int (by first | exact nomark _ | rfl)) (pe_one (pe_cmpR (op_eqP hu) (pe_call F1 (hr.mono (by first | decide | omega)) rfl m1 k1 b1 .nil pass0 (pa_cons (pv 0) (pa_cons pe_int pa_nil))) pe_int (by first | exact nomark _ | rfl)))))))) (pss_cons (ps_if (pt_cmpR op_gt (pv 6) pe_int (by first | exact nomark _ | rfl)) (pss_cons (ps_set (i := 10) sc_w_nodes.nd rfl (Or.inl rfl) (pe_ifExp (pt_val (pv 9)) (pe_lst pa_nil) (pe_call F2 (hr.mono (by first | decide | omega)) rfl m2 k2 b2 .nil pass0 (pa_cons (pv 0) (pa_cons (pv 6) pa_nil))))) (pss_cons (ps_if (pt_val (pv 9)) (pss_one (ps_set (i := 10) sc_w_nodes.nd rfl (Or.inl rfl) (pe_call F3 (hr.mono (by first | decide | omega)) rfl m3 k3 b3 .nil pass0 (pa_cons (pv 0) (pa_cons (pv 6) (pa_cons (pe_op op_addA pe_int (pe_call F1 (hr.mono (by first | decide | omega)) rfl m1 k1 b1 .nil pass0 (pa_cons (pv 0) (pa_cons (pe_callB (call_minA rfl) (by rfl) M.min b_min (pa_cons pe_int (pa_cons (pe_op op_sub (pv 6) pe_int) pa_nil))) pa_nil)))) pa_nil)))))) pss_nil) (pss_cons (ps_set (i := 8) sc_w_nodes.nd rfl (Or.inl rfl) (pe_listRg rfl (by rfl) M.list (prg_1 (by rfl) M.range (pe_callB call_lenA (by rfl) M.len b_len (pa_cons (pv 10) pa_nil))))) (pss_cons (ps_if (pt_val (pv 9)) (pss_one (ps_set (i := 8) sc_w_nodes.nd rfl (Or.inl rfl) (pe_call F4 (hr.mono (by first | decide | omega)) rfl m4 k4 b4 .nil pass0 (pa_cons (pv 0) (pa_cons (pe_call F5 (hr.mono (by first | decide | omega)) rfl m5 k5 b5 .nil pass0 (pa_cons (pe_callB call_lenA (by rfl) M.len b_len (pa_cons (pv 10) pa_nil)) pa_nil)) pa_nil))))) pss_nil) (pss_cons (ps_for PassesOwn.never rfl (pi_seq (pv 10)) (pg_name (i := 11) sc_w_nodes.nd rfl (Or.inl rfl)) (pss_cons (ps_set (i := 7) sc_w_nodes.nd rfl (Or.inl rfl) (pe_op op_addA (pv 7) (pe_lst (pa_cons (pe_callB call_lenA (by rfl) M.len b_len (pa_cons (pv 2) pa_nil)) pa_nil)))) (pss_cons (ps_expr (pe_bm PySem.F.plainAttrs_list PySem.F.slot_list_append PySem.F.type_list_append mt_append (pv 2) (pa_cons (pe_lst (pa_cons (pe_ifExp (pt_val (pv 9)) pe_str (pe_ifExp (pt_cmpR op_gt (pv 11) pe_int (by first | exact nomark _ | rfl)) pe_str pe_str)) (pa_cons (pv 5) (pa_cons (pv 11) (pa_cons (pe_lst pa_nil) (pa_cons (pe_lst pa_nil) pa_nil)))))) pa_nil))) (pss_one (ps_set (i := 5) sc_w_nodes.nd rfl (Or.inl rfl) (pe_op op_addA (pv 5) (pv 11))))))) (pss_one (ps_asg (pe_lst (pa_cons (pe_ifExp (pt_val (pv 9)) pe_str pe_str) (pa_cons (pe_ix ix_any (pe_ix ix_any (pv 2) (pv 3) (fun _ _ => rfl)) pe_int (fun _ _ => rfl)) (pa_cons (pv 6) (pa_cons (pv 7) (pa_cons (pv 8) pa_nil)))))) (pg_sub (pv 2) (pv 3) set_list)))))))) pss_nil) (pss_one (ps_set (i := 3) sc_w_nodes.nd rfl (Or.inl rfl) (pe_op op_addA (pv 3) pe_int))))))) (pss_one (ps_ret (pv 2))))), (rs_sq (rs_rel 1 (rs_par (fun Z => (re_lst (ra_cons (re_lst (ra_cons re_str (ra_cons re_int (ra_cons re_v (ra_cons (re_lst ra_nil) (ra_cons (re_lst ra_nil) ra_nil)))))) ra_nil))) (fun Z => re_int))) (rs_sq (rs_while (fun Z => (rt_c (re_op r2_lt re_v (re_cb rn_len (ra_cons re_v ra_nil))))) (rs_sq (rs_un rfl (fun Z => (re_op r2_ix re_v re_v))) (rs_sq (rs_set fun Z => (re_or (re_op r2_eq re_v re_str) (re_and (re_op r2_eq re_v re_str) (re_and (re_op r2_gt re_v re_int) (re_op r2_eq (re_call (ra_cons re_v (ra_cons re_int ra_nil))) re_int))))) (rs_sq (rs_if (fun Z => (rt_c (re_op r2_gt re_v re_int))) (rs_sq (rs_set fun Z => (re_ifx (rt_v re_v) (re_lst ra_nil) (re_call (ra_cons re_v (ra_cons re_v ra_nil))))) (rs_sq (rs_if (fun Z => (rt_v re_v)) (rs_set fun Z => (re_call (ra_cons re_v (ra_cons re_v (ra_cons (re_op r2_add re_int (re_call (ra_cons re_v (ra_cons (re_cb (rn_or1 rn_min2) (ra_cons re_int (ra_cons (re_op r2_sub re_v re_int) ra_nil))) ra_nil)))) ra_nil))))) rs_nx) (rs_sq (rs_set fun Z => (re_lrg1 (re_cb rn_len (ra_cons re_v ra_nil)))) (rs_sq (rs_if (fun Z => (rt_v re_v)) (rs_set fun Z => (re_call (ra_cons re_v (ra_cons (re_call (ra_cons (re_cb rn_len (ra_cons re_v ra_nil)) ra_nil)) ra_nil)))) rs_nx) (rs_sq (rs_rel 10 (rs_for (fun Z => (ri_seq re_v)) rg_nm (rs_sq (rs_set fun Z => (re_op r2_add re_v (re_lst (ra_cons (re_cb rn_len (ra_cons re_v ra_nil)) ra_nil)))) (rs_sq (rs_rel 11 (rs_rel 5 (rs_app fun Z => (re_lst (ra_cons (re_ifx (rt_v re_v) re_str (re_ifx (rt_c (re_op r2_gt re_v re_int)) re_str re_str)) (ra_cons re_v (ra_cons re_v (ra_cons (re_lst ra_nil) (ra_cons (re_lst ra_nil) ra_nil))))))))) (rs_set fun Z => (re_op r2_add re_v re_v)))))) (rs_rel 8 (rs_rel 7 (rs_rel 6 (rs_setIx (fun Z => (re_lst (ra_cons (re_ifx (rt_v re_v) re_str re_str) (ra_cons (re_op r2_ix (re_op r2_ix re_v re_v) re_int) (ra_cons re_v (ra_cons re_v (ra_cons re_v ra_nil))))))) (fun Z => re_v)))))))))) rs_nx) (rs_set fun Z => (re_op r2_add re_v re_int)))))) rs_retV))⟩
abbrev st_w_home_row : Stmt := top 51
abbrev nn_w_home_row : List Str := ["_law_nodes_here", "_law_catalogue_here", "_law_row", "_law_at", "_law_kind", "_law_start", "_law_many", "_law_parts", "_law_numbers", "_law_number"]
theorem sc_w_home_row : FnScope nn_w_home_row ["_law_nodes_here", "_law_catalogue_here"] (defScope st_w_home_row) := ⟨rfl, rfl, rfl, by decide +kernel, rfl, by decide +kernel, by decide +kernel⟩
theorem has_w_home_row {S : ST} (M : Nm mg) (r : RawF K mg "_law_home_row" st_w_home_row)
    (tree : ∀ ds n R, S ds n R → B_w_home_row (ends R) (slots [true, true] ds 8) n) : Has P w K mg base C 1 "_law_home_row" ["_law_nodes_here", "_law_catalogue_here"] [true, true] S := by
  obtain ⟨f, fd, m0, F⟩ := r
  refine ⟨f, fd, def_ok F sc_w_home_row rfl (fun cdv A outer s H E hr => ?_) tree, m0, F.kp, F.binds fun _ _ _ _ _ _ us hl => match us, hl with | [_, _], _ => rfl⟩
  have hu := units62 hr
  exact ⟨_, (pss_cons (ps_par (i := 2) (j := 3) rfl sc_w_home_row.nd rfl rfl (by decide) rfl rfl (pa_cons (pe_lst (pa_cons pe_int pa_nil)) (pa_cons pe_int pa_nil)) rfl) (pss_cons (ps_while PassesOwn.never (pt_cmpR op_ltA (pv 3) (pe_callB call_lenA (by rfl) M.len b_len (pa_cons (pv 2) pa_nil)) (by first | exact nomark _ | rfl)) (pss_cons (ps_asg (pe_ix ix_any (pv 0) (pe_ix ix_any (pv 2) (pv 3) (fun _ _ => rfl)) (fun _ _ => rfl)) (pg_un rfl (pgs_cons (pg_name (i := 4) sc_w_home_row.nd rfl (Or.inl rfl)) (pgs_cons (pg_name (i := 5) sc_w_home_row.nd rfl (Or.inl rfl)) (pgs_cons (pg_name (i := 6) sc_w_home_row.nd rfl (Or.inl rfl)) (pgs_cons (pg_name (i := 7) sc_w_home_row.nd rfl (Or.inr rfl)) (pgs_cons (pg_name (i := 8) sc_w_home_row.nd rfl (Or.inl rfl)) pgs_nil))))))) (pss_one (ps_if (pt_cmpR (op_eqP hu) (pv 7) (pe_lst pa_nil) (by first | exact nomark _ | rfl)) (pss_one (ps_set (i := 3) sc_w_home_row.nd rfl (Or.inl rfl) (pe_op op_addA (pv 3) pe_int))) (pss_one (ps_set (i := 2) sc_w_home_row.nd rfl (Or.inl rfl) (pe_op op_addA (pe_op op_addA (pe_slice sl_any (pv 2) po_none (po_some (pv 3))) (pe_lc (own := [("_law_number", 9)]) rfl sc_w_home_row.nd (pi_seq (pv 8)) (blkOk_by (N := nn_w_home_row) (sc := defScope st_w_home_row) (by decide +kernel)) (fun _ _ _ _ _ => (pg_name (i := 9) sc_w_home_row.nd rfl (Or.inl rfl))) (fun _ _ _ _ _ => pts_nil) (fun _ _ _ _ _ => (pe_ix ix_any (pv 7) (pv 9) (fun _ _ => rfl))))) (pe_slice sl_any (pv 2) (po_some (pe_op op_addA (pv 3) pe_int)) po_none)))))))) (pss_one (ps_ret (pe_lc (own := [("_law_number", 9)]) rfl sc_w_home_row.nd (pi_seq (pv 2)) (blkOk_by (N := nn_w_home_row) (sc := defScope st_w_home_row) (by decide +kernel)) (fun _ _ _ _ _ => (pg_name (i := 9) sc_w_home_row.nd rfl (Or.inl rfl))) (fun _ _ _ _ _ => pts_nil) (fun _ _ _ _ _ => (pe_ix ix_any (pv 1) (pe_ix ix_any (pe_ix ix_any (pv 0) (pv 9) (fun _ _ => rfl)) pe_int (fun _ _ => rfl)) (fun _ _ => rfl)))))))), (rs_sq (rs_par (fun Z => (re_lst (ra_cons re_int ra_nil))) (fun Z => re_int)) (rs_sq (rs_while (fun Z => (rt_c (re_op r2_lt re_v (re_cb rn_len (ra_cons re_v ra_nil))))) (rs_sq (rs_un rfl (fun Z => (re_op r2_ix re_v (re_op r2_ix re_v re_v)))) (rs_if (fun Z => (rt_c (re_op r2_eq re_v (re_lst ra_nil)))) (rs_set fun Z => (re_op r2_add re_v re_int)) (rs_set fun Z => (re_op r2_add (re_op r2_add (re_sl re_v ro_none (ro_some re_v)) (re_lc (ri_seq re_v) rg_nm (by decide) (fun Z => rt_yes) (fun Z => (re_op r2_ix re_v re_v)))) (re_sl re_v (ro_some (re_op r2_add re_v re_int)) ro_none)))))) (rs_ret fun Z => (re_lc (ri_seq re_v) rg_nm (by decide) (fun Z => rt_yes) (fun Z => (re_op r2_ix re_v (re_op r2_ix (re_op r2_ix re_v re_v) re_int)))))))⟩
abbrev st_w_turnables : Stmt := top 52
abbrev nn_w_turnables : List Str := ["_law_nodes_here", "_law_catalogue_here", "_law_found", "_law_kind", "_law_start", "_law_many", "_law_parts", "_law_numbers", "_law_first", "_law_last", "_law_begin", "_law_late", "_law_end"]
theorem sc_w_turnables : FnScope nn_w_turnables ["_law_nodes_here", "_law_catalogue_here"] (defScope st_w_turnables) := ⟨rfl, rfl, rfl, by decide +kernel, rfl, by decide +kernel, by decide +kernel⟩
theorem has_w_turnables {S : ST} (M : Nm mg) (r : RawF K mg "_law_turnables" st_w_turnables)
    (tree : ∀ ds n R, S ds n R → B_w_turnables (ends R) (slots [true, true] ds 11) n) : Has P w K mg base C 1 "_law_turnables" ["_law_nodes_here", "_law_catalogue_here"] [true, true] S := by
  obtain ⟨f, fd, m0, F⟩ := r
  refine ⟨f, fd, def_ok F sc_w_turnables rfl (fun cdv A outer s H E hr => ?_) tree, m0, F.kp, F.binds fun _ _ _ _ _ _ us hl => match us, hl with | [_, _], _ => rfl⟩
  have hu := units62 hr
  exact ⟨_, (pss_cons (ps_set (i := 2) sc_w_turnables.nd rfl (Or.inl rfl) (pe_lst pa_nil)) (pss_cons (ps_for PassesOwn.never rfl (pi_seq (pv 0)) (pg_un rfl (pgs_cons (pg_name (i := 3) sc_w_turnables.nd rfl (Or.inl rfl)) (pgs_cons (pg_name (i := 4) sc_w_turnables.nd rfl (Or.inl rfl)) (pgs_cons (pg_name (i := 5) sc_w_turnables.nd rfl (Or.inl rfl)) (pgs_cons (pg_name (i := 6) sc_w_turnables.nd rfl (Or.inl rfl)) (pgs_cons (pg_name (i := 7) sc_w_turnables.nd rfl (Or.inl rfl)) pgs_nil)))))) (pss_cons (ps_if (pt_cmpR (op_eqP hu) (pv 3) pe_str (by first | exact nomark _ | rfl)) (pss_one (ps_expr (pe_bm PySem.F.plainAttrs_list PySem.F.slot_list_append PySem.F.type_list_append mt_append (pv 2) (pa_cons (pe_callTy call_tupA (by rfl) M.tuple b_tuple (pa_cons (pe_slice sl_any (pv 1) (po_some (pv 4)) (po_some (pe_op op_addA (pv 4) (pv 5)))) pa_nil)) pa_nil)))) pss_nil) (pss_one (ps_for PassesOwn.never rfl (pi_range1 (by rfl) M.range (pa_cons (pe_ifExp (pt_cmpR (op_eqP hu) (pv 3) pe_str (by first | exact nomark _ | rfl)) (pe_callB call_lenA (by rfl) M.len b_len (pa_cons (pv 6) pa_nil)) pe_int) pa_nil)) (pg_name (i := 8) sc_w_turnables.nd rfl (Or.inl rfl)) (pss_one (ps_for PassesOwn.never rfl (pi_range2 (by rfl) M.range (pa_cons (pe_op op_addA (pv 8) pe_int) (pa_cons (pe_callB call_lenA (by rfl) M.len b_len (pa_cons (pv 6) pa_nil)) pa_nil))) (pg_name (i := 9) sc_w_turnables.nd rfl (Or.inl rfl)) (pss_cons (ps_par (i := 10) (j := 11) rfl sc_w_turnables.nd rfl rfl (by decide) rfl rfl (pa_cons (pe_ix ix_any (pe_ix ix_any (pv 0) (pe_ix ix_any (pv 6) (pv 8) (fun _ _ => rfl)) (fun _ _ => rfl)) pe_int (fun _ _ => rfl)) (pa_cons (pe_ix ix_any (pv 0) (pe_ix ix_any (pv 6) (pv 9) (fun _ _ => rfl)) (fun _ _ => rfl)) pa_nil)) rfl) (pss_cons (ps_set (i := 12) sc_w_turnables.nd rfl (Or.inl rfl) (pe_op op_addA (pe_ix ix_any (pv 11) pe_int (fun _ _ => rfl)) (pe_ix ix_any (pv 11) pe_int (fun _ _ => rfl)))) (pss_one (ps_expr (pe_bm PySem.F.plainAttrs_list PySem.F.slot_list_append PySem.F.type_list_append mt_append (pv 2) (pa_cons (pe_callTy call_tupA (by rfl) M.tuple b_tuple (pa_cons (pe_slice sl_any (pv 1) (po_some (pv 10)) (po_some (pv 12))) pa_nil)) pa_nil)))))))))))) (pss_one (ps_ret (pe_callB cr_sortAT (by rfl) M.sorted b_sorted (pa_cons (pv 2) pa_nil)))))), (rs_sq (rs_set fun Z => (re_lst ra_nil)) (rs_sq (rs_rel 0 (rs_for (fun Z => (ri_seq re_v)) (rg_un rfl) (rs_sq (rs_if (fun Z => (rt_c (re_op r2_eq re_v re_str))) (rs_app fun Z => (re_cb rn_tup (ra_cons (re_sl re_v (ro_some re_v) (ro_some (re_op r2_add re_v re_v))) ra_nil))) rs_nx) (rs_for (fun Z => (ri_r1 (re_ifx (rt_c (re_op r2_eq re_v re_str)) (re_cb rn_len (ra_cons re_v ra_nil)) re_int))) rg_nm (rs_for (fun Z => (ri_r2 (re_op r2_add re_v re_int) (re_cb rn_len (ra_cons re_v ra_nil)))) rg_nm (rs_sq (rs_par (fun Z => (re_op r2_ix (re_op r2_ix re_v (re_op r2_ix re_v re_v)) re_int)) (fun Z => (re_op r2_ix re_v (re_op r2_ix re_v re_v)))) (rs_sq (rs_set fun Z => (re_op r2_add (re_op r2_ix re_v re_int) (re_op r2_ix re_v re_int))) (rs_app fun Z => (re_cb rn_tup (ra_cons (re_sl re_v (ro_some re_v) (ro_some re_v)) ra_nil)))))))))) (rs_ret fun Z => (re_cb rn_sortedT (ra_cons re_v ra_nil)))))⟩
abbrev st_w_overlap : Stmt := top 53
abbrev nn_w_overlap : List Str := ["_law_first", "_law_second", "_law_both", "_law_book"]
theorem sc_w_overlap : FnScope nn_w_overlap ["_law_first", "_law_second"] (defScope st_w_overlap) := ⟨rfl, rfl, rfl, by decide +kernel, rfl, by decide +kernel, by decide +kernel⟩
theorem has_w_overlap {S : ST} (M : Nm mg) (r : RawF K mg "_law_overlap" st_w_overlap)
    (tree : ∀ ds n R, S ds n R → B_w_overlap (ends R) (slots [true, true] ds 2) n) : Has P w K mg base C 1 "_law_overlap" ["_law_first", "_law_second"] [true, true] S := by
  obtain ⟨f, fd, m0, F⟩ := r
  refine ⟨f, fd, def_ok F sc_w_overlap rfl (fun cdv A outer s H E hr => ?_) tree, m0, F.kp, F.binds fun _ _ _ _ _ _ us hl => match us, hl with | [_, _], _ => rfl⟩
  have hu := units62 hr
  exact ⟨_, (pss_cons (ps_setLc (i := 2) (own := [("_law_book", 3)]) rfl sc_w_overlap.nd rfl rfl (sw_true rfl rfl rfl (by decide +kernel)) (pi_seq (pv 0)) (blkOk_by (N := nn_w_overlap) (sc := defScope st_w_overlap) (by decide +kernel)) (fun _ _ _ _ _ => (pg_name (i := 3) sc_w_overlap.nd rfl (Or.inl rfl))) (fun _ _ _ _ _ => (pts_one (pt_cmpR (op_inA hu) (pv 3) (pv 1) (by first | exact nomark _ | rfl)))) (fun _ _ _ _ _ => (pv 3))) (pss_one (ps_ret (pe_chain op_ltA op_ltA pe_int (pe_callB call_lenA (by rfl) M.len b_len (pa_cons (pv 2) pa_nil)) (pe_callB (call_minA rfl) (by rfl) M.min b_min (pa_cons (pe_callB call_lenA (by rfl) M.len b_len (pa_cons (pv 0) pa_nil)) (pa_cons (pe_callB call_lenA (by rfl) M.len b_len (pa_cons (pv 1) pa_nil)) pa_nil))))))), (rs_sq (rs_set fun Z => (re_lc (ri_seq re_v) rg_nm (by decide) (fun Z => (rt_c (re_op r2_inA re_v re_v))) (fun Z => re_v))) (rs_ret fun Z => (re_chain r2_lt r2_lt re_int (re_cb rn_len (ra_cons re_v ra_nil)) (re_cb (rn_or1 rn_min2) (ra_cons (re_cb rn_len (ra_cons re_v ra_nil)) (ra_cons (re_cb rn_len (ra_cons re_v ra_nil)) ra_nil))))))⟩
abbrev st_w_drawn_lot : Stmt := top 54
abbrev nn_w_drawn_lot : List Str := ["_law_purse_here", "_law_turnables_here", "_law_most", "_law_lot", "_law_run", "_law_theirs", "_law_kept"]
theorem sc_w_drawn_lot : FnScope nn_w_drawn_lot ["_law_purse_here", "_law_turnables_here", "_law_most"] (defScope st_w_drawn_lot) := ⟨rfl, rfl, rfl, by decide +kernel, rfl, by decide +kernel, by decide +kernel⟩
theorem has_w_drawn_lot {S S1 S2 S3 : ST} (M : Nm mg) (r : RawF K mg "_law_drawn_lot" st_w_drawn_lot) (h1 : Has P w K mg base C 3 "_law_shuffled" ["_law_purse_here", "_law_some"] [true, true] S1) (h2 : Has P w K mg base C 1 "_law_overlap" ["_law_first", "_law_second"] [true, true] S2) (h3 : Has P w K mg base C 2 "_law_draw" ["_law_purse_here", "_law_many"] [true, true] S3)
    (tree : ∀ ds n R, S ds n R → B_w_drawn_lot S1 S2 S3 (ends R) (slots [true, true, true] ds 4) n) : Has P w K mg base C 4 "_law_drawn_lot" ["_law_purse_here", "_law_turnables_here", "_law_most"] [true, true, true] S := by
  obtain ⟨f, fd, m0, F⟩ := r
  obtain ⟨f1, fd1, F1, m1, k1, b1⟩ := h1
  obtain ⟨f2, fd2, F2, m2, k2, b2⟩ := h2
  obtain ⟨f3, fd3, F3, m3, k3, b3⟩ := h3
  refine ⟨f, fd, def_ok F sc_w_drawn_lot rfl (fun cdv A outer s H E hr => ?_) tree, m0, F.kp, F.binds fun _ _ _ _ _ _ us hl => match us, hl with | [_, _, _], _ => rfl⟩
  have hu := units62 hr
  exact ⟨_, (pss_cons (ps_set (i := 3) sc_w_drawn_lot.nd rfl (Or.inl rfl) (pe_lst pa_nil)) (pss_cons (ps_for PassesOwn.never rfl (pi_seq (pe_call F1 (hr.mono (by first | decide | omega)) rfl m1 k1 b1 .nil pass0 (pa_cons (pv 0) (pa_cons (pv 1) pa_nil)))) (pg_name (i := 4) sc_w_drawn_lot.nd rfl (Or.inr rfl)) (pss_one (ps_if (PW.pt (pw_and (pt_cmpR op_ltA (pe_callB call_lenA (by rfl) M.len b_len (pa_cons (pv 3) pa_nil)) (pv 2) (by first | exact nomark _ | rfl)) (pw_and1 (pt_not (pt_val (pe_callB (cr_any rfl) (by rfl) M.any b_any (pa_cons (pe_lc (own := [("_law_theirs", 5)]) rfl sc_w_drawn_lot.nd (pi_seq (pv 3)) (blkOk_by (N := nn_w_drawn_lot) (sc := defScope st_w_drawn_lot) (by decide +kernel)) (fun _ _ _ _ _ => (pg_name (i := 5) sc_w_drawn_lot.nd rfl (Or.inl rfl))) (fun _ _ _ _ _ => pts_nil) (fun _ _ _ _ _ => (pe_call F2 (hr.mono (by first | decide | omega)) (by rfl) m2 k2 b2 .nil pass0 (pa_cons (pv 4) (pa_cons (pv 5) pa_nil))))) pa_nil))))))) (pss_one (ps_expr (pe_bm PySem.F.plainAttrs_list PySem.F.slot_list_append PySem.F.type_list_append mt_append (pv 3) (pa_cons (pv 4) pa_nil)))) pss_nil))) (pss_cons (ps_set (i := 6) sc_w_drawn_lot.nd rfl (Or.inl rfl) (pe_ifExp (pt_cmpR (op_eqP hu) (pe_call F3 (hr.mono (by first | decide | omega)) rfl m3 k3 b3 .nil pass0 (pa_cons (pv 0) (pa_cons pe_int pa_nil))) pe_int (by first | exact nomark _ | rfl)) (pe_callB call_lenA (by rfl) M.len b_len (pa_cons (pv 3) pa_nil)) (pe_call F3 (hr.mono (by first | decide | omega)) rfl m3 k3 b3 .nil pass0 (pa_cons (pv 0) (pa_cons (pe_op op_addA (pe_callB call_lenA (by rfl) M.len b_len (pa_cons (pv 3) pa_nil)) pe_int) pa_nil))))) (pss_one (ps_ret (pe_callB cr_sortAT (by rfl) M.sorted b_sorted (pa_cons (pe_slice sl_any (pe_call F1 (hr.mono (by first | decide | omega)) rfl m1 k1 b1 .nil pass0 (pa_cons (pv 0) (pa_cons (pv 3) pa_nil))) po_none (po_some (pv 6))) pa_nil))))))), (rs_sq (rs_set fun Z => (re_lst ra_nil)) (rs_sq (rs_for (fun Z => (ri_seq (re_call (ra_cons re_v (ra_cons re_v ra_nil))))) rg_nm (rs_if (fun Z => (rt_and (rt_c (re_op r2_lt (re_cb rn_len (ra_cons re_v ra_nil)) re_v)) (rt_not (rt_v (re_cb rn_any (ra_cons (re_lc (ri_seq re_v) rg_nm (by decide) (fun Z => rt_yes) (fun Z => (re_call (ra_cons re_v (ra_cons re_v ra_nil))))) ra_nil)))))) (rs_rel 4 (rs_app fun Z => re_v)) rs_nx)) (rs_sq (rs_set fun Z => (re_ifx (rt_c (re_op r2_eq (re_call (ra_cons re_v (ra_cons re_int ra_nil))) re_int)) (re_cb rn_len (ra_cons re_v ra_nil)) (re_call (ra_cons re_v (ra_cons (re_op r2_add (re_cb rn_len (ra_cons re_v ra_nil)) re_int) ra_nil))))) (rs_ret fun Z => (re_cb rn_sortedT (ra_cons (re_sl (re_call (ra_cons re_v (ra_cons re_v ra_nil))) ro_none (ro_some re_v)) ra_nil))))))⟩
abbrev st_w_turn : Stmt := top 55
abbrev nn_w_turn : List Str := ["_law_world_here", "_law_run", "_law_catalogue_here", "_law_row", "_law_places", "_law_at", "_law_begin", "_law_end"]
theorem sc_w_turn : FnScope nn_w_turn ["_law_world_here", "_law_run"] (defScope st_w_turn) := ⟨rfl, rfl, rfl, by decide +kernel, rfl, by decide +kernel, by decide +kernel⟩
theorem has_w_turn {S : ST} (M : Nm mg) (r : RawF K mg "_law_turn" st_w_turn)
    (tree : ∀ ds n R, S ds n R → B_w_turn (ends R) (slots [true, true] ds 6) n) : Has P w K mg base C 1 "_law_turn" ["_law_world_here", "_law_run"] [true, true] S := by
  obtain ⟨f, fd, m0, F⟩ := r
  refine ⟨f, fd, def_ok F sc_w_turn rfl (fun cdv A outer s H E hr => ?_) tree, m0, F.kp, F.binds fun _ _ _ _ _ _ us hl => match us, hl with | [_, _], _ => rfl⟩
  have hu := units62 hr
  exact ⟨_, (pss_cons (ps_asg (pv 0) (pg_un rfl (pgs_cons (pg_name (i := 2) sc_w_turn.nd rfl (Or.inl rfl)) (pgs_cons (pg_name (i := 3) sc_w_turn.nd rfl (Or.inr rfl)) pgs_nil)))) (pss_cons (ps_setLc (i := 4) (own := [("_law_at", 5)]) rfl sc_w_turn.nd rfl rfl (sw_true rfl rfl rfl (by decide +kernel)) (pi_range1 (by rfl) M.range (pa_cons (pe_callB call_lenA (by rfl) M.len b_len (pa_cons (pv 3) pa_nil)) pa_nil)) (blkOk_by (N := nn_w_turn) (sc := defScope st_w_turn) (by decide +kernel)) (fun _ _ _ _ _ => (pg_name (i := 5) sc_w_turn.nd rfl (Or.inl rfl))) (fun _ _ _ _ _ => (pts_one (pt_cmpR (op_inA hu) (pe_ix ix_any (pv 3) (pv 5) (fun _ _ => rfl)) (pv 1) (by first | exact nomark _ | rfl)))) (fun _ _ _ _ _ => (pv 5))) (pss_cons (ps_par (i := 6) (j := 7) rfl sc_w_turn.nd rfl rfl (by decide) rfl rfl (pa_cons (pe_ix ix_any (pv 4) pe_int (fun _ _ => rfl)) (pa_cons (pe_op op_addA (pe_ix ix_any (pv 4) (pe_un un_neg pe_int) (fun _ _ => rfl)) pe_int) pa_nil)) rfl) (pss_one (ps_ret (pe_lst (pa_cons (pv 2) (pa_cons (pe_op op_addA (pe_op op_addA (pe_slice sl_any (pv 3) po_none (po_some (pv 6))) (pe_revA (pe_slice sl_any (pv 3) (po_some (pv 6)) (po_some (pv 7))))) (pe_slice sl_any (pv 3) (po_some (pv 7)) po_none)) pa_nil)))))))), (rs_sq (rs_un rfl (fun Z => re_v)) (rs_sq (rs_set fun Z => (re_lc (ri_r1 (re_cb rn_len (ra_cons re_v ra_nil))) rg_nm (by decide) (fun Z => (rt_c (re_op r2_inA (re_op r2_ix re_v re_v) re_v))) (fun Z => re_v))) (rs_sq (rs_par (fun Z => (re_op r2_ix re_v re_int)) (fun Z => (re_op r2_add (re_op r2_ix re_v (re_un r1_neg re_int)) re_int))) (rs_rel 2 (rs_ret fun Z => (re_lst (ra_cons re_v (ra_cons (re_op r2_add (re_op r2_add (re_sl re_v ro_none (ro_some re_v)) (re_revA (re_sl re_v (ro_some re_v) (ro_some re_v)))) (re_sl re_v (ro_some re_v) ro_none)) ra_nil))))))))⟩
abbrev st_w_led : Stmt := top 56
abbrev nn_w_led : List Str := ["_law_world_here", "_law_turns", "_law_run"]
theorem sc_w_led : FnScope nn_w_led ["_law_world_here", "_law_turns"] (defScope st_w_led) := ⟨rfl, rfl, rfl, by decide +kernel, rfl, by decide +kernel, by decide +kernel⟩
theorem has_w_led {S S1 : ST} (M : Nm mg) (r : RawF K mg "_law_led" st_w_led) (h1 : Has P w K mg base C 1 "_law_turn" ["_law_world_here", "_law_run"] [true, true] S1)
    (tree : ∀ ds n R, S ds n R → B_w_led S1 (ends R) (slots [false, true] ds 1) n) : Has P w K mg base C 2 "_law_led" ["_law_world_here", "_law_turns"] [false, true] S := by
  obtain ⟨f, fd, m0, F⟩ := r
  obtain ⟨f1, fd1, F1, m1, k1, b1⟩ := h1
  refine ⟨f, fd, def_ok F sc_w_led rfl (fun cdv A outer s H E hr => ?_) tree, m0, F.kp, F.binds fun _ _ _ _ _ _ us hl => match us, hl with | [_, _], _ => rfl⟩
  have hu := units62 hr
  exact ⟨_, (pss_cons (ps_for PassesOwn.never rfl (pi_seq (pv 1)) (pg_name (i := 2) sc_w_led.nd rfl (Or.inl rfl)) (pss_one (ps_set (i := 0) sc_w_led.nd rfl (Or.inl rfl) (pe_call F1 (hr.mono (by first | decide | omega)) rfl m1 k1 b1 .nil pass0 (pa_cons (pv 0) (pa_cons (pv 2) pa_nil)))))) (pss_one (ps_ret (pv 0)))), (rs_sq (rs_rel 1 (rs_for (fun Z => (ri_seq re_v)) rg_nm (rs_set fun Z => (re_call (ra_cons re_v (ra_cons re_v ra_nil)))))) rs_retV)⟩
abbrev st_w_class : Stmt := top 57
abbrev nn_w_class : List Str := ["_law_purse_here", "_law_many", "_law_shelves", "_law_catalogue_here", "_law_nodes_here", "_law_home", "_law_turnables_here", "_law_lots", "_law_turn_here", "_law_lot"]
theorem sc_w_class : FnScope nn_w_class ["_law_purse_here", "_law_many", "_law_shelves"] (defScope st_w_class) := ⟨rfl, rfl, rfl, by decide +kernel, rfl, by decide +kernel, by decide +kernel⟩
theorem has_w_class {S S1 S2 S3 S4 S5 S6 S7 : ST} (M : Nm mg) (r : RawF K mg "_law_class" st_w_class) (h1 : Has P w K mg base C 5 "_law_catalogue" ["_law_purse_here", "_law_many"] [true, true] S1) (h2 : Has P w K mg base C 4 "_law_nodes" ["_law_purse_here", "_law_size"] [true, false] S2) (h3 : Has P w K mg base C 1 "_law_home_row" ["_law_nodes_here", "_law_catalogue_here"] [true, true] S3) (h4 : Has P w K mg base C 1 "_law_turnables" ["_law_nodes_here", "_law_catalogue_here"] [true, true] S4) (h5 : Has P w K mg base C 4 "_law_drawn_lot" ["_law_purse_here", "_law_turnables_here", "_law_most"] [true, true, true] S5) (h6 : Has P w K mg base C 2 "_law_led" ["_law_world_here", "_law_turns"] [false, true] S6) (h7 : Has P w K mg base C 3 "_law_shuffled" ["_law_purse_here", "_law_some"] [true, true] S7)
    (tree : ∀ ds n R, S ds n R → B_w_class S1 S2 S3 S4 S5 S6 S7 (ends R) (slots [true, false, true] ds 7) n) : Has P w K mg base C 6 "_law_class" ["_law_purse_here", "_law_many", "_law_shelves"] [true, false, true] S := by
  obtain ⟨f, fd, m0, F⟩ := r
  obtain ⟨f1, fd1, F1, m1, k1, b1⟩ := h1
  obtain ⟨f2, fd2, F2, m2, k2, b2⟩ := h2
  obtain ⟨f3, fd3, F3, m3, k3, b3⟩ := h3
  obtain ⟨f4, fd4, F4, m4, k4, b4⟩ := h4
  obtain ⟨f5, fd5, F5, m5, k5, b5⟩ := h5
  obtain ⟨f6, fd6, F6, m6, k6, b6⟩ := h6
  obtain ⟨f7, fd7, F7, m7, k7, b7⟩ := h7
  refine ⟨f, fd, def_ok F sc_w_class rfl (fun cdv A outer s H E hr => ?_) tree, m0, F.kp, F.binds fun _ _ _ _ _ _ us hl => match us, hl with | [_, _, _], _ => rfl⟩
  have hu := units62 hr
  exact ⟨_, (pss_cons (ps_set (i := 3) sc_w_class.nd rfl (Or.inl rfl) (pe_call F1 (hr.mono (by first | decide | omega)) rfl m1 k1 b1 .nil pass0 (pa_cons (pv 0) (pa_cons (pv 1) pa_nil)))) (pss_cons (ps_set (i := 4) sc_w_class.nd rfl (Or.inl rfl) (pe_call F2 (hr.mono (by first | decide | omega)) rfl m2 k2 b2 .nil pass0 (pa_cons (pv 0) (pa_cons (pv 1) pa_nil)))) (pss_cons (ps_asg (pe_tup (pa_cons (pe_lst (pa_cons (pv 3) (pa_cons (pe_call F3 (hr.mono (by first | decide | omega)) rfl m3 k3 b3 .nil pass0 (pa_cons (pv 4) (pa_cons (pv 3) pa_nil))) pa_nil))) (pa_cons (pe_call F4 (hr.mono (by first | decide | omega)) rfl m4 k4 b4 .nil pass0 (pa_cons (pv 4) (pa_cons (pv 3) pa_nil))) pa_nil))) (pg_un rfl (pgs_cons (pg_name (i := 5) sc_w_class.nd rfl (Or.inr rfl)) (pgs_cons (pg_name (i := 6) sc_w_class.nd rfl (Or.inr rfl)) pgs_nil)))) (pss_cons (ps_setLc (i := 7) (own := [("_law_turn_here", 8)]) rfl sc_w_class.nd rfl rfl (sw_true rfl rfl rfl (by decide +kernel)) (pi_range1 (by rfl) M.range (pa_cons (pv 2) pa_nil)) (blkOk_by (N := nn_w_class) (sc := defScope st_w_class) (by decide +kernel)) (fun _ _ _ _ _ => (pg_name (i := 8) sc_w_class.nd rfl (Or.inl rfl))) (fun _ _ _ _ _ => pts_nil) (fun _ _ _ _ _ => (pe_call F5 (hr.mono (by first | decide | omega)) (by rfl) m5 k5 b5 .nil pass0 (pa_cons (pv 0) (pa_cons (pv 6) (pa_cons pe_int pa_nil)))))) (pss_one (ps_ret (pe_lst (pa_cons (pv 5) (pa_cons (pv 6) (pa_cons (pv 7) (pa_cons (pe_lc (own := [("_law_lot", 9)]) rfl sc_w_class.nd (pi_seq (pv 7)) (blkOk_by (N := nn_w_class) (sc := defScope st_w_class) (by decide +kernel)) (fun _ _ _ _ _ => (pg_name (i := 9) sc_w_class.nd rfl (Or.inl rfl))) (fun _ _ _ _ _ => pts_nil) (fun _ _ _ _ _ => (pe_call F6 (hr.mono (by first | decide | omega)) (by rfl) m6 k6 b6 .nil pass0 (pa_cons (pv 5) (pa_cons (pe_call F7 (hr.mono (by first | decide | omega)) (by rfl) m7 k7 b7 .nil pass0 (pa_cons (pv 0) (pa_cons (pv 9) pa_nil))) pa_nil))))) pa_nil))))))))))), (rs_sq (rs_set fun Z => (re_call (ra_cons re_v (ra_cons re_v ra_nil)))) (rs_sq (rs_rel 1 (rs_set fun Z => (re_call (ra_cons re_v (ra_cons re_v ra_nil))))) (rs_sq (rs_rel 3 (rs_parU (fun Z => (re_lst (ra_cons re_v (ra_cons (re_call (ra_cons re_v (ra_cons re_v ra_nil))) ra_nil)))) (fun Z => (re_call (ra_cons re_v (ra_cons re_v ra_nil)))))) (rs_sq (rs_set fun Z => (re_lc (ri_r1 re_v) rg_nm (by decide) (fun Z => rt_yes) (fun Z => (re_call (ra_cons re_v (ra_cons re_v (ra_cons re_int ra_nil))))))) (rs_rel 7 (rs_rel 6 (rs_rel 5 (rs_ret fun Z => (re_lst (ra_cons re_v (ra_cons re_v (ra_cons re_v (ra_cons (re_lc (ri_seq re_v) rg_nm (by decide) (fun Z => rt_yes) (fun Z => (re_call (ra_cons re_v (ra_cons (re_call (ra_cons re_v (ra_cons re_v ra_nil))) ra_nil))))) ra_nil)))))))))))))⟩
abbrev st_w_free : Stmt := top 58
abbrev nn_w_free : List Str := ["_law_purse_here", "_law_many", "_law_catalogue_here"]
theorem sc_w_free : FnScope nn_w_free ["_law_purse_here", "_law_many"] (defScope st_w_free) := ⟨rfl, rfl, rfl, by decide +kernel, rfl, by decide +kernel, by decide +kernel⟩
theorem has_w_free {S S1 S2 : ST} (M : Nm mg) (r : RawF K mg "_law_free" st_w_free) (h1 : Has P w K mg base C 5 "_law_catalogue" ["_law_purse_here", "_law_many"] [true, true] S1) (h2 : Has P w K mg base C 3 "_law_shuffled" ["_law_purse_here", "_law_some"] [true, true] S2)
    (tree : ∀ ds n R, S ds n R → B_w_free S1 S2 (ends R) (slots [true, true] ds 1) n) : Has P w K mg base C 6 "_law_free" ["_law_purse_here", "_law_many"] [true, true] S := by
  obtain ⟨f, fd, m0, F⟩ := r
  obtain ⟨f1, fd1, F1, m1, k1, b1⟩ := h1
  obtain ⟨f2, fd2, F2, m2, k2, b2⟩ := h2
  refine ⟨f, fd, def_ok F sc_w_free rfl (fun cdv A outer s H E hr => ?_) tree, m0, F.kp, F.binds fun _ _ _ _ _ _ us hl => match us, hl with | [_, _], _ => rfl⟩
  have hu := units62 hr
  exact ⟨_, (pss_cons (ps_set (i := 2) sc_w_free.nd rfl (Or.inl rfl) (pe_call F1 (hr.mono (by first | decide | omega)) rfl m1 k1 b1 .nil pass0 (pa_cons (pv 0) (pa_cons (pv 1) pa_nil)))) (pss_one (ps_ret (pe_lst (pa_cons (pv 2) (pa_cons (pe_call F2 (hr.mono (by first | decide | omega)) rfl m2 k2 b2 .nil pass0 (pa_cons (pv 0) (pa_cons (pv 2) pa_nil))) pa_nil)))))), (rs_sq (rs_set fun Z => (re_call (ra_cons re_v (ra_cons re_v ra_nil)))) (rs_rel 2 (rs_ret fun Z => (re_lst (ra_cons re_v (ra_cons (re_call (ra_cons re_v (ra_cons re_v ra_nil))) ra_nil))))))⟩
abbrev st_w_world : Stmt := top 59
abbrev nn_w_world : List Str := ["_law_purse_here", "_law_many"]
theorem sc_w_world : FnScope nn_w_world ["_law_purse_here", "_law_many"] (defScope st_w_world) := ⟨rfl, rfl, rfl, by decide +kernel, rfl, by decide +kernel, by decide +kernel⟩
theorem has_w_world {S S1 S2 S3 : ST} (M : Nm mg) (r : RawF K mg "_law_world" st_w_world) (h1 : Has P w K mg base C 2 "_law_draw" ["_law_purse_here", "_law_many"] [true, true] S1) (h2 : Has P w K mg base C 6 "_law_free" ["_law_purse_here", "_law_many"] [true, true] S2) (h3 : Has P w K mg base C 6 "_law_class" ["_law_purse_here", "_law_many", "_law_shelves"] [true, false, true] S3)
    (tree : ∀ ds n R, S ds n R → B_w_world S1 S2 S3 (ends R) (slots [true, false] ds 0) n) : Has P w K mg base C 7 "_law_world" ["_law_purse_here", "_law_many"] [true, false] S := by
  obtain ⟨f, fd, m0, F⟩ := r
  obtain ⟨f1, fd1, F1, m1, k1, b1⟩ := h1
  obtain ⟨f2, fd2, F2, m2, k2, b2⟩ := h2
  obtain ⟨f3, fd3, F3, m3, k3, b3⟩ := h3
  refine ⟨f, fd, def_ok F sc_w_world rfl (fun cdv A outer s H E hr => ?_) tree, m0, F.kp, F.binds fun _ _ _ _ _ _ us hl => match us, hl with | [_, _], _ => rfl⟩
  have hu := units62 hr
  exact ⟨_, (pss_one (ps_ret (pe_ifExp (pt_cmpR (op_eqP hu) (pe_call F1 (hr.mono (by first | decide | omega)) rfl m1 k1 b1 .nil pass0 (pa_cons (pv 0) (pa_cons pe_int pa_nil))) pe_int (by first | exact nomark _ | rfl)) (pe_call F2 (hr.mono (by first | decide | omega)) rfl m2 k2 b2 .nil pass0 (pa_cons (pv 0) (pa_cons (pv 1) pa_nil))) (pe_ix ix_any (pe_ix ix_any (pe_call F3 (hr.mono (by first | decide | omega)) rfl m3 k3 b3 .nil pass0 (pa_cons (pv 0) (pa_cons (pv 1) (pa_cons pe_int pa_nil)))) pe_int (fun _ _ => rfl)) pe_int (fun _ _ => rfl))))), (rs_rel 1 (rs_ret fun Z => (re_ifx (rt_c (re_op r2_eq (re_call (ra_cons re_v (ra_cons re_int ra_nil))) re_int)) (re_call (ra_cons re_v (ra_cons re_v ra_nil))) (re_op r2_ix (re_op r2_ix (re_call (ra_cons re_v (ra_cons re_v (ra_cons re_int ra_nil)))) re_int) re_int))))⟩
abbrev st_w_shelf : Stmt := top 60
abbrev nn_w_shelf : List Str := ["_law_world_here"]
theorem sc_w_shelf : FnScope nn_w_shelf ["_law_world_here"] (defScope st_w_shelf) := ⟨rfl, rfl, rfl, by decide +kernel, rfl, by decide +kernel, by decide +kernel⟩
theorem has_w_shelf {S : ST} (M : Nm mg) (L : ShL P w K mg base C) (r : RawF K mg "_law_shelf" st_w_shelf)
    (tree : ∀ ds n R, S ds n R → B_w_shelf (ends R) (slots [true] ds 0) n) : Has P w K mg base C 6 "_law_shelf" ["_law_world_here"] [true] S := by
  obtain ⟨f, fd, m0, F⟩ := r
  obtain ⟨fi, fq, fc, fr, fdi, fdq, fdc, fdr, T, gS, Fi, bi, Fq, bq, Fc, bc, Fr, br, I⟩ := L.x
  refine ⟨f, fd, def_ok F sc_w_shelf rfl (fun cdv A outer s H E hr => ?_) tree, m0, F.kp, F.binds fun _ _ _ _ _ _ us hl => match us, hl with | [_], _ => rfl⟩
  have hu := units62 hr
  exact ⟨_, (pss_one (ps_ret (pe_make T.makes Fi (hr.mono (by first | decide | omega)) rfl gS bi .nil pass0 (pa_cons (pe_callTy (call_listA rfl) (by rfl) M.list b_list (pa_cons (pe_ix ix_any (pv 0) pe_int (fun _ _ => rfl)) pa_nil)) (pa_cons (pe_callTy (call_listA rfl) (by rfl) M.list b_list (pa_cons (pe_ix ix_any (pv 0) pe_int (fun _ _ => rfl)) pa_nil)) pa_nil))))), (rs_ret fun Z => (re_shelf (re_cb rn_list (ra_cons (re_op r2_ix re_v re_int) ra_nil)) (re_cb rn_list (ra_cons (re_op r2_ix re_v re_int) ra_nil))))⟩
abbrev st_w_ranks : Stmt := top 61
abbrev nn_w_ranks : List Str := ["_law_world_here", "_law_book"]
theorem sc_w_ranks : FnScope nn_w_ranks ["_law_world_here"] (defScope st_w_ranks) := ⟨rfl, rfl, rfl, by decide +kernel, rfl, by decide +kernel, by decide +kernel⟩
theorem has_w_ranks {S : ST} (M : Nm mg) (r : RawF K mg "_law_ranks" st_w_ranks)
    (tree : ∀ ds n R, S ds n R → B_w_ranks (ends R) (slots [true] ds 1) n) : Has P w K mg base C 1 "_law_ranks" ["_law_world_here"] [true] S := by
  obtain ⟨f, fd, m0, F⟩ := r
  refine ⟨f, fd, def_ok F sc_w_ranks rfl (fun cdv A outer s H E hr => ?_) tree, m0, F.kp, F.binds fun _ _ _ _ _ _ us hl => match us, hl with | [_], _ => rfl⟩
  have hu := units62 hr
  exact ⟨_, (pss_one (ps_ret (pe_lc (own := [("_law_book", 1)]) rfl sc_w_ranks.nd (pi_seq (pe_ix ix_any (pv 0) pe_int (fun _ _ => rfl))) (blkOk_by (N := nn_w_ranks) (sc := defScope st_w_ranks) (by decide +kernel)) (fun _ _ _ _ _ => (pg_name (i := 1) sc_w_ranks.nd rfl (Or.inl rfl))) (fun _ _ _ _ _ => pts_nil) (fun _ _ _ _ _ => (pe_bm PySem.F.plainAttrs_list PySem.F.slot_list_index PySem.F.type_list_index mt_idx (pe_ix ix_any (pv 0) pe_int (fun _ _ => rfl)) (pa_cons (pv 1) pa_nil)))))), (rs_ret fun Z => (re_lc (ri_seq (re_op r2_ix re_v re_int)) rg_nm (by decide) (fun Z => rt_yes) (fun Z => (re_idx (re_op r2_ix re_v re_int) re_v))))⟩
abbrev st_w_runs : Stmt := top 62
abbrev nn_w_runs : List Str := ["_law_world_here", "_law_entries", "_law_found", "_law_begin", "_law_least", "_law_most", "_law_end"]
theorem sc_w_runs : FnScope nn_w_runs ["_law_world_here"] (defScope st_w_runs) := ⟨rfl, rfl, rfl, by decide +kernel, rfl, by decide +kernel, by decide +kernel⟩
theorem has_w_runs {S S1 : ST} (M : Nm mg) (r : RawF K mg "_law_runs" st_w_runs) (h1 : Has P w K mg base C 1 "_law_ranks" ["_law_world_here"] [true] S1)
    (tree : ∀ ds n R, S ds n R → B_w_runs S1 (ends R) (slots [true] ds 6) n) : Has P w K mg base C 2 "_law_runs" ["_law_world_here"] [true] S := by
  obtain ⟨f, fd, m0, F⟩ := r
  obtain ⟨f1, fd1, F1, m1, k1, b1⟩ := h1
  refine ⟨f, fd, def_ok F sc_w_runs rfl (fun cdv A outer s H E hr => ?_) tree, m0, F.kp, F.binds fun _ _ _ _ _ _ us hl => match us, hl with | [_], _ => rfl⟩
  have hu := units62 hr
  exact ⟨_, (pss_cons (ps_par (i := 1) (j := 2) rfl sc_w_runs.nd rfl rfl (by decide) rfl rfl (pa_cons (pe_call F1 (hr.mono (by first | decide | omega)) rfl m1 k1 b1 .nil pass0 (pa_cons (pv 0) pa_nil)) (pa_cons (pe_lst pa_nil) pa_nil)) rfl) (pss_cons (ps_for PassesOwn.never rfl (pi_range1 (by rfl) M.range (pa_cons (pe_callB call_lenA (by rfl) M.len b_len (pa_cons (pv 1) pa_nil)) pa_nil)) (pg_name (i := 3) sc_w_runs.nd rfl (Or.inl rfl)) (pss_cons (ps_par (i := 4) (j := 5) rfl sc_w_runs.nd rfl rfl (by decide) rfl rfl (pa_cons (pe_ix ix_any (pv 1) (pv 3) (fun _ _ => rfl)) (pa_cons (pe_ix ix_any (pv 1) (pv 3) (fun _ _ => rfl)) pa_nil)) rfl) (pss_one (ps_for PassesOwn.never rfl (pi_range2 (by rfl) M.range (pa_cons (pe_op op_addA (pv 3) pe_int) (pa_cons (pe_callB call_lenA (by rfl) M.len b_len (pa_cons (pv 1) pa_nil)) pa_nil))) (pg_name (i := 6) sc_w_runs.nd rfl (Or.inl rfl)) (pss_cons (ps_par (i := 4) (j := 5) rfl sc_w_runs.nd rfl rfl (by decide) rfl rfl (pa_cons (pe_callB (call_minA rfl) (by rfl) M.min b_min (pa_cons (pv 4) (pa_cons (pe_ix ix_any (pv 1) (pv 6) (fun _ _ => rfl)) pa_nil))) (pa_cons (pe_callB (call_maxA rfl) (by rfl) M.max b_max (pa_cons (pv 5) (pa_cons (pe_ix ix_any (pv 1) (pv 6) (fun _ _ => rfl)) pa_nil))) pa_nil)) rfl) (pss_one (ps_if (pt_cmpR (op_eqP hu) (pe_op op_sub (pv 5) (pv 4)) (pe_op op_sub (pv 6) (pv 3)) (by first | exact nomark _ | rfl)) (pss_one (ps_expr (pe_bm PySem.F.plainAttrs_list PySem.F.slot_list_append PySem.F.type_list_append mt_append (pv 2) (pa_cons (pe_callTy call_tupA (by rfl) M.tuple b_tuple (pa_cons (pe_slice sl_any (pe_ix ix_any (pv 0) pe_int (fun _ _ => rfl)) (po_some (pv 4)) (po_some (pe_op op_addA (pv 5) pe_int))) pa_nil)) pa_nil)))) pss_nil))))))) (pss_one (ps_ret (pe_callB cr_sortAT (by rfl) M.sorted b_sorted (pa_cons (pv 2) pa_nil)))))), (rs_sq (rs_par (fun Z => (re_call (ra_cons re_v ra_nil))) (fun Z => (re_lst ra_nil))) (rs_sq (rs_for (fun Z => (ri_r1 (re_cb rn_len (ra_cons re_v ra_nil)))) rg_nm (rs_sq (rs_par (fun Z => (re_op r2_ix re_v re_v)) (fun Z => (re_op r2_ix re_v re_v))) (rs_for (fun Z => (ri_r2 (re_op r2_add re_v re_int) (re_cb rn_len (ra_cons re_v ra_nil)))) rg_nm (rs_sq (rs_par (fun Z => (re_cb (rn_or1 rn_min2) (ra_cons re_v (ra_cons (re_op r2_ix re_v re_v) ra_nil)))) (fun Z => (re_cb (rn_or1 rn_max2) (ra_cons re_v (ra_cons (re_op r2_ix re_v re_v) ra_nil))))) (rs_if (fun Z => (rt_c (re_op r2_eq (re_op r2_sub re_v re_v) (re_op r2_sub re_v re_v)))) (rs_app fun Z => (re_cb rn_tup (ra_cons (re_sl (re_op r2_ix re_v re_int) (ro_some re_v) (ro_some (re_op r2_add re_v re_int))) ra_nil))) rs_nx))))) (rs_ret fun Z => (re_cb rn_sortedT (ra_cons re_v ra_nil)))))⟩
abbrev st_w_sized : Stmt := top 63
abbrev nn_w_sized : List Str := ["_law_purse_here"]
theorem sc_w_sized : FnScope nn_w_sized ["_law_purse_here"] (defScope st_w_sized) := ⟨rfl, rfl, rfl, by decide +kernel, rfl, by decide +kernel, by decide +kernel⟩
theorem has_w_sized {S S1 : ST} (M : Nm mg) (r : RawF K mg "_law_sized" st_w_sized) (h1 : Has P w K mg base C 2 "_law_draw" ["_law_purse_here", "_law_many"] [true, true] S1)
    (tree : ∀ ds n R, S ds n R → B_w_sized S1 (ends R) (slots [true] ds 0) n) : Has P w K mg base C 3 "_law_sized" ["_law_purse_here"] [true] S := by
  obtain ⟨f, fd, m0, F⟩ := r
  obtain ⟨f1, fd1, F1, m1, k1, b1⟩ := h1
  refine ⟨f, fd, def_ok F sc_w_sized rfl (fun cdv A outer s H E hr => ?_) tree, m0, F.kp, F.binds fun _ _ _ _ _ _ us hl => match us, hl with | [_], _ => rfl⟩
  have hu := units62 hr
  exact ⟨_, (pss_one (ps_ret (pe_ifExp (pt_cmpR (op_eqP hu) (pe_call F1 (hr.mono (by first | decide | omega)) rfl m1 k1 b1 .nil pass0 (pa_cons (pv 0) (pa_cons pe_int pa_nil))) pe_int (by first | exact nomark _ | rfl)) (pe_op op_addA pe_int (pe_call F1 (hr.mono (by first | decide | omega)) rfl m1 k1 b1 .nil pass0 (pa_cons (pv 0) (pa_cons pe_int pa_nil)))) (pe_op op_addA pe_int (pe_call F1 (hr.mono (by first | decide | omega)) rfl m1 k1 b1 .nil pass0 (pa_cons (pv 0) (pa_cons pe_int pa_nil))))))), (rs_ret fun Z => (re_ifx (rt_c (re_op r2_eq (re_call (ra_cons re_v (ra_cons re_int ra_nil))) re_int)) (re_op r2_add re_int (re_call (ra_cons re_v (ra_cons re_int ra_nil)))) (re_op r2_add re_int (re_call (ra_cons re_v (ra_cons re_int ra_nil))))))⟩
abbrev st_w_stays : Stmt := top 64
abbrev nn_w_stays : List Str := ["_law_world_here", "_law_shelf_here"]
theorem sc_w_stays : FnScope nn_w_stays ["_law_world_here", "_law_shelf_here"] (defScope st_w_stays) := ⟨rfl, rfl, rfl, by decide +kernel, rfl, by decide +kernel, by decide +kernel⟩
theorem has_w_stays {S S1 S2 : ST} (M : Nm mg) (L : ShL P w K mg base C) (r : RawF K mg "_law_stays" st_w_stays) (h1 : Has P w K mg base C 6 "_law_exact" ["_law_mine", "_law_theirs"] [true, true] S1) (h2 : Has P w K mg base C 6 "_law_shelf" ["_law_world_here"] [true] S2)
    (tree : ∀ ds n R, S ds n R → B_w_stays S1 S2 (ends R) (slots [true, true] ds 0) n) : Has P w K mg base C 7 "_law_stays" ["_law_world_here", "_law_shelf_here"] [true, true] S := by
  obtain ⟨f, fd, m0, F⟩ := r
  obtain ⟨fi, fq, fc, fr, fdi, fdq, fdc, fdr, T, gS, Fi, bi, Fq, bq, Fc, bc, Fr, br, I⟩ := L.x
  obtain ⟨f1, fd1, F1, m1, k1, b1⟩ := h1
  obtain ⟨f2, fd2, F2, m2, k2, b2⟩ := h2
  refine ⟨f, fd, def_ok F sc_w_stays rfl (fun cdv A outer s H E hr => ?_) tree, m0, F.kp, F.binds fun _ _ _ _ _ _ us hl => match us, hl with | [_, _], _ => rfl⟩
  have hu := units62 hr
  exact ⟨_, (pss_one (ps_ret (pe_and (pe_call F1 (hr.mono (by first | decide | omega)) rfl m1 k1 b1 .nil pass0 (pa_cons (pe_lst (pa_cons (pe_meth0 (pv 1) T.cl T.mc Fc (hr.mono (by first | decide | omega)) bc .nil pass0) (pa_cons (pe_meth0 (pv 1) T.cl T.mr Fr (hr.mono (by first | decide | omega)) br .nil pass0) pa_nil))) (pa_cons (pe_lst (pa_cons (pe_callTy (call_listA rfl) (by rfl) M.list b_list (pa_cons (pe_ix ix_any (pv 0) pe_int (fun _ _ => rfl)) pa_nil)) (pa_cons (pe_callTy (call_listA rfl) (by rfl) M.list b_list (pa_cons (pe_ix ix_any (pv 0) pe_int (fun _ _ => rfl)) pa_nil)) pa_nil))) pa_nil))) (pe_one (pe_cmpR (op_eqA hu Fq T.eq (hr.mono (by first | decide | omega)) bq) (pv 1) (pe_call F2 (hr.mono (by first | decide | omega)) rfl m2 k2 b2 .nil pass0 (pa_cons (pv 0) pa_nil)) (by first | exact nomark _ | rfl)))))), (rs_ret fun Z => (re_and (re_call (ra_cons (re_lst (ra_cons (re_meth rfl rfl re_v ra_nil) (ra_cons (re_meth rfl rfl re_v ra_nil) ra_nil))) (ra_cons (re_lst (ra_cons (re_cb rn_list (ra_cons (re_op r2_ix re_v re_int) ra_nil)) (ra_cons (re_cb rn_list (ra_cons (re_op r2_ix re_v re_int) ra_nil)) ra_nil))) ra_nil))) (re_op (r2_eqA I) re_v (re_call (ra_cons re_v ra_nil)))))⟩
abbrev st_w_strange_books : Stmt := top 65
abbrev nn_w_strange_books : List Str := ["_law_world_here", "_law_word_here", "_law_letter"]
theorem sc_w_strange_books : FnScope nn_w_strange_books ["_law_world_here"] (defScope st_w_strange_books) := ⟨rfl, rfl, rfl, by decide +kernel, rfl, by decide +kernel, by decide +kernel⟩
theorem has_w_strange_books {S : ST} (M : Nm mg) (r : RawF K mg "_law_strange_books" st_w_strange_books)
    (tree : ∀ ds n R, S ds n R → B_w_strange_books (ends R) (slots [true] ds 2) n) : Has P w K mg base C 1 "_law_strange_books" ["_law_world_here"] [true] S := by
  obtain ⟨f, fd, m0, F⟩ := r
  refine ⟨f, fd, def_ok F sc_w_strange_books rfl (fun cdv A outer s H E hr => ?_) tree, m0, F.kp, F.binds fun _ _ _ _ _ _ us hl => match us, hl with | [_], _ => rfl⟩
  have hu := units62 hr
  exact ⟨_, (pss_one (ps_ret (pe_lc (own := [("_law_word_here", 1)]) rfl sc_w_strange_books.nd (pi_seq (pe_lc (own := [("_law_letter", 2)]) rfl sc_w_strange_books.nd (pi_seq (pe_callTy (call_listA rfl) (by rfl) M.list b_list (pa_cons pe_str pa_nil))) (blkOk_by (N := nn_w_strange_books) (sc := defScope st_w_strange_books) (by decide +kernel)) (fun _ _ _ _ _ => (pg_name (i := 2) sc_w_strange_books.nd rfl (Or.inl rfl))) (fun _ _ _ _ _ => pts_nil) (fun _ _ _ _ _ => (pe_op op_addA pe_str (pv 2))))) (blkOk_by (N := nn_w_strange_books) (sc := defScope st_w_strange_books) (by decide +kernel)) (fun _ _ _ _ _ => (pg_name (i := 1) sc_w_strange_books.nd rfl (Or.inl rfl))) (fun _ _ _ _ _ => (pts_one (pt_cmpR (op_ninP hu) (pv 1) (pe_ix ix_any (pv 0) pe_int (fun _ _ => rfl)) (by first | exact nomark _ | rfl)))) (fun _ _ _ _ _ => (pv 1))))), (rs_ret fun Z => (re_lc (ri_seq (re_lc (ri_seq (re_cb rn_list (ra_cons re_str ra_nil))) rg_nm (by decide) (fun Z => rt_yes) (fun Z => (re_op r2_add re_str re_v)))) rg_nm (by decide) (fun Z => (rt_c (re_op r2_nin re_v (re_op r2_ix re_v re_int)))) (fun Z => re_v)))⟩
abbrev st_w_some_changes : Stmt := top 66
abbrev nn_w_some_changes : List Str := ["_law_purse_here", "_law_world_here", "_law_books", "_law_many", "_law_strange", "_law_early", "_law_word_here", "_law_fresh", "_law_found", "_law_turn_here", "_law_book", "_law_place", "_law_entry", "_law_change"]
theorem sc_w_some_changes : FnScope nn_w_some_changes ["_law_purse_here", "_law_world_here"] (defScope st_w_some_changes) := ⟨rfl, rfl, rfl, by decide +kernel, rfl, by decide +kernel, by decide +kernel⟩
theorem has_w_some_changes {S S1 S2 S3 S4 S5 : ST} (M : Nm mg) (r : RawF K mg "_law_some_changes" st_w_some_changes) (h1 : Has P w K mg base C 1 "_law_strange_books" ["_law_world_here"] [true] S1) (h2 : Has P w K mg base C 4 "_law_words" ["_law_purse_here", "_law_many"] [true, true] S2) (h3 : Has P w K mg base C 3 "_law_one_of" ["_law_purse_here", "_law_some"] [true, true] S3) (h4 : Has P w K mg base C 2 "_law_draw" ["_law_purse_here", "_law_many"] [true, true] S4) (h5 : Has P w K mg base C 3 "_law_shuffled" ["_law_purse_here", "_law_some"] [true, true] S5)
    (tree : ∀ ds n R, S ds n R → B_w_some_changes S1 S2 S3 S4 S5 (ends R) (slots [true, true] ds 12) n) : Has P w K mg base C 5 "_law_some_changes" ["_law_purse_here", "_law_world_here"] [true, true] S := by
  obtain ⟨f, fd, m0, F⟩ := r
  obtain ⟨f1, fd1, F1, m1, k1, b1⟩ := h1
  obtain ⟨f2, fd2, F2, m2, k2, b2⟩ := h2
  obtain ⟨f3, fd3, F3, m3, k3, b3⟩ := h3
  obtain ⟨f4, fd4, F4, m4, k4, b4⟩ := h4
  obtain ⟨f5, fd5, F5, m5, k5, b5⟩ := h5
  refine ⟨f, fd, def_ok F sc_w_some_changes rfl (fun cdv A outer s H E hr => ?_) tree, m0, F.kp, F.binds fun _ _ _ _ _ _ us hl => match us, hl with | [_, _], _ => rfl⟩
  have hu := units62 hr
  exact ⟨_, (pss_cons (ps_asg (pe_tup (pa_cons (pe_callTy (call_listA rfl) (by rfl) M.list b_list (pa_cons (pe_ix ix_any (pv 1) pe_int (fun _ _ => rfl)) pa_nil)) (pa_cons (pe_callB call_lenA (by rfl) M.len b_len (pa_cons (pe_ix ix_any (pv 1) pe_int (fun _ _ => rfl)) pa_nil)) (pa_cons (pe_call F1 (hr.mono (by first | decide | omega)) rfl m1 k1 b1 .nil pass0 (pa_cons (pv 1) pa_nil)) pa_nil)))) (pg_un rfl (pgs_cons (pg_name (i := 2) sc_w_some_changes.nd rfl (Or.inr rfl)) (pgs_cons (pg_name (i := 3) sc_w_some_changes.nd rfl (Or.inr rfl)) (pgs_cons (pg_name (i := 4) sc_w_some_changes.nd rfl (Or.inl rfl)) pgs_nil))))) (pss_cons (ps_setLc (i := 5) (own := [("_law_word_here", 6)]) rfl sc_w_some_changes.nd rfl rfl (sw_true rfl rfl rfl (by decide +kernel)) (pi_seq (pe_op op_addA (pe_callTy (call_listA rfl) (by rfl) M.list b_list (pa_cons pe_str pa_nil)) (pe_lst (pa_cons pe_str (pa_cons pe_str (pa_cons pe_str pa_nil)))))) (blkOk_by (N := nn_w_some_changes) (sc := defScope st_w_some_changes) (by decide +kernel)) (fun _ _ _ _ _ => (pg_name (i := 6) sc_w_some_changes.nd rfl (Or.inl rfl))) (fun _ _ _ _ _ => (pts_one (pt_cmpR (op_ninP hu) (pv 6) (pv 2) (by first | exact nomark _ | rfl)))) (fun _ _ _ _ _ => (pv 6))) (pss_cons (ps_set (i := 7) sc_w_some_changes.nd rfl (Or.inr rfl) (pe_op op_addA (pe_op op_addA (pe_op op_addA (pe_slice sl_any (pv 4) po_none (po_some pe_int)) (pe_slice sl_any (pv 5) po_none (po_some pe_int))) (pe_slice sl_any (pv 5) (po_some (pe_un un_neg pe_int)) po_none)) (pe_lc (own := [("_law_word_here", 6)]) rfl sc_w_some_changes.nd (pi_seq (pe_call F2 (hr.mono (by first | decide | omega)) rfl m2 k2 b2 .nil pass0 (pa_cons (pv 0) (pa_cons pe_int pa_nil)))) (blkOk_by (N := nn_w_some_changes) (sc := defScope st_w_some_changes) (by decide +kernel)) (fun _ _ _ _ _ => (pg_name (i := 6) sc_w_some_changes.nd rfl (Or.inl rfl))) (fun _ _ _ _ _ => (pts_one (pt_cmpR (op_ninP hu) (pv 6) (pv 2) (by first | exact nomark _ | rfl)))) (fun _ _ _ _ _ => (pv 6))))) (pss_cons (ps_setLc (i := 8) (own := [("_law_turn_here", 9)]) rfl sc_w_some_changes.nd rfl rfl (sw_true rfl rfl rfl (by decide +kernel)) (pi_range1 (by rfl) M.range (pa_cons pe_int pa_nil)) (blkOk_by (N := nn_w_some_changes) (sc := defScope st_w_some_changes) (by decide +kernel)) (fun _ _ _ _ _ => (pg_name (i := 9) sc_w_some_changes.nd rfl (Or.inl rfl))) (fun _ _ _ _ _ => pts_nil) (fun _ _ _ _ _ => (pe_tup (pa_cons pe_str (pa_cons (pe_call F3 (hr.mono (by first | decide | omega)) (by rfl) m3 k3 b3 .nil pass0 (pa_cons (pv 0) (pa_cons (pv 7) pa_nil))) (pa_cons (pe_call F4 (hr.mono (by first | decide | omega)) (by rfl) m4 k4 b4 .nil pass0 (pa_cons (pv 0) (pa_cons (pe_op op_addA (pv 3) pe_int) pa_nil))) (pa_cons (pe_call F4 (hr.mono (by first | decide | omega)) (by rfl) m4 k4 b4 .nil pass0 (pa_cons (pv 0) (pa_cons (pe_op op_addA (pv 3) pe_int) pa_nil))) pa_nil))))))) (pss_cons (ps_for PassesOwn.never rfl (pi_range1 (by rfl) M.range (pa_cons pe_int pa_nil)) (pg_name (i := 9) sc_w_some_changes.nd rfl (Or.inl rfl)) (pss_cons (ps_set (i := 10) sc_w_some_changes.nd rfl (Or.inl rfl) (pe_call F3 (hr.mono (by first | decide | omega)) rfl m3 k3 b3 .nil pass0 (pa_cons (pv 0) (pa_cons (pv 2) pa_nil)))) (pss_cons (ps_set (i := 8) sc_w_some_changes.nd rfl (Or.inl rfl) (pe_op op_addA (pv 8) (pe_ifExp (pt_cmpR op_gt (pv 3) pe_int (by first | exact nomark _ | rfl)) (pe_lst (pa_cons (pe_tup (pa_cons pe_str (pa_cons (pv 10) pa_nil))) pa_nil)) (pe_lst pa_nil)))) (pss_cons (ps_par (i := 11) (j := 12) rfl sc_w_some_changes.nd rfl rfl (by decide) rfl rfl (pa_cons (pe_call F4 (hr.mono (by first | decide | omega)) rfl m4 k4 b4 .nil pass0 (pa_cons (pv 0) (pa_cons (pv 3) pa_nil))) (pa_cons (pe_call F4 (hr.mono (by first | decide | omega)) rfl m4 k4 b4 .nil pass0 (pa_cons (pv 0) (pa_cons (pv 3) pa_nil))) pa_nil)) rfl) (pss_cons (ps_set (i := 8) sc_w_some_changes.nd rfl (Or.inl rfl) (pe_op op_addA (pv 8) (pe_ifExp (pt_cmpR (op_neP hu) (pe_bm PySem.F.plainAttrs_list PySem.F.slot_list_index PySem.F.type_list_index mt_idx (pe_ix ix_any (pv 1) pe_int (fun _ _ => rfl)) (pa_cons (pv 10) pa_nil)) (pv 11) (by first | exact nomark _ | rfl)) (pe_lst (pa_cons (pe_tup (pa_cons pe_str (pa_cons (pv 10) (pa_cons (pv 11) pa_nil)))) pa_nil)) (pe_lst pa_nil)))) (pss_one (ps_set (i := 8) sc_w_some_changes.nd rfl (Or.inl rfl) (pe_op op_addA (pv 8) (pe_ifExp (pt_cmpR (op_neP hu) (pe_bm PySem.F.plainAttrs_list PySem.F.slot_list_index PySem.F.type_list_index mt_idx (pe_ix ix_any (pv 1) pe_int (fun _ _ => rfl)) (pa_cons (pv 10) pa_nil)) (pv 12) (by first | exact nomark _ | rfl)) (pe_lst (pa_cons (pe_tup (pa_cons pe_str (pa_cons (pv 10) (pa_cons (pv 12) pa_nil)))) pa_nil)) (pe_lst pa_nil)))))))))) (pss_one (ps_ret (pe_call F5 (hr.mono (by first | decide | omega)) rfl m5 k5 b5 .nil pass0 (pa_cons (pv 0) (pa_cons (pe_ifExp (pt_cmpR op_ltA (pv 3) pe_int (by first | exact nomark _ | rfl)) (pv 8) (pe_lc (own := [("_law_change", 13)]) rfl sc_w_some_changes.nd (pi_seq (pv 8)) (blkOk_by (N := nn_w_some_changes) (sc := defScope st_w_some_changes) (by decide +kernel)) (fun _ _ _ _ _ => (pg_name (i := 13) sc_w_some_changes.nd rfl (Or.inl rfl))) (fun _ _ _ _ _ => (pts_one (pt_cmpR (op_neP hu) (pe_ix ix_any (pv 13) pe_int (fun _ _ => rfl)) pe_str (by first | exact nomark _ | rfl)))) (fun _ _ _ _ _ => (pv 13)))) pa_nil)))))))))), (rs_sq (rs_un rfl (fun Z => (re_tup (ra_cons (re_cb rn_list (ra_cons (re_op r2_ix re_v re_int) ra_nil)) (ra_cons (re_cb rn_len (ra_cons (re_op r2_ix re_v re_int) ra_nil)) (ra_cons (re_call (ra_cons re_v ra_nil)) ra_nil)))))) (rs_sq (rs_set fun Z => (re_lc (ri_seq (re_op r2_add (re_cb rn_list (ra_cons re_str ra_nil)) (re_lst (ra_cons re_str (ra_cons re_str (ra_cons re_str ra_nil)))))) rg_nm (by decide) (fun Z => (rt_c (re_op r2_nin re_v re_v))) (fun Z => re_v))) (rs_sq (rs_set fun Z => (re_op r2_add (re_op r2_add (re_op r2_add (re_sl re_v ro_none (ro_some re_int)) (re_sl re_v ro_none (ro_some re_int))) (re_sl re_v (ro_some (re_un r1_neg re_int)) ro_none)) (re_lc (ri_seq (re_call (ra_cons re_v (ra_cons re_int ra_nil)))) rg_nm (by decide) (fun Z => (rt_c (re_op r2_nin re_v re_v))) (fun Z => re_v)))) (rs_sq (rs_set fun Z => (re_lc (ri_r1 re_int) rg_nm (by decide) (fun Z => rt_yes) (fun Z => (re_tup (ra_cons re_str (ra_cons (re_call (ra_cons re_v (ra_cons re_v ra_nil))) (ra_cons (re_call (ra_cons re_v (ra_cons (re_op r2_add re_v re_int) ra_nil))) (ra_cons (re_call (ra_cons re_v (ra_cons (re_op r2_add re_v re_int) ra_nil))) ra_nil)))))))) (rs_sq (rs_for (fun Z => (ri_r1 re_int)) rg_nm (rs_sq (rs_set fun Z => (re_call (ra_cons re_v (ra_cons re_v ra_nil)))) (rs_sq (rs_rel 10 (rs_set fun Z => (re_op r2_add re_v (re_ifx (rt_c (re_op r2_gt re_v re_int)) (re_lst (ra_cons (re_tup (ra_cons re_str (ra_cons re_v ra_nil))) ra_nil)) (re_lst ra_nil))))) (rs_sq (rs_par (fun Z => (re_call (ra_cons re_v (ra_cons re_v ra_nil)))) (fun Z => (re_call (ra_cons re_v (ra_cons re_v ra_nil))))) (rs_sq (rs_rel 11 (rs_rel 10 (rs_set fun Z => (re_op r2_add re_v (re_ifx (rt_c (re_op r2_ne (re_idx (re_op r2_ix re_v re_int) re_v) re_v)) (re_lst (ra_cons (re_tup (ra_cons re_str (ra_cons re_v (ra_cons re_v ra_nil)))) ra_nil)) (re_lst ra_nil)))))) (rs_rel 12 (rs_rel 10 (rs_set fun Z => (re_op r2_add re_v (re_ifx (rt_c (re_op r2_ne (re_idx (re_op r2_ix re_v re_int) re_v) re_v)) (re_lst (ra_cons (re_tup (ra_cons re_str (ra_cons re_v (ra_cons re_v ra_nil)))) ra_nil)) (re_lst ra_nil))))))))))) (rs_ret fun Z => (re_call (ra_cons re_v (ra_cons (re_ifx (rt_c (re_op r2_lt re_v re_int)) re_v (re_lc (ri_seq re_v) rg_nm (by decide) (fun Z => (rt_c (re_op r2_ne (re_op r2_ix re_v re_int) re_str))) (fun Z => re_v))) ra_nil)))))))))⟩
abbrev st_w_changed : Stmt := top 67
abbrev nn_w_changed : List Str := ["_law_world_here", "_law_change", "_law_word_here", "_law_book", "_law_books", "_law_row", "_law_other"]
theorem sc_w_changed : FnScope nn_w_changed ["_law_world_here", "_law_change"] (defScope st_w_changed) := ⟨rfl, rfl, rfl, by decide +kernel, rfl, by decide +kernel, by decide +kernel⟩
theorem has_w_changed {S : ST} (M : Nm mg) (L : ShL P w K mg base C) (r : RawF K mg "_law_changed" st_w_changed)
    (tree : ∀ ds n R, S ds n R → B_w_changed (ends R) (slots [true, false] ds 5) n) : Has P w K mg base C 3 "_law_changed" ["_law_world_here", "_law_change"] [true, false] S := by
  obtain ⟨f, fd, m0, F⟩ := r
  obtain ⟨fi, fq, fc, fr, fdi, fdq, fdc, fdr, T, gS, Fi, bi, Fq, bq, Fc, bc, Fr, br, I⟩ := L.x
  refine ⟨f, fd, def_ok F sc_w_changed rfl (fun cdv A outer s H E hr => ?_) tree, m0, F.kp, F.binds fun _ _ _ _ _ _ us hl => match us, hl with | [_, _], _ => rfl⟩
  have hu := units62 hr
  exact ⟨_, (pss_cons (ps_asg (pe_slice sl_any (pv 1) po_none (po_some pe_int)) (pg_un rfl (pgs_cons (pg_name (i := 2) sc_w_changed.nd rfl (Or.inl rfl)) (pgs_cons (pg_name (i := 3) sc_w_changed.nd rfl (Or.inr rfl)) pgs_nil)))) (pss_cons (ps_par (i := 4) (j := 5) rfl sc_w_changed.nd rfl rfl (by decide) rfl rfl (pa_cons (pe_lc (own := [("_law_other", 6)]) rfl sc_w_changed.nd (pi_seq (pe_ix ix_any (pv 0) pe_int (fun _ _ => rfl))) (blkOk_by (N := nn_w_changed) (sc := defScope st_w_changed) (by decide +kernel)) (fun _ _ _ _ _ => (pg_name (i := 6) sc_w_changed.nd rfl (Or.inl rfl))) (fun _ _ _ _ _ => (pts_one (pt_cmpR (op_neA hu Fq T.eq (hr.mono (by first | decide | omega)) bq) (pv 6) (pv 3) (by first | exact nomark _ | rfl)))) (fun _ _ _ _ _ => (pv 6))) (pa_cons (pe_lc (own := [("_law_other", 6)]) rfl sc_w_changed.nd (pi_seq (pe_ix ix_any (pv 0) pe_int (fun _ _ => rfl))) (blkOk_by (N := nn_w_changed) (sc := defScope st_w_changed) (by decide +kernel)) (fun _ _ _ _ _ => (pg_name (i := 6) sc_w_changed.nd rfl (Or.inl rfl))) (fun _ _ _ _ _ => (pts_one (pt_cmpR (op_neA hu Fq T.eq (hr.mono (by first | decide | omega)) bq) (pv 6) (pv 3) (by first | exact nomark _ | rfl)))) (fun _ _ _ _ _ => (pv 6))) pa_nil)) rfl) (pss_cons (ps_if (pt_cmpR (op_eqP hu) (pv 2) pe_str (by first | exact nomark _ | rfl)) (pss_one (ps_ret (pe_lst (pa_cons (pe_op op_addA (pe_op op_addA (pe_slice sl_any (pv 4) po_none (po_some (pe_ix ix_any (pv 1) pe_int (fun _ _ => rfl)))) (pe_lst (pa_cons (pv 3) pa_nil))) (pe_slice sl_any (pv 4) (po_some (pe_ix ix_any (pv 1) pe_int (fun _ _ => rfl))) po_none)) (pa_cons (pe_op op_addA (pe_op op_addA (pe_slice sl_any (pv 5) po_none (po_some (pe_ix ix_any (pv 1) pe_int (fun _ _ => rfl)))) (pe_lst (pa_cons (pv 3) pa_nil))) (pe_slice sl_any (pv 5) (po_some (pe_ix ix_any (pv 1) pe_int (fun _ _ => rfl))) po_none)) pa_nil))))) pss_nil) (pss_cons (ps_if (pt_cmpR (op_eqP hu) (pv 2) pe_str (by first | exact nomark _ | rfl)) (pss_one (ps_ret (pe_lst (pa_cons (pv 4) (pa_cons (pv 5) pa_nil))))) pss_nil) (pss_cons (ps_if (pt_cmpR (op_eqP hu) (pv 2) pe_str (by first | exact nomark _ | rfl)) (pss_one (ps_ret (pe_lst (pa_cons (pe_callTy (call_listA rfl) (by rfl) M.list b_list (pa_cons (pe_ix ix_any (pv 0) pe_int (fun _ _ => rfl)) pa_nil)) (pa_cons (pe_op op_addA (pe_op op_addA (pe_slice sl_any (pv 5) po_none (po_some (pe_ix ix_any (pv 1) pe_int (fun _ _ => rfl)))) (pe_lst (pa_cons (pv 3) pa_nil))) (pe_slice sl_any (pv 5) (po_some (pe_ix ix_any (pv 1) pe_int (fun _ _ => rfl))) po_none)) pa_nil))))) pss_nil) (pss_one (ps_ret (pe_lst (pa_cons (pe_op op_addA (pe_op op_addA (pe_slice sl_any (pv 4) po_none (po_some (pe_ix ix_any (pv 1) pe_int (fun _ _ => rfl)))) (pe_lst (pa_cons (pv 3) pa_nil))) (pe_slice sl_any (pv 4) (po_some (pe_ix ix_any (pv 1) pe_int (fun _ _ => rfl))) po_none)) (pa_cons (pe_callTy (call_listA rfl) (by rfl) M.list b_list (pa_cons (pe_ix ix_any (pv 0) pe_int (fun _ _ => rfl)) pa_nil)) pa_nil)))))))))), (rs_sq (rs_rel 1 (rs_un rfl (fun Z => (re_sl re_v ro_none (ro_some re_int))))) (rs_sq (rs_par (fun Z => (re_lc (ri_seq (re_op r2_ix re_v re_int)) rg_nm (by decide) (fun Z => (rt_c (re_op (r2_neA I) re_v re_v))) (fun Z => re_v))) (fun Z => (re_lc (ri_seq (re_op r2_ix re_v re_int)) rg_nm (by decide) (fun Z => (rt_c (re_op (r2_neA I) re_v re_v))) (fun Z => re_v)))) (rs_sq (rs_if (fun Z => (rt_c (re_op r2_eq re_v re_str))) (rs_rel 3 (rs_ret fun Z => (re_lst (ra_cons (re_op r2_add (re_op r2_add (re_sl re_v ro_none (ro_some (re_op r2_ix re_v re_int))) (re_lst (ra_cons re_v ra_nil))) (re_sl re_v (ro_some (re_op r2_ix re_v re_int)) ro_none)) (ra_cons (re_op r2_add (re_op r2_add (re_sl re_v ro_none (ro_some (re_op r2_ix re_v re_int))) (re_lst (ra_cons re_v ra_nil))) (re_sl re_v (ro_some (re_op r2_ix re_v re_int)) ro_none)) ra_nil))))) rs_nx) (rs_sq (rs_if (fun Z => (rt_c (re_op r2_eq re_v re_str))) (rs_rel 5 (rs_rel 4 (rs_ret fun Z => (re_lst (ra_cons re_v (ra_cons re_v ra_nil)))))) rs_nx) (rs_sq (rs_if (fun Z => (rt_c (re_op r2_eq re_v re_str))) (rs_rel 3 (rs_ret fun Z => (re_lst (ra_cons (re_cb rn_list (ra_cons (re_op r2_ix re_v re_int) ra_nil)) (ra_cons (re_op r2_add (re_op r2_add (re_sl re_v ro_none (ro_some (re_op r2_ix re_v re_int))) (re_lst (ra_cons re_v ra_nil))) (re_sl re_v (ro_some (re_op r2_ix re_v re_int)) ro_none)) ra_nil))))) rs_nx) (rs_rel 3 (rs_ret fun Z => (re_lst (ra_cons (re_op r2_add (re_op r2_add (re_sl re_v ro_none (ro_some (re_op r2_ix re_v re_int))) (re_lst (ra_cons re_v ra_nil))) (re_sl re_v (ro_some (re_op r2_ix re_v re_int)) ro_none)) (ra_cons (re_cb rn_list (ra_cons (re_op r2_ix re_v re_int) ra_nil)) ra_nil))))))))))⟩
abbrev st_w_lots_of_run : Stmt := top 68
abbrev nn_w_lots_of_run : List Str := ["_law_run", "_law_change", "_law_books", "_law_book"]
theorem sc_w_lots_of_run : FnScope nn_w_lots_of_run ["_law_run", "_law_change"] (defScope st_w_lots_of_run) := ⟨rfl, rfl, rfl, by decide +kernel, rfl, by decide +kernel, by decide +kernel⟩
theorem has_w_lots_of_run {S : ST} (M : Nm mg) (L : ShL P w K mg base C) (r : RawF K mg "_law_lots_of_run" st_w_lots_of_run)
    (tree : ∀ ds n R, S ds n R → B_w_lots_of_run (ends R) (slots [true, true] ds 2) n) : Has P w K mg base C 3 "_law_lots_of_run" ["_law_run", "_law_change"] [true, true] S := by
  obtain ⟨f, fd, m0, F⟩ := r
  obtain ⟨fi, fq, fc, fr, fdi, fdq, fdc, fdr, T, gS, Fi, bi, Fq, bq, Fc, bc, Fr, br, I⟩ := L.x
  refine ⟨f, fd, def_ok F sc_w_lots_of_run rfl (fun cdv A outer s H E hr => ?_) tree, m0, F.kp, F.binds fun _ _ _ _ _ _ us hl => match us, hl with | [_, _], _ => rfl⟩
  have hu := units62 hr
  exact ⟨_, (pss_cons (ps_setLc (i := 2) (own := [("_law_book", 3)]) rfl sc_w_lots_of_run.nd rfl rfl (sw_true rfl rfl rfl (by decide +kernel)) (pi_seq (pv 0)) (blkOk_by (N := nn_w_lots_of_run) (sc := defScope st_w_lots_of_run) (by decide +kernel)) (fun _ _ _ _ _ => (pg_name (i := 3) sc_w_lots_of_run.nd rfl (Or.inl rfl))) (fun _ _ _ _ _ => (pts_one (PW.pt (pw_or (pt_cmpR (op_neP hu) (pe_ix ix_any (pv 1) pe_int (fun _ _ => rfl)) pe_str (by first | exact nomark _ | rfl)) (pw_or1 (pt_cmpR (op_neA hu Fq T.eq (hr.mono (by first | decide | omega)) bq) (pv 3) (pe_ix ix_any (pv 1) pe_int (fun _ _ => rfl)) (by first | exact nomark _ | rfl))))))) (fun _ _ _ _ _ => (pv 3))) (pss_one (ps_ret (pe_op op_addA (pe_lst (pa_cons (pe_callB cr_sortAT (by rfl) M.sorted b_sorted (pa_cons (pv 2) pa_nil)) pa_nil)) (pe_ifExp (pt_cmpR (op_eqP hu) (pe_ix ix_any (pv 1) pe_int (fun _ _ => rfl)) pe_str (by first | exact nomark _ | rfl)) (pe_lst (pa_cons (pe_callB cr_sortAT (by rfl) M.sorted b_sorted (pa_cons (pe_op op_addA (pv 2) (pe_lst (pa_cons (pe_ix ix_any (pv 1) pe_int (fun _ _ => rfl)) pa_nil))) pa_nil)) pa_nil)) (pe_lst pa_nil)))))), (rs_sq (rs_set fun Z => (re_lc (ri_seq re_v) rg_nm (by decide) (fun Z => (rt_or (rt_c (re_op r2_ne (re_op r2_ix re_v re_int) re_str)) (rt_c (re_op (r2_neA I) re_v (re_op r2_ix re_v re_int))))) (fun Z => re_v))) (rs_ret fun Z => (re_op r2_add (re_lst (ra_cons (re_cb rn_sortedT (ra_cons re_v ra_nil)) ra_nil)) (re_ifx (rt_c (re_op r2_eq (re_op r2_ix re_v re_int) re_str)) (re_lst (ra_cons (re_cb rn_sortedT (ra_cons (re_op r2_add re_v (re_lst (ra_cons (re_op r2_ix re_v re_int) ra_nil))) ra_nil)) ra_nil)) (re_lst ra_nil)))))⟩
abbrev st_w_stays_right : Stmt := top 69
abbrev nn_w_stays_right : List Str := ["_law_purse_here", "_law_world_here", "_law_shelf_here", "_law_runs_here", "_law_some", "_law_every", "_law_change", "_law_noted", "_law_late", "_law_there", "_law_lots", "_law_come", "_law_run", "_law_kept", "_law_lot", "_law_lost", "_law_new", "_law_told", "_law_part"]
theorem sc_w_stays_right : FnScope nn_w_stays_right ["_law_purse_here", "_law_world_here"] (defScope st_w_stays_right) := ⟨rfl, rfl, rfl, by decide +kernel, rfl, by decide +kernel, by decide +kernel⟩
theorem has_w_stays_right {S S1 S2 S3 S4 S5 S6 S7 S8 S9 S10 S11 S12 S13 : ST} (M : Nm mg) (r : RawF K mg "_law_stays_right" st_w_stays_right) (h1 : Has P w K mg base C 6 "_law_shelf" ["_law_world_here"] [true] S1) (h2 : Has P w K mg base C 2 "_law_runs" ["_law_world_here"] [true] S2) (h3 : Has P w K mg base C 5 "_law_some_changes" ["_law_purse_here", "_law_world_here"] [true, true] S3) (h4 : Has P w K mg base C 9 "kept_runs" ["shelf", "change"] [true, false] S4) (h5 : Has P w K mg base C 9 "lost_runs" ["shelf", "change"] [true, false] S5) (h6 : Has P w K mg base C 8 "new_runs" ["shelf", "change"] [true, false] S6) (h7 : Has P w K mg base C 6 "_law_same" ["_law_thing"] [false] S7) (h8 : Has P w K mg base C 6 "_law_exact" ["_law_mine", "_law_theirs"] [true, true] S8) (h9 : Has P w K mg base C 3 "_law_changed" ["_law_world_here", "_law_change"] [true, false] S9) (h10 : Has P w K mg base C 3 "_law_lots_of_run" ["_law_run", "_law_change"] [true, true] S10) (h11 : Has P w K mg base C 3 "all_runs" ["shelf"] [true] S11) (h12 : Has P w K mg base C 7 "changed" ["shelf", "change"] [true, false] S12) (h13 : Has P w K mg base C 7 "_law_stays" ["_law_world_here", "_law_shelf_here"] [true, true] S13)
    (tree : ∀ ds n R, S ds n R → B_w_stays_right S1 S2 S3 S4 S5 S6 S7 S8 S9 S10 S11 S12 S13 (ends R) (slots [true, true] ds 17) n) : Has P w K mg base C 10 "_law_stays_right" ["_law_purse_here", "_law_world_here"] [true, true] S := by
  obtain ⟨f, fd, m0, F⟩ := r
  obtain ⟨f1, fd1, F1, m1, k1, b1⟩ := h1
  obtain ⟨f2, fd2, F2, m2, k2, b2⟩ := h2
  obtain ⟨f3, fd3, F3, m3, k3, b3⟩ := h3
  obtain ⟨f4, fd4, F4, m4, k4, b4⟩ := h4
  obtain ⟨f5, fd5, F5, m5, k5, b5⟩ := h5
  obtain ⟨f6, fd6, F6, m6, k6, b6⟩ := h6
  obtain ⟨f7, fd7, F7, m7, k7, b7⟩ := h7
  obtain ⟨f8, fd8, F8, m8, k8, b8⟩ := h8
  obtain ⟨f9, fd9, F9, m9, k9, b9⟩ := h9
  obtain ⟨f10, fd10, F10, m10, k10, b10⟩ := h10
  obtain ⟨f11, fd11, F11, m11, k11, b11⟩ := h11
  obtain ⟨f12, fd12, F12, m12, k12, b12⟩ := h12
  obtain ⟨f13, fd13, F13, m13, k13, b13⟩ := h13
  refine ⟨f, fd, def_ok F sc_w_stays_right rfl (fun cdv A outer s H E hr => ?_) tree, m0, F.kp, F.binds fun _ _ _ _ _ _ us hl => match us, hl with | [_, _], _ => rfl⟩
  have hu := units62 hr
  exact ⟨_, (pss_cons (ps_par (i := 2) (j := 3) rfl sc_w_stays_right.nd rfl rfl (by decide) rfl rfl (pa_cons (pe_call F1 (hr.mono (by first | decide | omega)) rfl m1 k1 b1 .nil pass0 (pa_cons (pv 1) pa_nil)) (pa_cons (pe_call F2 (hr.mono (by first | decide | omega)) rfl m2 k2 b2 .nil pass0 (pa_cons (pv 1) pa_nil)) pa_nil)) rfl) (pss_cons (ps_par (i := 4) (j := 5) rfl sc_w_stays_right.nd rfl rfl (by decide) rfl rfl (pa_cons (pe_slice sl_any (pe_call F3 (hr.mono (by first | decide | omega)) rfl m3 k3 b3 .nil pass0 (pa_cons (pv 0) (pa_cons (pv 1) pa_nil))) po_none (po_some pe_int)) (pa_cons (pe_lst pa_nil) pa_nil)) rfl) (pss_cons (ps_for PassesOwn.never rfl (pi_seq (pv 4)) (pg_name (i := 6) sc_w_stays_right.nd rfl (Or.inr rfl)) (pss_one (ps_expr (pe_bm PySem.F.plainAttrs_list PySem.F.slot_list_append PySem.F.type_list_append mt_append (pv 5) (pa_cons (pe_lst (pa_cons (pe_call F4 (hr.mono (by first | decide | omega)) rfl m4 k4 b4 .nil pass0 (pa_cons (pv 2) (pa_cons (pv 6) pa_nil))) (pa_cons (pe_call F5 (hr.mono (by first | decide | omega)) rfl m5 k5 b5 .nil pass0 (pa_cons (pv 2) (pa_cons (pv 6) pa_nil))) (pa_cons (pe_call F6 (hr.mono (by first | decide | omega)) rfl m6 k6 b6 .nil pass0 (pa_cons (pv 2) (pa_cons (pv 6) pa_nil))) pa_nil)))) pa_nil))))) (pss_cons (ps_set (i := 7) sc_w_stays_right.nd rfl (Or.inl rfl) (pe_call F7 (hr.mono (by first | decide | omega)) rfl m7 k7 b7 .nil pass0 (pa_cons (pv 5) pa_nil))) (pss_cons (ps_for PassesOwn.never rfl (pi_seq (pe_revA (pv 4))) (pg_name (i := 6) sc_w_stays_right.nd rfl (Or.inr rfl)) (pss_one (ps_set (i := 5) sc_w_stays_right.nd rfl (Or.inl rfl) (pe_op op_addA (pv 5) (pe_lst (pa_cons (pe_lst (pa_cons (pe_call F4 (hr.mono (by first | decide | omega)) rfl m4 k4 b4 .nil pass0 (pa_cons (pv 2) (pa_cons (pv 6) pa_nil))) (pa_cons (pe_call F5 (hr.mono (by first | decide | omega)) rfl m5 k5 b5 .nil pass0 (pa_cons (pv 2) (pa_cons (pv 6) pa_nil))) (pa_cons (pe_call F6 (hr.mono (by first | decide | omega)) rfl m6 k6 b6 .nil pass0 (pa_cons (pv 2) (pa_cons (pv 6) pa_nil))) pa_nil)))) pa_nil)))))) (pss_cons (ps_if (pt_not (pt_val (pe_call F8 (hr.mono (by first | decide | omega)) rfl m8 k8 b8 .nil pass0 (pa_cons (pv 5) (pa_cons (pe_op op_addA (pv 7) (pe_revA (pv 7))) pa_nil))))) (pss_one (ps_ret pe_bl)) pss_nil) (pss_cons (ps_for PassesOwn.never rfl (pi_seq (pv 4)) (pg_name (i := 6) sc_w_stays_right.nd rfl (Or.inr rfl)) (pss_cons (ps_set (i := 8) sc_w_stays_right.nd rfl (Or.inl rfl) (pe_call F9 (hr.mono (by first | decide | omega)) rfl m9 k9 b9 .nil pass0 (pa_cons (pv 1) (pa_cons (pv 6) pa_nil)))) (pss_cons (ps_set (i := 9) sc_w_stays_right.nd rfl (Or.inl rfl) (pe_call F2 (hr.mono (by first | decide | omega)) rfl m2 k2 b2 .nil pass0 (pa_cons (pv 8) pa_nil))) (pss_cons (ps_asg (pe_tup (pa_cons (pe_lc (own := [("_law_run", 12)]) rfl sc_w_stays_right.nd (pi_seq (pv 9)) (blkOk_by (N := nn_w_stays_right) (sc := defScope st_w_stays_right) (by decide +kernel)) (fun _ _ _ _ _ => (pg_name (i := 12) sc_w_stays_right.nd rfl (Or.inl rfl))) (fun _ _ _ _ _ => pts_nil) (fun _ _ _ _ _ => (pe_callB cr_sortAT (by rfl) M.sorted b_sorted (pa_cons (pv 12) pa_nil)))) (pa_cons (pe_lst pa_nil) pa_nil))) (pg_un rfl (pgs_cons (pg_name (i := 10) sc_w_stays_right.nd rfl (Or.inr rfl)) (pgs_cons (pg_name (i := 11) sc_w_stays_right.nd rfl (Or.inr rfl)) pgs_nil)))) (pss_cons (ps_for PassesOwn.never rfl (pi_seq (pv 3)) (pg_name (i := 12) sc_w_stays_right.nd rfl (Or.inl rfl)) (pss_one (ps_set (i := 11) sc_w_stays_right.nd rfl (Or.inr rfl) (pe_op op_addA (pv 11) (pe_call F10 (hr.mono (by first | decide | omega)) rfl m10 k10 b10 .nil pass0 (pa_cons (pv 12) (pa_cons (pv 6) pa_nil))))))) (pss_cons (ps_set (i := 13) sc_w_stays_right.nd rfl (Or.inr rfl) (pe_lc (own := [("_law_run", 12)]) rfl sc_w_stays_right.nd (pi_seq (pv 3)) (blkOk_by (N := nn_w_stays_right) (sc := defScope st_w_stays_right) (by decide +kernel)) (fun _ _ _ _ _ => (pg_name (i := 12) sc_w_stays_right.nd rfl (Or.inl rfl))) (fun _ _ _ _ _ => (pts_one (pt_val (pe_callB (cr_any rfl) (by rfl) M.any b_any (pa_cons (pe_lc (own := [("_law_lot", 14)]) rfl sc_w_stays_right.nd (pi_seq (pe_call F10 (hr.mono (by first | decide | omega)) (by rfl) m10 k10 b10 .nil pass0 (pa_cons (pv 12) (pa_cons (pv 6) pa_nil)))) (blkOk_by (N := nn_w_stays_right) (sc := { kind := .function, names := [(".0", .local), ("_law_run", .local), ("any", .globalImplicit), ("_law_lots_of_run", .globalImplicit), ("_law_change", .cell), ("_law_lots", .cell)], isGenerator := false, isCoroutine := false }) (by decide +kernel)) (fun _ _ _ _ _ => (pg_name (i := 14) sc_w_stays_right.nd rfl (Or.inl rfl))) (fun _ _ _ _ _ => pts_nil) (fun _ _ _ _ _ => (pe_cmpR (op_inA hu) (pv 14) (pv 10) (by first | exact nomark _ | rfl)))) pa_nil))))) (fun _ _ _ _ _ => (pv 12)))) (pss_cons (ps_par (i := 15) (j := 16) rfl sc_w_stays_right.nd rfl rfl (by decide) rfl rfl (pa_cons (pe_lc (own := [("_law_run", 12)]) rfl sc_w_stays_right.nd (pi_seq (pv 3)) (blkOk_by (N := nn_w_stays_right) (sc := defScope st_w_stays_right) (by decide +kernel)) (fun _ _ _ _ _ => (pg_name (i := 12) sc_w_stays_right.nd rfl (Or.inl rfl))) (fun _ _ _ _ _ => (pts_one (pt_cmpR (op_ninP hu) (pv 12) (pv 13) (by first | exact nomark _ | rfl)))) (fun _ _ _ _ _ => (pv 12))) (pa_cons (pe_lc (own := [("_law_run", 12)]) rfl sc_w_stays_right.nd (pi_seq (pv 9)) (blkOk_by (N := nn_w_stays_right) (sc := defScope st_w_stays_right) (by decide +kernel)) (fun _ _ _ _ _ => (pg_name (i := 12) sc_w_stays_right.nd rfl (Or.inl rfl))) (fun _ _ _ _ _ => (pts_one (pt_cmpR (op_ninP hu) (pe_callB cr_sortAT (by rfl) M.sorted b_sorted (pa_cons (pv 12) pa_nil)) (pv 11) (by first | exact nomark _ | rfl)))) (fun _ _ _ _ _ => (pv 12))) pa_nil)) rfl) (pss_cons (ps_set (i := 17) sc_w_stays_right.nd rfl (Or.inl rfl) (pe_lst (pa_cons (pe_call F4 (hr.mono (by first | decide | omega)) rfl m4 k4 b4 .nil pass0 (pa_cons (pv 2) (pa_cons (pv 6) pa_nil))) (pa_cons (pe_call F5 (hr.mono (by first | decide | omega)) rfl m5 k5 b5 .nil pass0 (pa_cons (pv 2) (pa_cons (pv 6) pa_nil))) (pa_cons (pe_call F6 (hr.mono (by first | decide | omega)) rfl m6 k6 b6 .nil pass0 (pa_cons (pv 2) (pa_cons (pv 6) pa_nil))) pa_nil))))) (pss_cons (ps_if (pt_not (pt_val (pe_call F8 (hr.mono (by first | decide | omega)) rfl m8 k8 b8 .nil pass0 (pa_cons (pv 17) (pa_cons (pe_lst (pa_cons (pv 13) (pa_cons (pv 15) (pa_cons (pv 16) pa_nil)))) pa_nil))))) (pss_one (ps_ret pe_bl)) pss_nil) (pss_cons (ps_if (PW.pt (pw_and (pt_cmpR (op_eqP hu) (pe_ix ix_any (pv 6) pe_int (fun _ _ => rfl)) pe_str (by first | exact nomark _ | rfl)) (pw_and1 (pt_cmpR (op_neP hu) (pv 15) (pe_lc (own := [("_law_run", 12)]) rfl sc_w_stays_right.nd (pi_seq (pv 3)) (blkOk_by (N := nn_w_stays_right) (sc := defScope st_w_stays_right) (by decide +kernel)) (fun _ _ _ _ _ => (pg_name (i := 12) sc_w_stays_right.nd rfl (Or.inl rfl))) (fun _ _ _ _ _ => (pts_one (PW.pt (pw_and (pt_cmpR (op_eqP hu) (pe_callB call_lenA (by rfl) M.len b_len (pa_cons (pv 12) pa_nil)) pe_int (by first | exact nomark _ | rfl)) (pw_and1 (pt_cmpR (op_inA hu) (pe_ix ix_any (pv 6) pe_int (fun _ _ => rfl)) (pv 12) (by first | exact nomark _ | rfl))))))) (fun _ _ _ _ _ => (pv 12))) (by first | exact nomark _ | rfl))))) (pss_one (ps_ret pe_bl)) pss_nil) (pss_cons (ps_if (PW.pt (pw_and (pt_cmpR (op_eqP hu) (pe_ix ix_any (pv 6) pe_int (fun _ _ => rfl)) pe_str (by first | exact nomark _ | rfl)) (pw_and1 (pt_not (pt_val (pe_callB (cr_all rfl) (by rfl) M.all b_all (pa_cons (pe_lc (own := [("_law_run", 12)]) rfl sc_w_stays_right.nd (pi_seq (pv 16)) (blkOk_by (N := nn_w_stays_right) (sc := defScope st_w_stays_right) (by decide +kernel)) (fun _ _ _ _ _ => (pg_name (i := 12) sc_w_stays_right.nd rfl (Or.inl rfl))) (fun _ _ _ _ _ => pts_nil) (fun _ _ _ _ _ => (pe_and (pe_cmpR (op_eqP hu) (pe_callB call_lenA (by rfl) M.len b_len (pa_cons (pv 12) pa_nil)) pe_int (by first | exact nomark _ | rfl)) (pe_one (pe_cmpR (op_inA hu) (pe_ix ix_any (pv 6) pe_int (fun _ _ => rfl)) (pv 12) (by first | exact nomark _ | rfl)))))) pa_nil))))))) (pss_one (ps_ret pe_bl)) pss_nil) (pss_cons (ps_for PassesOwn.never rfl (pi_seq (pv 17)) (pg_name (i := 18) sc_w_stays_right.nd rfl (Or.inl rfl)) (pss_one (ps_expr (pe_bm PySem.F.plainAttrs_list PySem.F.slot_list_append PySem.F.type_list_append mt_append (pv 18) (pa_cons pe_non pa_nil))))) (pss_cons (ps_if (pt_not (pt_val (pe_call F8 (hr.mono (by first | decide | omega)) rfl m8 k8 b8 .nil pass0 (pa_cons (pe_lst (pa_cons (pe_call F4 (hr.mono (by first | decide | omega)) rfl m4 k4 b4 .nil pass0 (pa_cons (pv 2) (pa_cons (pv 6) pa_nil))) (pa_cons (pe_call F5 (hr.mono (by first | decide | omega)) rfl m5 k5 b5 .nil pass0 (pa_cons (pv 2) (pa_cons (pv 6) pa_nil))) (pa_cons (pe_call F6 (hr.mono (by first | decide | omega)) rfl m6 k6 b6 .nil pass0 (pa_cons (pv 2) (pa_cons (pv 6) pa_nil))) pa_nil)))) (pa_cons (pe_lst (pa_cons (pv 13) (pa_cons (pv 15) (pa_cons (pv 16) pa_nil)))) pa_nil))))) (pss_one (ps_ret pe_bl)) pss_nil) (pss_one (ps_if (pt_not (pt_val (pe_call F8 (hr.mono (by first | decide | omega)) rfl m8 k8 b8 .nil pass0 (pa_cons (pe_call F11 (hr.mono (by first | decide | omega)) rfl m11 k11 b11 .nil pass0 (pa_cons (pe_call F12 (hr.mono (by first | decide | omega)) rfl m12 k12 b12 .nil pass0 (pa_cons (pv 2) (pa_cons (pv 6) pa_nil))) pa_nil)) (pa_cons (pv 9) pa_nil))))) (pss_one (ps_ret pe_bl)) pss_nil))))))))))))))) (pss_one (ps_ret (pe_call F13 (hr.mono (by first | decide | omega)) rfl m13 k13 b13 .nil pass0 (pa_cons (pv 1) (pa_cons (pv 2) pa_nil)))))))))))), (rs_sq (rs_par (fun Z => (re_call (ra_cons re_v ra_nil))) (fun Z => (re_call (ra_cons re_v ra_nil)))) (rs_sq (rs_par (fun Z => (re_sl (re_call (ra_cons re_v (ra_cons re_v ra_nil))) ro_none (ro_some re_int))) (fun Z => (re_lst ra_nil))) (rs_sq (rs_rel 4 (rs_for (fun Z => (ri_seq re_v)) rg_nm (rs_rel 6 (rs_app fun Z => (re_lst (ra_cons (re_call (ra_cons re_v (ra_cons re_v ra_nil))) (ra_cons (re_call (ra_cons re_v (ra_cons re_v ra_nil))) (ra_cons (re_call (ra_cons re_v (ra_cons re_v ra_nil))) ra_nil)))))))) (rs_sq (rs_rel 5 (rs_set fun Z => (re_call (ra_cons re_v ra_nil)))) (rs_sq (rs_for (fun Z => (ri_seq (re_revA re_v))) rg_nm (rs_rel 6 (rs_set fun Z => (re_op r2_add re_v (re_lst (ra_cons (re_lst (ra_cons (re_call (ra_cons re_v (ra_cons re_v ra_nil))) (ra_cons (re_call (ra_cons re_v (ra_cons re_v ra_nil))) (ra_cons (re_call (ra_cons re_v (ra_cons re_v ra_nil))) ra_nil)))) ra_nil)))))) (rs_sq (rs_if (fun Z => (rt_not (rt_v (re_call (ra_cons re_v (ra_cons (re_op r2_add re_v (re_revA re_v)) ra_nil)))))) (rs_ret fun Z => re_bl) rs_nx) (rs_sq (rs_rel 4 (rs_for (fun Z => (ri_seq re_v)) rg_nm (rs_sq (rs_rel 6 (rs_set fun Z => (re_call (ra_cons re_v (ra_cons re_v ra_nil))))) (rs_sq (rs_set fun Z => (re_call (ra_cons re_v ra_nil))) (rs_sq (rs_parU (fun Z => (re_lc (ri_seq re_v) rg_nm (by decide) (fun Z => rt_yes) (fun Z => (re_cb rn_sortedT (ra_cons re_v ra_nil))))) (fun Z => (re_lst ra_nil))) (rs_sq (rs_rel 3 (rs_for (fun Z => (ri_seq re_v)) rg_nm (rs_set fun Z => (re_op r2_add re_v (re_call (ra_cons re_v (ra_cons re_v ra_nil))))))) (rs_sq (rs_set fun Z => (re_lc (ri_seq re_v) rg_nm (by decide) (fun Z => (rt_v (re_cb rn_any (ra_cons (re_lc (ri_seq (re_call (ra_cons re_v (ra_cons re_v ra_nil)))) rg_nm (by decide) (fun Z => rt_yes) (fun Z => (re_op r2_inA re_v re_v))) ra_nil)))) (fun Z => re_v))) (rs_sq (rs_par (fun Z => (re_lc (ri_seq re_v) rg_nm (by decide) (fun Z => (rt_c (re_op r2_nin re_v re_v))) (fun Z => re_v))) (fun Z => (re_lc (ri_seq re_v) rg_nm (by decide) (fun Z => (rt_c (re_op r2_nin (re_cb rn_sortedT (ra_cons re_v ra_nil)) re_v))) (fun Z => re_v)))) (rs_rel 16 (rs_rel 15 (rs_rel 13 (rs_rel 6 (rs_nest (fun Z => (ra_cons (re_call (ra_cons re_v (ra_cons re_v ra_nil))) (ra_cons (re_call (ra_cons re_v (ra_cons re_v ra_nil))) (ra_cons (re_call (ra_cons re_v (ra_cons re_v ra_nil))) ra_nil)))) (n1_if (fun Z => (rt_not (rt_v (re_call (ra_cons re_v (ra_cons (re_lst (ra_cons re_v (ra_cons re_v (ra_cons re_v ra_nil)))) ra_nil)))))) (n1_if (fun Z => (rt_and (rt_c (re_op r2_eq (re_op r2_ix re_v re_int) re_str)) (rt_c (re_op r2_ne re_v (re_lc (ri_seq re_v) rg_nm (by decide) (fun Z => (rt_and (rt_c (re_op r2_eq (re_cb rn_len (ra_cons re_v ra_nil)) re_int)) (rt_c (re_op r2_inA (re_op r2_ix re_v re_int) re_v)))) (fun Z => re_v)))))) (n1_if (fun Z => (rt_and (rt_c (re_op r2_eq (re_op r2_ix re_v re_int) re_str)) (rt_not (rt_v (re_cb rn_all (ra_cons (re_lc (ri_seq re_v) rg_nm (by decide) (fun Z => rt_yes) (fun Z => (re_and (re_op r2_eq (re_cb rn_len (ra_cons re_v ra_nil)) re_int) (re_op r2_inA (re_op r2_ix re_v re_int) re_v)))) ra_nil)))))) (n1_go (n2_all (j := 18) (n2_end (rs_sq (rs_rel 16 (rs_rel 15 (rs_rel 13 (rs_rel 6 (rs_if (fun Z => (rt_not (rt_v (re_call (ra_cons (re_lst (ra_cons (re_call (ra_cons re_v (ra_cons re_v ra_nil))) (ra_cons (re_call (ra_cons re_v (ra_cons re_v ra_nil))) (ra_cons (re_call (ra_cons re_v (ra_cons re_v ra_nil))) ra_nil)))) (ra_cons (re_lst (ra_cons re_v (ra_cons re_v (ra_cons re_v ra_nil)))) ra_nil)))))) (rs_ret fun Z => re_bl) rs_nx))))) (rs_rel 6 (rs_if (fun Z => (rt_not (rt_v (re_call (ra_cons (re_call (ra_cons (re_call (ra_cons re_v (ra_cons re_v ra_nil))) ra_nil)) (ra_cons re_v ra_nil)))))) (rs_ret fun Z => re_bl) rs_nx)))))))))))))))))))))) (rs_ret fun Z => (re_call (ra_cons re_v (ra_cons re_v ra_nil)))))))))))⟩
abbrev st_w_all_outs : Stmt := top 70
abbrev nn_w_all_outs : List Str := ["_law_world_here", "_law_shelf_here", "_law_runs_here", "_law_book", "_law_lost", "_law_run"]
theorem sc_w_all_outs : FnScope nn_w_all_outs ["_law_world_here"] (defScope st_w_all_outs) := ⟨rfl, rfl, rfl, by decide +kernel, rfl, by decide +kernel, by decide +kernel⟩
theorem has_w_all_outs {S S1 S2 S3 S4 : ST} (M : Nm mg) (r : RawF K mg "_law_all_outs" st_w_all_outs) (h1 : Has P w K mg base C 6 "_law_shelf" ["_law_world_here"] [true] S1) (h2 : Has P w K mg base C 2 "_law_runs" ["_law_world_here"] [true] S2) (h3 : Has P w K mg base C 6 "_law_exact" ["_law_mine", "_law_theirs"] [true, true] S3) (h4 : Has P w K mg base C 9 "lost_runs" ["shelf", "change"] [true, false] S4)
    (tree : ∀ ds n R, S ds n R → B_w_all_outs S1 S2 S3 S4 (ends R) (slots [true] ds 5) n) : Has P w K mg base C 10 "_law_all_outs" ["_law_world_here"] [true] S := by
  obtain ⟨f, fd, m0, F⟩ := r
  obtain ⟨f1, fd1, F1, m1, k1, b1⟩ := h1
  obtain ⟨f2, fd2, F2, m2, k2, b2⟩ := h2
  obtain ⟨f3, fd3, F3, m3, k3, b3⟩ := h3
  obtain ⟨f4, fd4, F4, m4, k4, b4⟩ := h4
  refine ⟨f, fd, def_ok F sc_w_all_outs rfl (fun cdv A outer s H E hr => ?_) tree, m0, F.kp, F.binds fun _ _ _ _ _ _ us hl => match us, hl with | [_], _ => rfl⟩
  have hu := units62 hr
  exact ⟨_, (pss_cons (ps_par (i := 1) (j := 2) rfl sc_w_all_outs.nd rfl rfl (by decide) rfl rfl (pa_cons (pe_call F1 (hr.mono (by first | decide | omega)) rfl m1 k1 b1 .nil pass0 (pa_cons (pv 0) pa_nil)) (pa_cons (pe_call F2 (hr.mono (by first | decide | omega)) rfl m2 k2 b2 .nil pass0 (pa_cons (pv 0) pa_nil)) pa_nil)) rfl) (pss_cons (ps_for PassesOwn.never rfl (pi_seq (pe_ifExp (pt_cmpR op_gt (pe_callB call_lenA (by rfl) M.len b_len (pa_cons (pe_ix ix_any (pv 0) pe_int (fun _ _ => rfl)) pa_nil)) pe_int (by first | exact nomark _ | rfl)) (pe_ix ix_any (pv 0) pe_int (fun _ _ => rfl)) (pe_lst pa_nil))) (pg_name (i := 3) sc_w_all_outs.nd rfl (Or.inr rfl)) (pss_cons (ps_setLc (i := 4) (own := [("_law_run", 5)]) rfl sc_w_all_outs.nd rfl rfl (sw_true rfl rfl rfl (by decide +kernel)) (pi_seq (pv 2)) (blkOk_by (N := nn_w_all_outs) (sc := defScope st_w_all_outs) (by decide +kernel)) (fun _ _ _ _ _ => (pg_name (i := 5) sc_w_all_outs.nd rfl (Or.inl rfl))) (fun _ _ _ _ _ => (pts_one (PW.pt (pw_and (pt_cmpR (op_eqP hu) (pe_callB call_lenA (by rfl) M.len b_len (pa_cons (pv 5) pa_nil)) pe_int (by first | exact nomark _ | rfl)) (pw_and1 (pt_cmpR (op_inA hu) (pv 3) (pv 5) (by first | exact nomark _ | rfl))))))) (fun _ _ _ _ _ => (pv 5))) (pss_one (ps_if (pt_not (pt_val (pe_call F3 (hr.mono (by first | decide | omega)) rfl m3 k3 b3 .nil pass0 (pa_cons (pe_call F4 (hr.mono (by first | decide | omega)) rfl m4 k4 b4 .nil pass0 (pa_cons (pv 1) (pa_cons (pe_tup (pa_cons pe_str (pa_cons (pv 3) pa_nil))) pa_nil))) (pa_cons (pv 4) pa_nil))))) (pss_one (ps_ret pe_bl)) pss_nil)))) (pss_one (ps_ret pe_bl)))), (rs_sq (rs_par (fun Z => (re_call (ra_cons re_v ra_nil))) (fun Z => (re_call (ra_cons re_v ra_nil)))) (rs_sq (rs_for (fun Z => (ri_seq (re_ifx (rt_c (re_op r2_gt (re_cb rn_len (ra_cons (re_op r2_ix re_v re_int) ra_nil)) re_int)) (re_op r2_ix re_v re_int) (re_lst ra_nil)))) rg_nm (rs_sq (rs_set fun Z => (re_lc (ri_seq re_v) rg_nm (by decide) (fun Z => (rt_and (rt_c (re_op r2_eq (re_cb rn_len (ra_cons re_v ra_nil)) re_int)) (rt_c (re_op r2_inA re_v re_v)))) (fun Z => re_v))) (rs_rel 3 (rs_if (fun Z => (rt_not (rt_v (re_call (ra_cons (re_call (ra_cons re_v (ra_cons (re_tup (ra_cons re_str (ra_cons re_v ra_nil))) ra_nil))) (ra_cons re_v ra_nil)))))) (rs_ret fun Z => re_bl) rs_nx)))) (rs_ret fun Z => re_bl)))⟩
end
end LW

-- BL
set_option Elab.async false
set_option linter.all false
set_option maxRecDepth 100000
set_option maxHeartbeats 4100000
namespace TL
open L2 PyProof.Rows PySem PySem.Spec TS TMin RZ
def B_lawin (S2 : ST) (S3 : ST) (S4 : ST) (S5 : ST) : TSt :=
  (tlSq (tlSet 2 (tlCall [true, false] S2 (tlCons (tlV 1) (tlCons (tlCall [true] S3 (tlCons (tlV 1) tlNil)) tlNil)))) (tlIf (tlOrT (tlNotT (tlT (tlCall [true, true] S4 (tlCons (tlV 1) (tlCons (tlV 2) tlNil))))) (tlNotT (tlT (tlCall [true] S5 (tlCons (tlV 2) tlNil))))) (tlRet (tlC (.bl false))) tlNx))
end TL

-- LawG
set_option Elab.async false
set_option linter.all false
set_option maxRecDepth 100000
set_option maxHeartbeats 4100000
/-! ### a law: for each of its purses a body, then True -/
namespace LW
open L2 PyProof.Rows PySem PySem.Spec TS TL
theorem _root_.TL.PurseAt.neRefs {H : Hp} {p a c : Addr} {b : Int} {r : List V} (h : PurseAt H p b) (ha : H a = some (.lst (.ref c :: r))) : p ≠ a := by
  rintro rfl
  obtain ⟨_, _, _, _, hp, _⟩ := h
  have := congrArg (fun o => match o with | some (HO.lst (.int _ :: _)) => true | _ => false) (hp.symm.trans ha)
  cases this
def spLaw (K : PySem.W.Frag) : Sp := fun vs H Q _ => ∃ (a : Addr) (zs : List Int), vs = [.ref a] ∧ SqL K H a (zs.map V.int) ∧ zs.length ≤ 63 ∧ ∀ H', Q (.bl true) H'
section
variable {P : Program} {w : World} {K : PySem.W.Frag} {mg : Str → Option Value} {base : Heap} {C : Addr}
def lawG (m : Nat) : Gm := none :: some (.bor .purse) :: List.replicate m none
theorem law_ok {st : Stmt} {f : Addr} {fd : FuncData} {N : List Str} {k m few c : Nat} {T : TSt} (F : Fun K "law" "law" st f fd) (sc : FnScope N ["_law_script"] (defScope st)) (hN : N.length = m + 2) (hfew : few ≤ 100) (hc : c ≤ 1000000000)
    (body : ∀ (cdv : Value) (A : Around) (outer : List Env) (s : Shared) (H : Hp) (E : XK), Room k (A.deeper (envOfC "law" (defScope st) s.heap.objs.size f cdv)) →
      ∃ (E' : XK) (tb : TS), PSs (cxOf CX0 P w K mg base N "law" (defScope st) f cdv A outer s H E).nox (defBody st) (tSeq (tFor (iList K (tCall (spPurses K) [] E' (tCons (tVar 0) (tCons (tC (.int few)) tNil)))) (gName 1) tb) (tRet (tC (.bl true)))) ∧ RS C tb T)
    (tree : ∀ (E : TEn) (n : Nat), c ≤ n → (∀ Γ q, Γ.length = m + 2 → n ≤ q + c → E.nx Γ q) → T E (lawG m) n) : FnOk P w K mg base CX0 (k + 1) f fd ["_law_script"] (spLaw K) := by
  refine F.ok sc (fun vs H Q E h => ?_) (fun cdv A outer s H vs Q E hr h => ?_)
  · obtain ⟨a, zs, rfl, _⟩ := h
    rfl
  · obtain ⟨a, zs, rfl, hS, hlen, q⟩ := h
    obtain ⟨E', tb, h1, h2⟩ := body cdv A outer s H E hr
    refine ⟨_, h1, ?_⟩
    have l0 : (L2.start N [V.ref a]).length = m + 2 := by
      unfold L2.start
      simp [hN]
    refine ⟨.ref a, ?_, a, zs, few, rfl, hS, hlen, hfew, fun H0 L ps _ _ hL few0 purses _ => ?_⟩
    · unfold L2.start
      rfl
    refine ⟨L, rfl, ⟨_, SqL.of hL⟩, ?_⟩
    refine for_list (K := K) (xs := ps.map V.ref) (fun i σ H' => σ.length = m + 2 ∧ H' L = some (.lst (ps.map V.ref)) ∧ ∀ x ∈ ps, PurseAt H' x (((c * i : Nat) : Nat) : Int)) ?_ ?_ ?_ ?_
    · exact ⟨l0, hL, fun x hx => (purses x hx).le (by omega)⟩
    · rintro i σ H' _ ⟨_, h, _⟩
      exact SqL.of h
    · rintro i v σ H hv ⟨lσ, hL, purses⟩
      rw [List.getElem?_map] at hv
      obtain ⟨p, hp, rfl⟩ := Option.map_eq_some_iff.1 hv
      have lti := (List.getElem?_eq_some_iff.1 hp).1
      have hP := purses p (List.mem_of_getElem? hp)
      have nLp : p ≠ L := by
        cases ps with
        | nil => simp at hp
        | cons y r => exact hP.neRefs hL
      have hi : c * i ≤ 100000000000 := Nat.le_trans (Nat.mul_le_mul hc (by omega : i ≤ 100)) (by decide)
      obtain ⟨o, ho⟩ : ∃ o, H p = some o := by
        obtain ⟨_, _, _, _, z, _⟩ := hP
        exact ⟨_, z⟩
      have dom : ∀ b, b = p → ∃ o, H b = some o := fun b e => ⟨o, by rw [e]; exact ho⟩
      have pw : ∀ b, some p = some b → b = p := fun b e => (Option.some.inj e).symm
      have fuel : c * i + c ≤ 2 ^ 40 := by omega
      generalize hn : 2 ^ 40 - c * i = n at fuel
      have M : Mt C (Zx.at (some p) (fun b => b = p) H dom pw) [] (lawG m) (σ.set 1 (some (.ref p))) H n := by
        refine ⟨by rw [List.length_set, lσ]; simp [lawG], .refl, ⟨_, hP, by omega⟩, fun j r hj => ?_, fun g hg => (nomatch hg), fun j j' b h => ?_⟩
        · match j, hj with
          | 0, hj => cases hj
          | 1, hj =>
            obtain rfl := Option.some.inj (Option.some.inj hj)
            refine ⟨.ref p, by rw [List.getElem?_set_self (by omega)], .inl ⟨p, rfl, rfl⟩⟩
          | j + 2, hj =>
            have : (List.replicate m (none : Option Rv))[j]? = some (some r) := hj
            rw [List.getElem?_replicate] at this
            split at this
            · cases this
            · cases this
        · obtain ⟨⟨d, hd⟩, _⟩ := h
          match j, hd with
          | 0, hd => cases hd
          | 1, hd => cases hd
          | j + 2, hd =>
            have : (List.replicate m (none : Option Rv))[j]? = some (some (.new d)) := hd
            rw [List.getElem?_replicate] at this
            split at this
            · cases this
            · cases this
      refine h2 _ [] _ _ H n { nx := fun Γ q => Γ.length = m + 2 ∧ n ≤ q + c, rt := fun _ _ => False } _ M ⟨fun Γ σ' H' q M' ⟨lΓ, hq⟩ => ?_, fun _ _ _ _ _ _ _ _ h => h.elim, fun _ _ _ _ _ h => h.elim, fun _ _ _ _ _ h => h.elim⟩ (tree _ n (by omega) fun Γ q l h => ⟨l, h⟩)
      have fr : Bt (some p) H H' := M'.fr
      refine ⟨by rw [M'.len, lΓ], fr L _ (fun e => nLp (Option.some.inj e)) hL, fun x hx => ?_⟩
      have e : c * (i + 1) = c * i + c := Nat.mul_succ c i
      by_cases z : x = p
      · subst z
        obtain ⟨b, hb, hbq⟩ := M'.pa
        exact hb.le (by omega)
      · obtain ⟨p0, p1, p2, p3, h, r1, r2, r3, r4, r5, r6⟩ := purses x hx
        exact ⟨p0, p1, p2, p3, fr x _ (fun e => z (Option.some.inj e).symm) h, r1, r2, r3, by omega, r5, r6⟩
    · intro σ H' _
      exact q H'
end
end LW

-- LawG2
set_option Elab.async false
set_option linter.all false
set_option maxRecDepth 100000
set_option maxHeartbeats 4100000
/-! ### a law with a head and a foot: something ahead, for each of its purses a body, something behind -/
namespace LW
open L2 PyProof.Rows PySem PySem.Spec TS TL
section
variable {P : Program} {w : World} {K : PySem.W.Frag} {mg : Str → Option Value} {base : Heap} {C : Addr}
theorem law_ok2 {st : Stmt} {f : Addr} {fd : FuncData} {N : List Str} {k ip few c : Nat} {T0 T T2 : TSt} {keep : Gm} (F : Fun K "law" "law" st f fd) (sc : FnScope N ["_law_script"] (defScope st)) (hN : N.length = keep.length) (hip : ip < keep.length) (hfew : few ≤ 100) (hc : c ≤ 1000000000)
    (hv : ∀ (i : Nat) (r : Rv), keep[i]? = some (some r) → ∃ d, r = .val d ∧ npu d = true) (hkp : keep[ip]? = some none) (hk0 : keep[0]? = some none)
    (body : ∀ (cdv : Value) (A : Around) (outer : List Env) (s : Shared) (H : Hp) (E : XK), Room k (A.deeper (envOfC "law" (defScope st) s.heap.objs.size f cdv)) →
      ∃ (E' : XK) (t0 tb t2 : TS), PSs (cxOf CX0 P w K mg base N "law" (defScope st) f cdv A outer s H E).nox (defBody st) (tSeq t0 (tSeq (tFor (iList K (tCall (spPurses K) [] E' (tCons (tVar 0) (tCons (tC (.int few)) tNil)))) (gName ip) tb) t2)) ∧ RSx C 0 t0 T0 ∧ RS C tb T ∧ RS C t2 T2)
    (pre : ∀ (E : TEn) (n : Nat), 1000000000 ≤ n → (∀ Γ q, Γ.length = keep.length → Keeps keep Γ → E.nx Γ q) → T0 E (List.replicate keep.length none) n)
    (tree : ∀ (E : TEn) (n : Nat), c ≤ n → (∀ Γ q, Kept keep Γ → n ≤ q + c → E.nx Γ q) → T E (keep.set ip (some (.bor .purse))) n)
    (post : ∀ (E : TEn) (n : Nat), 1000000000 ≤ n → (∀ q, E.rt (.val (.bl true)) q) → T2 E keep n) : FnOk P w K mg base CX0 (k + 1) f fd ["_law_script"] (spLaw K) := by
  refine F.ok sc (fun vs H Q E h => ?_) (fun cdv A outer s H vs Q E hr h => ?_)
  · obtain ⟨a, zs, rfl, _⟩ := h
    rfl
  · obtain ⟨a, zs, rfl, hS, hlen, q⟩ := h
    obtain ⟨E', t0, tb, t2, h1, h2, h3, h4⟩ := body cdv A outer s H E hr
    refine ⟨_, h1, ?_⟩
    have l0 : (L2.start N [V.ref a]).length = keep.length := by
      unfold L2.start
      simp only [List.length_append, List.length_map, List.length_replicate, List.length_cons, List.length_nil]
      omega
    have blank : ∀ (m i : Nat) (r : Rv), (List.replicate m (none : Option Rv))[i]? ≠ some (some r) := fun m i r h => by
      rw [List.getElem?_replicate] at h
      split at h <;> cases h
    have M0 : Mt C (Zx.at none (fun _ => False) H (fun _ h => h.elim) (fun _ h => nomatch h)) [] (List.replicate keep.length none) (L2.start N [V.ref a]) H 1000000000 :=
      ⟨by rw [l0, List.length_replicate], .refl, trivial, fun i r hi => absurd hi (blank _ i r), fun g hg => (nomatch hg), fun i j b h => absurd h.1.choose_spec (blank _ i _)⟩
    refine h2 (.ref a) _ [] _ _ H _ { nx := fun Γ _ => Γ.length = keep.length ∧ Keeps keep Γ, rt := fun _ _ => False } _ M0 (by unfold L2.start; rfl) ⟨fun Γ1 σ1 H1 q1 M1 s0 hk1 => ?_, fun _ _ _ _ _ _ _ _ h => h.elim, fun _ _ _ _ _ _ h => h.elim, fun _ _ _ _ _ _ h => h.elim⟩ (pre _ _ Nat.le.refl fun Γ q l h => ⟨l, h⟩)
    obtain ⟨lΓ1, hk1⟩ := hk1
    have s01 : Same H H1 := fun b o e => M1.fr b o (by simp [Zx.at]) e
    refine ⟨.ref a, s0, a, zs, few, rfl, s01.seq hS, hlen, hfew, fun H0 L ps s1 nL hL few0 purses fresh => ?_⟩
    refine ⟨L, rfl, ⟨_, SqL.of hL⟩, ?_⟩
    have lσ1 : σ1.length = keep.length := by rw [M1.len, lΓ1]
    have nn : ∀ (i : Nat) (d : D), (keep.set ip (some (.bor .purse)))[i]? ≠ some (some (.new d)) := fun i d h => by
      rcases get_set h with ⟨_, e⟩ | ⟨_, e⟩
      · cases e
      · obtain ⟨d', e', _⟩ := hv i _ e
        cases e'
    have nk : ∀ (i : Nat) (d : D), keep[i]? ≠ some (some (.new d)) := fun i d h => by
      obtain ⟨d', e', _⟩ := hv i _ h
      cases e'
    have first : ∀ (j : Nat) (d : D), keep[j]? = some (some (.val d)) → ∃ v, σ1[j]? = some (some v) ∧ Rep none C (fun b => b ∈ ps) H0 d v := fun j d hj => by
      obtain ⟨d', e', np⟩ := hv j _ hj
      injection e' with e'
      subst e'
      have base_ : ∃ v, σ1[j]? = some (some v) ∧ Rep none C (fun _ => False) H1 d v := by
        rcases hk1 j d hj with h | h
        · obtain ⟨v, hv, r⟩ := M1.sl j _ h
          exact ⟨v, hv, Rep.mono (fun c o _ h => ⟨fun z => z, h⟩) r⟩
        · obtain ⟨v, hv, b, e, _, r⟩ := M1.sl j _ h
          subst e
          exact ⟨_, hv, RepO.rep (fun z => z) (RepO.mono (fun c o _ h => ⟨fun z => z, h⟩) (fun _ h => h) r)⟩
      obtain ⟨v, hv, r⟩ := base_
      exact ⟨v, hv, r.mono fun c o _ h => ⟨(fun z => by rw [fresh c z] at h; cases h), s1 c o h⟩⟩
    refine for_list (K := K) (xs := ps.map V.ref) (fun i σ H' => σ.length = keep.length ∧ H' L = some (.lst (ps.map V.ref)) ∧ (∀ x ∈ ps, PurseAt H' x (((c * i : Nat) : Nat) : Int)) ∧ ∀ (j : Nat) (d : D), keep[j]? = some (some (.val d)) → ∃ v, σ[j]? = some (some v) ∧ Rep none C (fun b => b ∈ ps) H' d v) ?_ ?_ ?_ ?_
    · exact ⟨lσ1, hL, fun x hx => (purses x hx).le (by omega), first⟩
    · rintro i σ H' _ ⟨_, h, _⟩
      exact SqL.of h
    · rintro i v σ H hv' ⟨lσ, hL, purses, vals⟩
      rw [List.getElem?_map] at hv'
      obtain ⟨p, hp, rfl⟩ := Option.map_eq_some_iff.1 hv'
      have lti := (List.getElem?_eq_some_iff.1 hp).1
      have pin := List.mem_of_getElem? hp
      have hP := purses p pin
      have nLp : p ≠ L := by
        cases ps with
        | nil => simp at hp
        | cons y r => exact hP.neRefs hL
      have hi : c * i ≤ 100000000000 := Nat.le_trans (Nat.mul_le_mul hc (by omega : i ≤ 100)) (by decide)
      have dom : ∀ b, b ∈ ps → ∃ o, H b = some o := fun b hb => by
        obtain ⟨_, _, _, _, z, _⟩ := purses b hb
        exact ⟨_, z⟩
      have pw : ∀ b, some p = some b → b ∈ ps := fun b e => by
        obtain rfl := Option.some.inj e
        exact pin
      have fuel : c * i + c ≤ 2 ^ 40 := by omega
      generalize hn : 2 ^ 40 - c * i = n at fuel
      have M : Mt C (Zx.at (some p) (fun b => b ∈ ps) H dom pw) [] (keep.set ip (some (.bor .purse))) (σ.set ip (some (.ref p))) H n := by
        refine ⟨by rw [List.length_set, List.length_set, lσ], .refl, ⟨_, hP, by omega⟩, fun j r hj => ?_, fun g hg => (nomatch hg), fun j j' b h => absurd h.1.choose_spec (nn j _)⟩
        rcases get_set hj with ⟨rfl, er⟩ | ⟨ne, e⟩
        · obtain rfl := Option.some.inj er
          exact ⟨.ref p, by rw [List.getElem?_set_self (by omega)], .inl ⟨p, rfl, rfl⟩⟩
        · obtain ⟨d, rfl, np⟩ := hv j r e
          obtain ⟨v, h1, h2⟩ := vals j d e
          refine ⟨v, by rw [List.getElem?_set_ne ne]; exact h1, Rep.any (fun c o nc h => ⟨fun z => ?_, h⟩) np h2⟩
          rcases z with z | ⟨j', ⟨d', hd'⟩, _⟩
          · exact nc z
          · exact nn j' d' hd'
      refine h3 _ [] _ _ H n { nx := fun Γ q => Kept keep Γ ∧ n ≤ q + c, rt := fun _ _ => False } _ M ⟨fun Γ σ' H' q M' ⟨hΓ, hq⟩ => ?_, fun _ _ _ _ _ _ _ _ h => h.elim, fun _ _ _ _ _ h => h.elim, fun _ _ _ _ _ h => h.elim⟩ (tree _ n (by omega) fun Γ q l h => ⟨l, h⟩)
      have fr : Bt (some p) H H' := M'.fr
      refine ⟨by rw [M'.len, hΓ.1], fr L _ (fun e => nLp (Option.some.inj e)) hL, fun x hx => ?_, fun j d hj => ?_⟩
      · have e : c * (i + 1) = c * i + c := Nat.mul_succ c i
        by_cases z : x = p
        · subst z
          obtain ⟨b, hb, hbq⟩ := M'.pa
          exact hb.le (by omega)
        · obtain ⟨p0, p1, p2, p3, h, r1, r2, r3, r4, r5, r6⟩ := purses x hx
          exact ⟨p0, p1, p2, p3, fr x _ (fun e => z (Option.some.inj e).symm) h, r1, r2, r3, by omega, r5, r6⟩
      · obtain ⟨v, h1, h2⟩ := M'.sl j _ (hΓ.2 j d hj)
        obtain ⟨d', e', np⟩ := hv j _ hj
        injection e' with e'
        subst e'
        exact ⟨v, h1, Rep.any (p := some p) (fun c o nc h => ⟨fun z => nc (.inl z), h⟩) np h2⟩
    · rintro σ H' ⟨lσ, hL, purses, vals⟩
      have M2 : Mt C (Zx.at none (fun _ => False) H' (fun _ h => h.elim) (fun _ h => nomatch h)) [] keep σ H' 1000000000 := by
        refine ⟨lσ, .refl, trivial, fun j r hj => ?_, fun g hg => (nomatch hg), fun i j b h => absurd h.1.choose_spec (nk i _)⟩
        obtain ⟨d, rfl, np⟩ := hv j r hj
        obtain ⟨v, h1, h2⟩ := vals j d hj
        refine ⟨v, h1, h2.mono fun c o nc h => ⟨fun z => ?_, h⟩⟩
        rcases z with z | ⟨j', ⟨d', hd'⟩, _⟩
        · exact z
        · exact nk j' d' hd'
      exact h4 _ [] _ _ H' _ { nx := fun _ _ => False, rt := fun r _ => r = .val (.bl true) } _ M2 ⟨fun _ _ _ _ _ h => h.elim, fun v H2 r n _ _ _ x e => by subst e; rw [show v = .bl true from x]; exact q H2, fun _ _ _ _ _ h => h.elim, fun _ _ _ _ _ h => h.elim⟩ (post _ _ Nat.le.refl fun _ => rfl)
end
end LW

-- DL
set_option Elab.async false
set_option linter.all false
set_option maxRecDepth 100000
set_option maxHeartbeats 4100000
namespace LW
open L2 PyProof.Rows PySem PySem.Spec TS TL TMin RZ
section
variable {P : Program} {w : World} {K : PySem.W.Frag} {mg : Str → Option Value} {base : Heap} {C : Addr}
abbrev st_law : Stmt := top 71
abbrev nn_law : List Str := ["_law_script", "_law_purse_here", "_law_world_here"]
theorem sc_law : FnScope nn_law ["_law_script"] (defScope st_law) := ⟨rfl, rfl, rfl, by decide +kernel, rfl, by decide +kernel, by decide +kernel⟩
theorem law_fin {f : Addr} {fd : FuncData} {S2 S3 S4 S5 : ST} (M : Nm mg) (F : Fun K "law" "law" st_law f fd) (h1 : ∃ f fd, FnOk P w K mg base CX0 2 f fd ["_law_script", "_law_few"] (spPurses K) ∧ mg "_law_purses" = some (.ref f) ∧ PySem.W.keepIn K (.ref f) = true ∧ Binds K fd ["_law_script", "_law_few"] []) (h2 : Has P w K mg base C 7 "_law_world" ["_law_purse_here", "_law_many"] [true, false] S2) (h3 : Has P w K mg base C 3 "_law_sized" ["_law_purse_here"] [true] S3) (h4 : Has P w K mg base C 10 "_law_stays_right" ["_law_purse_here", "_law_world_here"] [true, true] S4) (h5 : Has P w K mg base C 10 "_law_all_outs" ["_law_world_here"] [true] S5)
    (tree : ∀ (E : TEn) (n : Nat), 5000000 ≤ n → (∀ Γ q, Γ.length = 1 + 2 → n ≤ q + 5000000 → E.nx Γ q) → B_lawin S2 S3 S4 S5 E (lawG 1) n) : FnOk P w K mg base CX0 11 f fd ["_law_script"] (spLaw K) := by
  obtain ⟨f1, fd1, F1, m1, k1, b1⟩ := h1
  obtain ⟨f2, fd2, F2, m2, k2, b2⟩ := h2
  obtain ⟨f3, fd3, F3, m3, k3, b3⟩ := h3
  obtain ⟨f4, fd4, F4, m4, k4, b4⟩ := h4
  obtain ⟨f5, fd5, F5, m5, k5, b5⟩ := h5
  refine law_ok (C := C) (few := 2) (c := 5000000) F sc_law rfl (by decide) (by decide) (fun cdv A outer s H E hr => ?_) tree
  have hu := units62 hr
  exact ⟨_, _, pss_cons (ps_for PassesOwn.never rfl (pi_list (pe_call F1 (hr.mono (by first | decide | omega)) rfl m1 k1 b1 .nil pass0 (pa_cons (pv 0) (pa_cons pe_int pa_nil)))) (pg_name (i := 1) sc_law.nd rfl (Or.inl rfl)) (pss_cons (ps_set (i := 2) sc_law.nd rfl (Or.inl rfl) (pe_call F2 (hr.mono (by first | decide | omega)) rfl m2 k2 b2 .nil pass0 (pa_cons (pv 1) (pa_cons (pe_call F3 (hr.mono (by first | decide | omega)) rfl m3 k3 b3 .nil pass0 (pa_cons (pv 1) pa_nil)) pa_nil)))) (pss_one (ps_if (PW.pt (pw_or (pt_not (pt_val (pe_call F4 (hr.mono (by first | decide | omega)) rfl m4 k4 b4 .nil pass0 (pa_cons (pv 1) (pa_cons (pv 2) pa_nil))))) (pw_or1 (pt_not (pt_val (pe_call F5 (hr.mono (by first | decide | omega)) rfl m5 k5 b5 .nil pass0 (pa_cons (pv 2) pa_nil))))))) (pss_one (ps_ret pe_bl)) pss_nil)))) (pss_one (ps_ret pe_bl)), (rs_sq (rs_set fun Z => (re_call (ra_cons re_v (ra_cons (re_call (ra_cons re_v ra_nil)) ra_nil)))) (rs_if (fun Z => (rt_or (rt_not (rt_v (re_call (ra_cons re_v (ra_cons re_v ra_nil))))) (rt_not (rt_v (re_call (ra_cons re_v ra_nil)))))) (rs_ret fun Z => re_bl) rs_nx))⟩
end
end LW

-- T1
set_option Elab.async false
set_option linter.all false
set_option maxRecDepth 100000
set_option maxHeartbeats 4100000
/-! T1: draws of many kinds -/
namespace TL
open L2 PyProof.Rows PySem PySem.Spec TS RZ
def S_one_of : ST := fun ds n R => ∃ xs : List D, ds = [.purse, .lst xs] ∧ xs ≠ [] ∧ xs.length < 1000000 ∧ 1 ≤ n ∧ ∀ x ∈ xs, R (.val x) (n - 1)
theorem tree_w_one_of : ∀ ds n R, S_one_of ds n R → B_w_one_of S_draw (ends R) (slots [true, true] ds 0) n := by
  rintro _ n R ⟨xs, rfl, ne, few, h1, h⟩
  have pos : 0 < xs.length := List.length_pos_iff.2 ne
  refine ⟨rfl, xs.length, rfl, pos, by omega, h1, fun r hr => ?_⟩
  refine ⟨xs[r], atI_nat (List.getElem?_eq_getElem hr), rfl, dn_of (h _ (List.getElem_mem hr))⟩
def S_shuffled : ST := fun ds n R => ∃ xs : List D, ds = [.purse, .lst xs] ∧ xs.length ≤ 100000 ∧ xs.length ≤ n ∧ ∀ ys : List D, ys.Perm xs → R (.new (.lst ys)) (n - xs.length)
theorem ins_perm {α : Type} (zs : List α) (z : α) (r : Nat) : (zs.take r ++ [z] ++ zs.drop r).Perm (zs ++ [z]) := by
  rw [List.append_assoc]
  refine (List.perm_middle.trans (List.Perm.cons z ?_)).trans (List.perm_append_singleton z zs).symm
  change (zs.take r ++ zs.drop r).Perm zs
  rw [List.take_append_drop]
theorem tree_w_shuffled : ∀ ds n R, S_shuffled ds n R → B_w_shuffled S_draw (ends R) (slots [true, true] ds 2) n := by
  rintro _ n R ⟨xs, rfl, few, hn, h⟩
  refine ⟨rfl, by decide, Nat.le_refl 1, ?_⟩
  refine forF_inv (j := 0) (fun i Γ k => ∃ (ys : List D) (o : Option Rv), Γ = [some (.bor .purse), some (.bor (.lst xs)), some (.new (.lst ys)), o] ∧ ys.Perm (xs.take i) ∧ k + i = n) ⟨[], none, rfl, .nil, rfl⟩ ?_ ?_
  · rintro i d Γ k hd ⟨ys, o, rfl, pm, hk⟩
    rw [Nat.zero_add] at pm hk
    have lt := (List.getElem?_eq_some_iff.1 hd).1
    have len : ys.length = i := by rw [pm.length_eq, List.length_take]; omega
    refine ⟨_, rfl, fun kk hkk => ?_⟩
    refine ⟨rfl, ys.length + 1, rfl, by omega, by omega, by omega, fun r hr => ?_⟩
    refine ⟨rfl, by omega, by omega, by omega, hkk _ _ ⟨ys.take r ++ [d] ++ ys.drop r, some (.val d), rfl, ?_, by omega⟩⟩
    rw [Nat.zero_add, List.take_succ, hd]
    exact (ins_perm ys d r).trans (pm.append (.refl _))
  · rintro Γ k ⟨ys, o, rfl, pm, hk⟩
    rw [Nat.zero_add, List.take_length] at pm
    have := h ys pm
    exact ⟨_, by omega, this⟩
end TL

-- T2
set_option Elab.async false
set_option linter.all false
set_option maxRecDepth 100000
set_option maxHeartbeats 4100000
/-! T2: the same data -/
namespace TL
open L2 PyProof.Rows PySem PySem.Spec TS RZ
def scal : D → Bool
  | .non => true
  | .bl _ => true
  | .int _ => true
  | .str _ => true
  | _ => false
/-- data, at most so deep -/
def xd : Nat → D → Prop
  | 0, d => scal d = true
  | k + 1, .lst ds => ds.length ≤ 100000 ∧ ∀ d ∈ ds, xd k d
  | k + 1, .tup ds => ds.length ≤ 100000 ∧ ∀ d ∈ ds, xd k d
  | _ + 1, d => scal d = true
def S_exact (k : Nat) : ST := fun ds n R => ∃ d, ds = [d, d] ∧ xd k d ∧ R (.val (.bl true)) n
theorem kb (a b : String) (h : (match kitB a b with | some false => true | _ => false) = true) : kitB a b = some false := by
  revert h
  cases kitB a b with
  | none => intro h; cases h
  | some c => cases c <;> intro h <;> first | rfl | cases h
theorem kbT (a b : String) (h : (match kitB a b with | some true => true | _ => false) = true) : kitB a b = some true := by
  revert h
  cases kitB a b with
  | none => intro h; cases h
  | some c => cases c <;> intro h <;> first | rfl | cases h
theorem exact_scal {S1 : ST} {d : D} (h : scal d = true) {n : Nat} {R : Rv → Nat → Prop} (q : R (.val (.bl true)) n) : B_w_exact S1 (ends R) (slots [true, true] [d, d] 4) n := by
  have fin : dn R (.val (.bl true)) n := dn_of q
  cases d with
  | non =>
    refine ⟨false, false, kb _ _ (by decide +kernel), kb _ _ (by decide +kernel), false, kb _ _ (by decide +kernel), ?_⟩
    refine ⟨false, kb _ _ (by decide +kernel), false, kb _ _ (by decide +kernel), rfl, rfl, Nat.zero_le _, rfl, rfl, Nat.zero_le _, rfl, fin⟩
  | bl b =>
    refine ⟨false, false, kb _ _ (by decide +kernel), kb _ _ (by decide +kernel), false, kb _ _ (by decide +kernel), ?_⟩
    refine ⟨true, kbT _ _ (by decide +kernel), true, kbT _ _ (by decide +kernel), rfl, rfl, Nat.zero_le _, rfl, rfl, Nat.zero_le _, rfl, ?_⟩
    cases b <;> exact fin
  | int i =>
    refine ⟨false, false, kb _ _ (by decide +kernel), kb _ _ (by decide +kernel), false, kb _ _ (by decide +kernel), ?_⟩
    refine ⟨false, kb _ _ (by decide +kernel), false, kb _ _ (by decide +kernel), rfl, rfl, Nat.zero_le _, rfl, ?_⟩
    rw [show decide (i = i) = true from decide_eq_true rfl]
    exact fin
  | str i =>
    refine ⟨false, false, kb _ _ (by decide +kernel), kb _ _ (by decide +kernel), false, kb _ _ (by decide +kernel), ?_⟩
    refine ⟨false, kb _ _ (by decide +kernel), false, kb _ _ (by decide +kernel), rfl, rfl, Nat.zero_le _, rfl, ?_⟩
    rw [show decide (i = i) = true from decide_eq_true rfl]
    exact fin
  | _ => cases h
theorem tree_w_exact0 {S1 : ST} : ∀ ds n R, S_exact 0 ds n R → B_w_exact S1 (ends R) (slots [true, true] ds 4) n := by
  rintro _ n R ⟨d, rfl, h, q⟩
  exact exact_scal h q
end TL
namespace TL
open L2 PyProof.Rows PySem PySem.Spec TS RZ
theorem lc_exact {k : Nat} {a b c e : Option Rv} : ∀ (ds : List D) (acc : List D) (n : Nat) (q : List D → Nat → Prop), (∀ d ∈ ds, xd k d) → q (acc ++ List.replicate ds.length (D.bl true)) n →
    lcF (.tp [3, 4]) tlYes (tlCall [true, true] (S_exact k) (tlCons (tlV 3) (tlCons (tlV 4) tlNil))) [a, b, c, none, none, e] (zipD ds ds) acc n q
  | [], acc, n, q, _, h => by
    rw [List.length_nil, List.replicate_zero, List.append_nil] at h
    exact h
  | d :: r, acc, n, q, hx, h => by
    refine ⟨rfl, d, rfl, hx d List.mem_cons_self, rfl, ?_⟩
    refine lc_exact r _ n q (fun x hx' => hx x (List.mem_cons_of_mem _ hx')) ?_
    rw [List.append_assoc]
    exact h
theorem exact_seq {k : Nat} {ds : List D} (few : ds.length ≤ 100000) (hx : ∀ d ∈ ds, xd k d) {n : Nat} {R : Rv → Nat → Prop} (q : R (.val (.bl true)) n) :
    B_w_exact (S_exact k) (ends R) (slots [true, true] [.lst ds, .lst ds] 4) n ∧ B_w_exact (S_exact k) (ends R) (slots [true, true] [.tup ds, .tup ds] 4) n := by
  have fin : dn R (.val (.bl ((List.replicate ds.length true).all id))) n := by
    rw [show (List.replicate ds.length true).all id = true by simp]
    exact dn_of q
  have len : ds.length ≤ 1000000 := by omega
  have zl : (zipD ds ds).length ≤ 1000000 := by simp [zipD]; omega
  have dd : decide ((ds.length : Int) = (ds.length : Int)) = true := decide_eq_true rfl
  have T := kbT
  constructor
  · refine ⟨true, false, kbT _ _ (by decide +kernel), kb _ _ (by decide +kernel), ?_⟩
    refine ⟨true, kbT _ _ (by decide +kernel), true, kbT _ _ (by decide +kernel), rfl, rfl, Nat.zero_le _, false, kb _ _ (by decide +kernel), false, kb _ _ (by decide +kernel), rfl, rfl, Nat.zero_le _, ?_⟩
    show (if decide ((ds.length : Int) = (ds.length : Int)) = true then _ else _)
    rw [dd]
    refine iteT ⟨zl, ?_⟩
    exact lc_exact ds [] n _ hx ⟨List.replicate ds.length true, by simp, rfl, fin⟩
  · refine ⟨false, true, kb _ _ (by decide +kernel), kbT _ _ (by decide +kernel), ?_⟩
    refine ⟨false, kb _ _ (by decide +kernel), false, kb _ _ (by decide +kernel), rfl, rfl, Nat.zero_le _, true, kbT _ _ (by decide +kernel), true, kbT _ _ (by decide +kernel), rfl, rfl, Nat.zero_le _, ?_⟩
    show (if decide ((ds.length : Int) = (ds.length : Int)) = true then _ else _)
    rw [dd]
    refine iteT ⟨zl, ?_⟩
    exact lc_exact ds [] n _ hx ⟨List.replicate ds.length true, by simp, rfl, fin⟩
theorem tree_w_exactS {k : Nat} : ∀ ds n R, S_exact (k + 1) ds n R → B_w_exact (S_exact k) (ends R) (slots [true, true] ds 4) n := by
  rintro _ n R ⟨d, rfl, h, q⟩
  cases d with
  | lst ds => exact (exact_seq h.1 h.2 q).1
  | tup ds => exact (exact_seq h.1 h.2 q).2
  | _ => exact exact_scal h q
end TL

-- T3
set_option Elab.async false
set_option linter.all false
set_option maxRecDepth 100000
set_option maxHeartbeats 4100000
/-! T3: words, catalogues -/
namespace TL
open L2 PyProof.Rows PySem PySem.Spec TS RZ
theorem cps_app (a b : Str) : (a ++ b).cps.toList = a.cps.toList ++ b.cps.toList := by
  change (a.cps ++ b.cps).toList = _
  simp
theorem str_app_len (a b : Str) : (a ++ b).length = a.length + b.length := by
  change (a.cps ++ b.cps).size = _
  simp [Str.length]
theorem sIx_n {n d i : Nat} (h : i ≤ n) : HT.sIx n d (some ((i : Nat) : Int)) = i := (HT.sIx_nat n d i).trans (Nat.min_eq_left h)
theorem cut_len (z : Str) (lo hi : Option Int) : (cutS z lo hi).length ≤ z.length := by
  have n : z.cps.toList.length = z.length := by simp [Str.length]
  change (cutS z lo hi).cps.size ≤ _
  unfold cutS
  rw [← Array.length_toList]
  simp only [List.length_take, List.length_drop, n]
  omega
/-- a letter put in the place of one -/
theorem swap_word {z : Str} {r c : Nat} (hz : isWord z) (hr : r < z.length) (hc : 97 ≤ c ∧ c ≤ 122) :
    isWord (cutS z none (some ((r : Nat) : Int)) ++ (⟨#[c]⟩ : Str) ++ cutS z (some (((r : Nat) : Int) + 1)) none) := by
  have n : z.cps.toList.length = z.length := by simp [Str.length]
  have e : (cutS z none (some ((r : Nat) : Int)) ++ (⟨#[c]⟩ : Str) ++ cutS z (some (((r : Nat) : Int) + 1)) none).cps.toList = z.cps.toList.take r ++ [c] ++ z.cps.toList.drop (r + 1) := by
    rw [cps_app, cps_app]
    have i1 : HT.sIx z.length z.length (some ((r : Nat) : Int)) = r := sIx_n (by omega)
    have i2 : HT.sIx z.length 0 (some (((r : Nat) : Int) + 1)) = r + 1 := sIx_n (i := r + 1) (by omega)
    have h1 : (cutS z none (some ((r : Nat) : Int))).cps.toList = z.cps.toList.take r := by
      unfold cutS
      rw [i1]
      simp [HT.sIx]
    have h2 : (cutS z (some (((r : Nat) : Int) + 1)) none).cps.toList = z.cps.toList.drop (r + 1) := by
      unfold cutS
      rw [i2]
      have : HT.sIx z.length z.length none = z.length := rfl
      rw [this]
      simp only []
      rw [List.take_of_length_le (by rw [List.length_drop, n]; exact Nat.le.refl)]
    rw [h1, h2]
  have size : (cutS z none (some ((r : Nat) : Int)) ++ (⟨#[c]⟩ : Str) ++ cutS z (some (((r : Nat) : Int) + 1)) none).length = z.length := by
    change (_ : Str).cps.size = _
    rw [← Array.length_toList, e]
    simp only [List.length_append, List.length_take, List.length_drop, List.length_singleton, n]
    omega
  refine ⟨by rw [size]; exact hz.1, by rw [size]; exact hz.2.1, fun d hd => ?_⟩
  rw [e] at hd
  rcases List.mem_append.1 hd with hd | hd
  · rcases List.mem_append.1 hd with hd | hd
    · exact hz.2.2 d (List.mem_of_mem_take hd)
    · rw [List.mem_singleton.1 hd]
      exact hc
  · exact hz.2.2 d (List.mem_of_mem_drop hd)
theorem nodup_le : ∀ (ys xs : List Str), ys.Nodup → (∀ y ∈ ys, y ∈ xs) → ys.length ≤ xs.length
  | [], xs, _, _ => Nat.zero_le _
  | y :: r, xs, nd, sub => by
    rw [List.nodup_cons] at nd
    have hy : y ∈ xs := sub y List.mem_cons_self
    have ih := nodup_le r (xs.erase y) nd.2 fun z hz => (List.mem_erase_of_ne fun (q : z = y) => nd.1 (q ▸ hz)).2 (sub z (List.mem_cons_of_mem _ hz))
    rw [List.length_erase_of_mem hy] at ih
    have := List.length_pos_of_mem hy
    rw [List.length_cons]
    omega
abbrev abc : Str := "abcdefghijklmnopqrstuvwxyz"
theorem abc_list : abc.cps.toList = (List.range 26).map fun k => 97 + k := by decide +kernel
theorem abc_signs : (signs abc).length = 26 ∧ (signs abc).Nodup ∧ ∀ y ∈ signs abc, isWord y := by
  have e : signs abc = (List.range 26).map fun k => (⟨#[97 + k]⟩ : Str) := by
    unfold signs
    rw [abc_list, List.map_map]
    rfl
  refine ⟨by rw [e]; rfl, by rw [e]; decide +kernel, fun y hy => ?_⟩
  rw [e] at hy
  obtain ⟨k, hk, rfl⟩ := List.mem_map.1 hy
  have := List.mem_range.1 hk
  refine ⟨Nat.le.refl, (show 1 ≤ 8 by decide), fun c hc => ?_⟩
  have : c = 97 + k := by simpa using hc
  omega
/-- some letter is not among few words -/
theorem abc_left {zs : List Str} (few : zs.length < 26) : ((signs abc).filter fun y => decide (y ∉ zs)) ≠ [] := by
  intro e
  obtain ⟨n, nd, _⟩ := abc_signs
  have sub : ∀ y ∈ signs abc, y ∈ zs := fun y hy => by
    have := List.filter_eq_nil_iff.1 e y hy
    simpa using this
  have := nodup_le (signs abc) zs nd sub
  omega
/-! ### texts within lists -/
theorem plns_str : ∀ zs : List Str, plns (zs.map D.str) = true
  | [] => rfl
  | _ :: r => by simp [plns_str r]
theorem deps_str : ∀ zs : List Str, deps (zs.map D.str) = 0
  | [] => rfl
  | z :: r => by
    have := deps_str r
    simp [this]
theorem any_str (y : Str) : ∀ zs : List Str, ((zs.map D.str).any fun z => PyData.eqv (toP z) (toP (.str y))) = decide (y ∈ zs)
  | [] => by simp
  | z :: r => by
    rw [List.map_cons, List.any_cons, any_str y r]
    have : PyData.eqv (toP (.str z)) (toP (.str y)) = decide (z = y) := by
      by_cases h : z = y <;> simp [PyData.eqv, h]
    rw [this]
    by_cases h : z = y
    · subst h
      simp
    · have h' : ¬ y = z := fun q => h q.symm
      simp [h, h']
theorem dep_ok (zs : List Str) {k : Nat} : min (deps (zs.map D.str)) k ≤ 60 := by
  rw [deps_str]
  exact Nat.le_trans (Nat.min_le_left _ _) (Nat.zero_le _)
theorem in_str {y : Str} {zs : List Str} {R : Rv → Prop} (h : R (.val (.bl (decide (y ∈ zs))))) : dInA (.str y) (.lst (zs.map D.str)) R := by
  refine ⟨rfl, plns_str zs, by rw [deps_str]; exact Nat.le_trans (Nat.min_le_left _ _) (Nat.zero_le _), ?_⟩
  rw [any_str]
  exact h
theorem nin_str {y : Str} {zs : List Str} {R : Rv → Prop} (h : R (.val (.bl (decide (y ∉ zs))))) : dNin (.str y) (.lst (zs.map D.str)) R := by
  refine ⟨rfl, plns_str zs, by rw [deps_str]; exact Nat.le_trans (Nat.min_le_left _ _) (Nat.zero_le _), ?_⟩
  rw [any_str]
  by_cases q : y ∈ zs <;> simp [q] at h ⊢ <;> exact h
theorem in_tup {y : Str} {zs : List Str} {R : Rv → Prop} (h : R (.val (.bl (decide (y ∈ zs))))) : dInA (.str y) (.tup (zs.map D.str)) R := by
  refine ⟨rfl, plns_str zs, by rw [deps_str]; exact Nat.le_trans (Nat.min_le_left _ _) (Nat.zero_le _), ?_⟩
  rw [any_str]
  exact h
def S_words : ST := fun ds n R => ∃ m : Nat, ds = [.purse, .int m] ∧ m ≤ 20 ∧ 1000 ≤ n ∧ ∀ zs : List Str, zs.length = m → (∀ z ∈ zs, isWord z) → zs.Nodup → R (.new (dS zs)) (n - 1000)
theorem rng0_len (m : Nat) : ((rng 0 (m : Int)).map D.int).length = m := by simp [rng]
theorem words_last {E : TEn} {g0 g1 g2 g3 g4 o6 o8 : Option Rv} {zs : List Str} {x1 : Str} {k : Nat} (few : zs.length < 26) (w1 : isWord x1)
    (h : ∀ y, isWord y → y ∉ zs → E.nx [g0, g1, g2, g3, g4, some (.new (dS (zs ++ [y]))), o6, some (.val (.str y)), o8] k) :
    tlSq (tlIf (tlT (tlOp dInA (tlV 7) (tlV 5))) (tlSet 7 (tlOp dIx (tlLc (tlSeq (tlB dList (tlCons (tlC (.str "abcdefghijklmnopqrstuvwxyz")) tlNil))) (.nm 8) (tlT (tlOp dNin (tlV 8) (tlV 5))) (tlV 8) [8]) (tlC (.int 0)))) tlNx) (tlRel 7 (tlApp 5 (tlV 7)))
      E [g0, g1, g2, g3, g4, some (.new (dS zs)), o6, some (.val (.str x1)), o8] k := by
  have fin : ∀ y, isWord y → y ∉ zs → tlRel 7 (tlApp 5 (tlV 7)) E [g0, g1, g2, g3, g4, some (.new (dS zs)), o6, some (.val (.str y)), o8] k := fun y wy ny => by
    refine ⟨rfl, by rw [List.length_map]; omega, ?_⟩
    have := h y wy ny
    rw [dS, List.map_append] at this
    exact this
  refine ⟨rfl, plns_str zs, dep_ok zs, ?_⟩
  rw [any_str]
  by_cases q : x1 ∈ zs
  · rw [decide_eq_true q]
    refine iteT ⟨by decide, ?_, ?_⟩
    · show ((signs abc).map D.str).length ≤ _
      rw [List.length_map, abc_signs.1]
      decide
    · refine lcF_filter (f := fun y : Str => D.str y) (b := fun y => decide (y ∉ zs)) (fun y _ n R hR => ?_) (fun y _ _ n R hR => hR (.val (.str y)) rfl rfl) ?_
      · refine ⟨rfl, plns_str zs, dep_ok zs, ?_⟩
        rw [decide_not, ← any_str] at hR
        exact hR
      · rw [List.nil_append]
        have ne := abc_left few
        obtain ⟨y, r, ey⟩ : ∃ y r, ((signs abc).filter fun y => decide (y ∉ zs)) = y :: r := by
          cases e : (signs abc).filter fun y => decide (y ∉ zs) with
          | nil => exact absurd e ne
          | cons y r => exact ⟨y, r, rfl⟩
        have hy : y ∈ (signs abc).filter fun y => decide (y ∉ zs) := by rw [ey]; exact List.mem_cons_self
        rw [List.mem_filter] at hy
        refine ⟨.str y, by rw [ey]; exact atI_nat (j := 0) rfl, fin y (abc_signs.2.2 y hy.1) (by simpa using hy.2)⟩
  · rw [decide_eq_false q]
    exact iteF (fin x1 w1 q)
theorem tree_w_words : ∀ ds n R, S_words ds n R → B_w_words S_word S_draw (ends R) (slots [true, true] ds 7) n := by
  rintro _ n R ⟨m, rfl, hm, hn, h⟩
  refine ⟨rfl, rfl, by omega, fun z hz => ?_⟩
  refine ⟨rfl, 3, rfl, by omega, by omega, by omega, fun r1 hr1 => ?_⟩
  refine ⟨by have := hz.2.1; omega, rfl, z.length, rfl, hz.1, by have := hz.2.1; omega, by omega, fun r2 hr2 => ?_⟩
  refine ⟨rfl, Nat.zero_le _, ?_⟩
  refine ⟨by omega, by omega, by decide, ?_⟩
  refine forF_inv (j := 0) (fun i Γ k => ∃ (zs : List Str) (o6 o7 o8 : Option Rv), Γ = [some (.bor .purse), some (.bor (.int m)), some (.val (.str z)), some (.val (.bl (decide ((r1 : Int) = 0)))), some (.val (.int r2)), some (.new (dS zs)), o6, o7, o8] ∧
    zs.length = i ∧ (∀ z ∈ zs, isWord z) ∧ zs.Nodup ∧ n ≤ k + 22 + 30 * i) ⟨[], none, none, none, rfl, rfl, by simp, List.nodup_nil, by omega⟩ ?_ ?_
  · rintro i d Γ k hd ⟨zs, o6, o7, o8, rfl, hl, hw, nd, hk⟩
    have lt : i < m := by have := (List.getElem?_eq_some_iff.1 hd).1; rw [rng0_len] at this; exact this
    rw [Nat.zero_add] at hl hk
    generalize decide ((r1 : Int) = 0) = near
    refine ⟨_, rfl, fun kk hkk => ?_⟩
    have zl := hz.2.1
    have one : ∀ c : Nat, ((⟨#[c]⟩ : Str)).length = 1 := fun _ => rfl
    have cl := cut_len z
    refine ⟨rfl, by omega, rfl, 26, rfl, by omega, by omega, by omega, fun r3 hr3 => ?_⟩
    refine ⟨by decide, 97 + r3, by rw [abc_list]; exact atI_nat (by simp [hr3]), ?_⟩
    refine ⟨by rw [one]; have := cl none (some (r2 : Int)); omega, rfl, by omega, ?_⟩
    refine ⟨by rw [str_app_len, one]; have := cl none (some (r2 : Int)); have := cl (some ((r2 : Int) + 1)) none; omega, ?_⟩
    have w1 := swap_word hz hr2 (c := 97 + r3) ⟨by omega, by omega⟩
    generalize cutS z none (some ((r2 : Nat) : Int)) ++ (⟨#[97 + r3]⟩ : Str) ++ cutS z (some (((r2 : Nat) : Int) + 1)) none = x1 at w1 ⊢
    have more : ∀ (zs' : List Str) (y : Str), isWord y → y ∉ zs → zs' = zs ++ [y] → zs'.length = 0 + i + 1 ∧ (∀ z ∈ zs', isWord z) ∧ zs'.Nodup := fun zs' y wy ny e => by
      subst e
      refine ⟨by simp; omega, fun x hx => ?_, List.nodup_append.2 ⟨nd, by simp, fun a ha b hb => ?_⟩⟩
      · rcases List.mem_append.1 hx with hx | hx
        · exact hw x hx
        · rw [List.mem_singleton.1 hx]; exact wy
      · rw [List.mem_singleton.1 hb]
        exact fun q => ny (q ▸ ha)
    cases near with
    | true =>
      refine words_last (by omega) w1 fun y wy ny => hkk _ _ ⟨_, _, _, _, rfl, ?_⟩
      obtain ⟨m1, m2, m3⟩ := more _ y wy ny rfl
      exact ⟨m1, m2, m3, by omega⟩
    | false =>
      refine ⟨rfl, rfl, by omega, fun x2 w2 => ?_⟩
      refine words_last (by omega) w2 fun y wy ny => hkk _ _ ⟨_, _, _, _, rfl, ?_⟩
      obtain ⟨m1, m2, m3⟩ := more _ y wy ny rfl
      exact ⟨m1, m2, m3, by omega⟩
  · rintro Γ k ⟨zs, o6, o7, o8, rfl, hl, hw, nd, hk⟩
    rw [Nat.zero_add, rng0_len] at hl hk
    exact ⟨n - 1000, by omega, h zs hl hw nd⟩
end TL

-- T4
set_option Elab.async false
set_option linter.all false
set_option maxRecDepth 100000
set_option maxHeartbeats 4100000
/-! T4: catalogues; sizes of parts -/
namespace TL
open L2 PyProof.Rows PySem PySem.Spec TS RZ
def S_cat : ST := fun ds n R => ∃ m : Nat, ds = [.purse, .int m] ∧ 1 ≤ m ∧ m ≤ 20 ∧ 2000 ≤ n ∧ ∀ xs : List Str, Cat xs → xs.length = m → R (.new (dS xs)) (n - 2000)
theorem perm_str {ds : List D} {zs : List Str} (h : ds.Perm (zs.map D.str)) : ∃ ys : List Str, ds = ys.map D.str ∧ ys.Perm zs := by
  generalize e : zs.map D.str = es at h
  induction h generalizing zs with
  | nil => exact ⟨[], rfl, by rw [List.map_eq_nil_iff.1 e]⟩
  | cons x _ ih =>
    cases zs with
    | nil => cases e
    | cons z r =>
      injection e with e1 e2
      obtain ⟨ys, rfl, p⟩ := ih e2
      exact ⟨z :: ys, by rw [← e1]; rfl, p.cons z⟩
  | swap x y l =>
    cases zs with
    | nil => cases e
    | cons z r =>
      cases r with
      | nil => cases e
      | cons z2 r =>
        injection e with e1 e2
        injection e2 with e2 e3
        exact ⟨z2 :: z :: r, by rw [← e1, ← e2, ← e3]; rfl, .swap _ _ _⟩
  | trans _ _ ih1 ih2 =>
    obtain ⟨ys, rfl, p⟩ := ih2 e
    obtain ⟨us, rfl, q⟩ := ih1 rfl
    exact ⟨us, rfl, q.trans p⟩
theorem Cat.perm {xs ys : List Str} (h : Cat xs) (p : ys.Perm xs) : Cat ys :=
  ⟨fun e => h.1 (List.Perm.nil_eq (e ▸ p)).symm, by rw [p.length_eq]; exact h.2.1, fun y hy => h.2.2.1 y (p.mem_iff.1 hy), p.nodup_iff.2 h.2.2.2⟩
theorem tree_w_catalogue : ∀ ds n R, S_cat ds n R → B_w_catalogue S_words S_draw S_shuffled (ends R) (slots [true, true] ds 1) n := by
  rintro _ n R ⟨m, rfl, h1, hm, hn, h⟩
  refine ⟨rfl, m, rfl, hm, by omega, fun zs hl hw nd => ?_⟩
  have cat : Cat zs := ⟨fun e => by rw [e] at hl; simp at hl; omega, by omega, hw, nd⟩
  refine ⟨rfl, 2, rfl, by omega, by omega, by omega, fun r hr => ?_⟩
  show (if decide ((r : Int) = 0) = true then _ else _)
  cases decide ((r : Int) = 0) with
  | true =>
    refine .inl ⟨zs, rfl, by omega, fun ys pm _ => ⟨rfl, n - 2000, by omega, h ys (cat.perm pm) (by rw [pm.length_eq, hl])⟩⟩
  | false =>
    refine ⟨rfl, zs.map D.str, rfl, by rw [List.length_map]; omega, by rw [List.length_map]; omega, fun ys pm => ?_⟩
    obtain ⟨us, rfl, p⟩ := perm_str pm
    exact ⟨rfl, n - 2000, by rw [List.length_map]; omega, h us (cat.perm p) (by rw [p.length_eq, hl])⟩
/-! ### numbers -/
@[reducible] def eN (x : Nat) : D := .int x
@[reducible] def dN (xs : List Nat) : D := .lst (xs.map eN)
def S_sizes : ST := fun ds n R => ∃ s m : Nat, ds = [.purse, .int s, .int m] ∧ 1 ≤ m ∧ m ≤ s ∧ s ≤ 20 ∧ 100 ≤ n ∧ ∀ xs : List Nat, xs.length = m → (∀ x ∈ xs, 1 ≤ x) → xs.sum = s → R (.new (dN xs)) (n - 100)
theorem ixN_n {n j : Nat} (h : j < n) : ixN n (j : Int) = some j := by
  unfold ixN
  rw [if_pos (Int.natCast_nonneg _), if_pos (by omega)]
  rfl
theorem sum_set : ∀ {xs : List Nat} {i x : Nat}, xs[i]? = some x → (xs.set i (x + 1)).sum = xs.sum + 1
  | [], _, _, h => by simp at h
  | y :: r, 0, x, h => by
    obtain rfl := Option.some.inj h
    simp only [List.set_cons_zero, List.sum_cons]
    omega
  | y :: r, i + 1, x, h => by
    have := sum_set (xs := r) (i := i) (by simpa using h)
    simp only [List.set_cons_succ, List.sum_cons, this]
    omega
theorem one_mul_len (m : Nat) : (List.replicate m [D.int 1]).flatten = (List.replicate m 1).map eN := by
  induction m with
  | zero => rfl
  | succ k ih => rw [List.replicate_succ, List.flatten_cons, ih]; rfl
theorem tree_w_sizes : ∀ ds n R, S_sizes ds n R → B_w_sizes S_draw (ends R) (slots [true, true, true] ds 3) n := by
  rintro _ n R ⟨s, m, rfl, h1, hms, hs, hn, h⟩
  refine ⟨rfl, by decide, by omega, by omega, by simp; omega, ?_⟩
  refine ⟨by omega, by omega, by decide, ?_⟩
  refine forF_inv (j := 0) (fun i Γ k => ∃ (xs : List Nat) (o4 o5 : Option Rv), Γ = [some (.bor .purse), some (.bor (.int s)), some (.bor (.int m)), some (.new (dN xs)), o4, o5] ∧
    xs.length = m ∧ (∀ x ∈ xs, 1 ≤ x) ∧ xs.sum = m + i ∧ n ≤ k + i) ⟨List.replicate m 1, none, none, ?_, by simp, fun x hx => by rw [(List.mem_replicate.1 hx).2]; omega, by simp, by omega⟩ ?_ ?_
  · show _ = ([some (.bor .purse), some (.bor (.int s)), some (.bor (.int m)), some (.new (.lst ((List.replicate m 1).map eN))), none, none] : Gm)
    rw [← one_mul_len]
    rfl
  · rintro i d Γ k hd ⟨xs, o4, o5, rfl, hl, hp, hsum, hk⟩
    have lt : i < s - m := by have := (List.getElem?_eq_some_iff.1 hd).1; simp [rng] at this; omega
    rw [Nat.zero_add] at hsum hk
    refine ⟨_, rfl, fun kk hkk => ?_⟩
    refine ⟨rfl, m, rfl, by omega, by omega, by omega, fun r hr => ?_⟩
    have hx : xs[r]? = some xs[r] := List.getElem?_eq_getElem (by omega)
    have hx' : (xs.map eN)[r]? = some (eN xs[r]) := by rw [List.getElem?_map, hx]; rfl
    refine ⟨eN xs[r], atI_nat hx', ?_⟩
    refine ⟨rfl, r, ?_, hkk _ _ ⟨xs.set r (xs[r] + 1), some (.val d), some (.val (.int r)), ?_, by simp [hl], fun x hx => ?_, by rw [sum_set hx]; omega, by omega⟩⟩
    · rw [List.length_map]
      exact ixN_n (by omega)
    · show _ = ([some (.bor .purse), some (.bor (.int s)), some (.bor (.int m)), some (.new (.lst ((xs.set r (xs[r] + 1)).map eN))), some (.val d), some (.val (.int r))] : Gm)
      rw [List.map_set]
      rfl
    · rcases List.mem_or_eq_of_mem_set hx with hx | rfl
      · exact hp x hx
      · omega
  · rintro Γ k ⟨xs, o4, o5, rfl, hl, hp, hsum, hk⟩
    have e : ((rng 0 ((s : Int) - (m : Int))).map D.int).length = s - m := by simp [rng]
    rw [Nat.zero_add, e] at hsum hk
    exact ⟨n - 100, by omega, h xs hl hp (by omega)⟩
/-! ### crossed rows -/
def crossRows (m : Nat) : List (List Nat) := if m = 4 then [[1, 3, 0, 2]] else if m = 5 then [[1, 3, 0, 4, 2], [1, 4, 2, 0, 3], [2, 0, 4, 1, 3]] else [[1, 3, 5, 0, 2, 4], [1, 4, 0, 3, 5, 2], [2, 0, 4, 1, 5, 3]]
def S_crossed : ST := fun ds n R => ∃ m : Nat, ds = [.int m] ∧ R (.new (.lst ((crossRows m).map dN))) n
theorem tree_w_crossed_rows : ∀ ds n R, S_crossed ds n R → B_w_crossed_rows (ends R) (slots [true] ds 0) n := by
  rintro _ n R ⟨m, rfl, h⟩
  have fin := dn_of h
  unfold crossRows at fin
  show (if decide ((m : Int) = 4) = true then _ else _)
  by_cases c4 : m = 4
  · subst c4
    refine ⟨rfl, by decide, rfl, by decide, rfl, fin⟩
  rw [decide_eq_false (p := ((m : Int) = 4)) (by omega)]
  rw [if_neg c4] at fin
  show (if decide ((m : Int) = 5) = true then _ else _)
  by_cases c5 : m = 5
  · subst c5
    refine ⟨rfl, by decide, rfl, by decide, rfl, by decide, rfl, by decide, rfl, fin⟩
  rw [decide_eq_false (p := ((m : Int) = 5)) (by omega)]
  rw [if_neg c5] at fin
  refine ⟨rfl, by decide, rfl, by decide, rfl, by decide, rfl, by decide, rfl, fin⟩
theorem cross_ok {m : Nat} (h4 : 4 ≤ m) (h6 : m ≤ 6) : crossRows m ≠ [] ∧ ∀ x ∈ crossRows m, x.Perm (List.range m) := by
  have : m = 4 ∨ m = 5 ∨ m = 6 := by omega
  rcases this with rfl | rfl | rfl
  · exact ⟨by decide, by decide⟩
  · exact ⟨by decide, by decide⟩
  · exact ⟨by decide, by decide⟩
end TL

-- T5
set_option Elab.async false
set_option linter.all false
set_option maxRecDepth 100000
set_option maxHeartbeats 4100000
/-! T5: sizes of a heap's parts -/
namespace TL
open L2 PyProof.Rows PySem PySem.Spec TS RZ
def S_heap : ST := fun ds n R => ∃ s : Nat, ds = [.purse, .int s] ∧ 1 ≤ s ∧ s ≤ 20 ∧ 100 ≤ n ∧ ∀ xs : List Nat, (∀ x ∈ xs, x = 1 ∨ 4 ≤ x) → xs.sum = s → (2 ≤ s → 2 ≤ xs.length) → R (.new (dN xs)) (n - 100)
theorem sum_ints : ∀ xs : List Nat, ∃ is : List Int, xs.map eN = is.map D.int ∧ is.sum = (xs.sum : Int)
  | [] => ⟨[], rfl, rfl⟩
  | x :: r => by
    obtain ⟨is, e, h⟩ := sum_ints r
    exact ⟨(x : Int) :: is, by rw [List.map_cons, List.map_cons, e], by rw [List.sum_cons, h, List.sum_cons]; omega⟩
theorem pln_nats : ∀ xs : List Nat, plns (xs.map eN) = true
  | [] => rfl
  | _ :: r => by simp [pln_nats r]
theorem tree_w_heap_sizes : ∀ ds n R, S_heap ds n R → B_w_heap_sizes S_draw (ends R) (slots [true, true] ds 2) n := by
  rintro _ n R ⟨s, rfl, h1, hs, hn, h⟩
  refine ⟨rfl, by decide, ?_⟩
  refine ⟨fun m Γ k => ∃ (xs : List Nat) (o3 : Option Rv), Γ = [some (.bor .purse), some (.bor (.int s)), some (.new (dN xs)), o3] ∧ (∀ x ∈ xs, x = 1 ∨ 4 ≤ x) ∧ xs.sum + m = s ∧ (2 ≤ s → xs.length = 1 → 1 ≤ m) ∧ (xs = [] ↔ m = s) ∧ n + 3 * m ≤ k + 3 * s, ⟨s, [], none, rfl, by simp, by simp, by simp, by simp, by omega⟩, ?_⟩
  rintro m Γ k ⟨xs, o3, rfl, hx, hsum, h2, he, hk⟩
  obtain ⟨is, e, hi⟩ := sum_ints xs
  refine ⟨is, e, ?_⟩
  rw [hi]
  have few : xs.length ≤ 1000000 := by
    have : xs.length ≤ xs.sum := by
      clear he h2 hsum e hi is
      induction xs with
      | nil => simp
      | cons x r ih =>
        have := ih fun y hy => hx y (List.mem_cons_of_mem _ hy)
        have := hx x List.mem_cons_self
        simp only [List.length_cons, List.sum_cons]
        omega
    omega
  have few : (xs.map eN).length ≤ 1000000 := by rw [List.length_map]; exact few
  have step : ∀ (z k' : Nat) (o : Option Rv), (z = 1 ∨ 4 ≤ z) → z ≤ m → (xs = [] → 2 ≤ s → z < s) → k ≤ k' + 3 → ∃ m', m' < m ∧ ∃ (xs' : List Nat) (o3 : Option Rv), ([some (.bor .purse), some (.bor (.int s)), some (.new (.lst (xs.map eN ++ [.int z]))), o] : Gm) = [some (.bor .purse), some (.bor (.int s)), some (.new (dN xs')), o3] ∧ (∀ x ∈ xs', x = 1 ∨ 4 ≤ x) ∧ xs'.sum + m' = s ∧ (2 ≤ s → xs'.length = 1 → 1 ≤ m') ∧ (xs' = [] ↔ m' = s) ∧ n + 3 * m' ≤ k' + 3 * s := fun z k' o hz hm hl hk' => by
    refine ⟨m - z, by omega, xs ++ [z], o, by rw [dN, List.map_append]; rfl, fun x hx' => ?_, by simp; omega, fun g1 g2 => ?_, by simp; omega, by omega⟩
    · rcases List.mem_append.1 hx' with hx' | hx'
      · exact hx x hx'
      · rw [List.mem_singleton.1 hx']; exact hz
    · have : xs = [] := by simpa using g2
      have := hl this g1
      have := he.1 (by assumption)
      omega
  show (if decide ((xs.sum : Int) < (s : Int)) = true then _ else _)
  by_cases c : xs.sum < s
  · rw [decide_eq_true (p := ((xs.sum : Int) < (s : Int))) (by omega)]
    have em : (s : Int) - is.sum = (m : Int) := by omega
    refine ⟨is, e, ?_⟩
    have one : ∀ k', k ≤ k' + 3 → ∃ m', m' < m ∧ ∃ (xs' : List Nat) (o3 : Option Rv), ([some (.bor .purse), some (.bor (.int s)), some (.new (.lst (xs.map eN ++ [.int 1]))), some (.val (.int ((s : Int) - is.sum)))] : Gm) = [some (.bor .purse), some (.bor (.int s)), some (.new (dN xs')), o3] ∧ (∀ x ∈ xs', x = 1 ∨ 4 ≤ x) ∧ xs'.sum + m' = s ∧ (2 ≤ s → xs'.length = 1 → 1 ≤ m') ∧ (xs' = [] ↔ m' = s) ∧ n + 3 * m' ≤ k' + 3 * s := fun k' hk' => step 1 k' _ (.inl rfl) (by omega) (fun _ _ => by omega) hk'
    -- the second way
    have second : ∀ k', k ≤ k' + 1 → tlIf (tlAndT (tlT (tlOp dGt (tlV 3) (tlC (.int 3)))) (tlAndT (tlT (tlOp dNe (tlV 2) (tlLst tlNil))) (tlT (tlOp dEq (tlCall [true, true] S_draw (tlCons (tlV 0) (tlCons (tlC (.int 3)) tlNil))) (tlC (.int 0)))))) (tlApp 2 (tlOp dAdd (tlC (.int 4)) (tlCall [true, true] S_draw (tlCons (tlV 0) (tlCons (tlOp dSub (tlV 3) (tlC (.int 3))) tlNil))))) (tlApp 2 (tlC (.int 1)))
        { nx := fun Γ' n' => ∃ m', m' < m ∧ ∃ (xs' : List Nat) (o3 : Option Rv), Γ' = [some (.bor .purse), some (.bor (.int s)), some (.new (dN xs')), o3] ∧ (∀ x ∈ xs', x = 1 ∨ 4 ≤ x) ∧ xs'.sum + m' = s ∧ (2 ≤ s → xs'.length = 1 → 1 ≤ m') ∧ (xs' = [] ↔ m' = s) ∧ n + 3 * m' ≤ n' + 3 * s, rt := fun _ _ => False }
        [some (.bor .purse), some (.bor (.int s)), some (.new (dN xs)), some (.val (.int ((s : Int) - is.sum)))] k' := fun k' hk' => by
      show (if decide ((3 : Int) < (s : Int) - is.sum) = true then _ else _)
      by_cases c3 : 3 < m
      · rw [decide_eq_true (p := ((3 : Int) < (s : Int) - is.sum)) (by omega)]
        cases xs with
        | nil => exact ⟨rfl, by decide, rfl, rfl, by decide, rfl, few, one k' (by omega)⟩
        | cons x r =>
          refine ⟨rfl, by decide, ?_⟩
          have pl : pln (.lst ((x :: r).map eN)) = true := pln_nats _
          refine ⟨pl, rfl, by simp, ?_⟩
          have ne : (!PyData.eqv (toP (.lst ((x :: r).map eN))) (toP (.lst (List.map Rv.d [])))) = true := by simp [PyData.eqv, PyData.eqvAll]
          show (if (!PyData.eqv (toP (.lst ((x :: r).map eN))) (toP (.lst (List.map Rv.d [])))) = true then _ else _)
          rw [ne]
          refine ⟨rfl, 3, rfl, by omega, by omega, by omega, fun q hq => ?_⟩
          show (if decide ((q : Int) = 0) = true then _ else _)
          cases decide ((q : Int) = 0) with
          | false => exact ⟨rfl, few, one _ (by omega)⟩
          | true =>
            refine ⟨rfl, m - 3, congrArg (fun z => [D.purse, D.int z]) (by omega), by omega, by omega, by omega, fun u hu => ?_⟩
            exact ⟨rfl, few, step (4 + u) _ _ (.inr (by omega)) (by omega) (fun z => by cases z) (by omega)⟩
      · rw [decide_eq_false (p := ((3 : Int) < (s : Int) - is.sum)) (by omega)]
        exact ⟨rfl, few, one k' (by omega)⟩
    show (if decide ((4 : Int) < (s : Int) - is.sum) = true then _ else _)
    by_cases c4 : 4 < m
    · rw [decide_eq_true (p := ((4 : Int) < (s : Int) - is.sum)) (by omega)]
      refine ⟨rfl, 3, rfl, by omega, by omega, by omega, fun q hq => ?_⟩
      show (if decide ((q : Int) = 0) = true then _ else _)
      cases decide ((q : Int) = 0) with
      | false => exact second _ (by omega)
      | true =>
        refine ⟨rfl, min 3 (m - 4), congrArg (fun z => [D.purse, D.int z]) (by omega), by omega, by omega, by omega, fun u hu => ?_⟩
        exact ⟨rfl, few, step (4 + u) _ _ (.inr (by omega)) (by omega) (fun _ _ => by omega) (by omega)⟩
    · rw [decide_eq_false (p := ((4 : Int) < (s : Int) - is.sum)) (by omega)]
      exact second k (by omega)
  · rw [decide_eq_false (p := ((xs.sum : Int) < (s : Int))) (by omega)]
    refine ⟨n - 100, by omega, h xs hx (by omega) fun g => ?_⟩
    have m0 : m = 0 := by omega
    have ne : xs ≠ [] := fun q => by have := he.1 q; omega
    have : xs.length ≠ 1 := fun q => by have := h2 g q; omega
    have : xs.length ≠ 0 := fun q => ne (List.length_eq_zero_iff.1 q)
    omega
end TL

-- T6
set_option Elab.async false
set_option linter.all false
set_option maxRecDepth 100000
set_option maxHeartbeats 4100000
/-! T6: the nodes of a drawn core, as numbers -/
namespace TL
open L2 PyProof.Rows PySem PySem.Spec TS RZ
/-- a node: its kind, its first entry, how many books, its parts, their order -/
structure Nd where
  k : Str
  st : Nat
  m : Nat
  ps : List Nat
  nums : List Nat
@[reducible] def eNd (n : Nd) : D := .lst [.str n.k, eN n.st, eN n.m, dN n.ps, dN n.nums]
/-- the nodes' stretches -/
def ivs (ns : List Nd) : List (Nat × Nat) := ns.map fun n => (n.st, n.m)
/-- some stretches follow one another from s to e -/
def Chain (iv : List (Nat × Nat)) : Nat → List Nat → Nat → Prop
  | s, [], e => s = e
  | s, j :: js, e => ∃ m, iv[j]? = some (s, m) ∧ 1 ≤ m ∧ Chain iv (s + m) js e
theorem Chain.mono {iv iv' : List (Nat × Nat)} (h : ∀ (j : Nat) (x : Nat × Nat), iv[j]? = some x → iv'[j]? = some x) : ∀ {ps : List Nat} {s e : Nat}, Chain iv s ps e → Chain iv' s ps e
  | [], _, _, c => c
  | _ :: _, _, _, ⟨m, h1, h2, c⟩ => ⟨m, h _ _ h1, h2, c.mono h⟩
/-- a node that has been seen -/
def Seen (iv : List (Nat × Nat)) (n : Nd) : Prop := (n.m = 1 ∧ n.ps = [] ∧ n.k ≠ "heap") ∨ (2 ≤ n.m ∧ 2 ≤ n.ps.length ∧ Chain iv n.st n.ps (n.st + n.m) ∧ n.nums.Perm (List.range n.ps.length) ∧ (n.k = "heap" → n.nums = List.range n.ps.length))
theorem Seen.mono {iv iv' : List (Nat × Nat)} (h : ∀ (j : Nat) (x : Nat × Nat), iv[j]? = some x → iv'[j]? = some x) {n : Nd} : Seen iv n → Seen iv' n
  | .inl z => .inl z
  | .inr ⟨a, b, c, d, e⟩ => .inr ⟨a, b, c.mono h, d, e⟩
/-- a list of nodes, all ahead of i seen -/
structure Ok (size i : Nat) (ns : List Nd) : Prop where
  all : ∀ n ∈ ns, 1 ≤ n.m ∧ n.st + n.m ≤ size ∧ (n.k = "crossed" → 4 ≤ n.m)
  seen : ∀ j n, j < i → ns[j]? = some n → Seen (ivs ns) n
  new : ∀ j n, i ≤ j → ns[j]? = some n → n.ps = [] ∧ n.k ≠ "heap"
  root : ∃ n, ns[0]? = some n ∧ n.st = 0 ∧ n.m = size
  par : ∀ j, 0 < j → j < ns.length → ∃ i' n, i' < i ∧ ns[i']? = some n ∧ j ∈ n.ps
  up : ∀ j n q, ns[j]? = some n → q ∈ n.ps → j < q ∧ q < ns.length
def wt (ns : List Nd) : Nat := (ns.map fun n => 2 * n.m - 1).sum
theorem wt_app (a b : List Nd) : wt (a ++ b) = wt a + wt b := by
  unfold wt
  rw [List.map_append, List.sum_append]
/-- the parts of a node, not yet seen -/
def newK (cr : Bool) (z : Nat) : Str := if cr = true then "any" else if 1 < z then "crossed" else "book"
def news (cr : Bool) : Nat → List Nat → List Nd
  | _, [] => []
  | s, z :: zs => ⟨newK cr z, s, z, [], []⟩ :: news cr (s + z) zs
theorem news_len (cr : Bool) : ∀ (zs : List Nat) (s : Nat), (news cr s zs).length = zs.length
  | [], _ => rfl
  | z :: zs, s => congrArg Nat.succ (news_len cr zs (s + z))
theorem news_snoc (cr : Bool) (z : Nat) : ∀ (zs : List Nat) (s : Nat), news cr s (zs ++ [z]) = news cr s zs ++ [⟨newK cr z, s + zs.sum, z, [], []⟩]
  | [], s => by simp [news]
  | y :: zs, s => by
    have ih := news_snoc cr z zs (s + y)
    simp only [List.cons_append, news, ih, List.sum_cons, Nat.add_assoc]
theorem newK_cr {cr : Bool} {z : Nat} (e : newK cr z = "crossed") : cr = false ∧ 1 < z := by
  unfold newK at e
  cases cr with
  | true =>
    have e' : ("any" : Str) = "crossed" := e
    exact absurd e' (by decide +kernel)
  | false =>
    refine ⟨rfl, ?_⟩
    by_cases c : 1 < z
    · exact c
    · simp only [Bool.false_eq_true, if_false, if_neg c] at e
      exact absurd e (by decide +kernel)
theorem newK_heap {cr : Bool} {z : Nat} : newK cr z ≠ "heap" := by
  unfold newK
  cases cr with
  | true =>
    show ("any" : Str) ≠ "heap"
    decide +kernel
  | false =>
    by_cases c : 1 < z
    · simp only [Bool.false_eq_true, if_false, if_pos c]
      decide +kernel
    · simp only [Bool.false_eq_true, if_false, if_neg c]
      decide +kernel
theorem news_mem (cr : Bool) : ∀ {zs : List Nat} {s : Nat} {n : Nd}, n ∈ news cr s zs → n.m ∈ zs ∧ s ≤ n.st ∧ n.st + n.m ≤ s + zs.sum ∧ (n.ps = [] ∧ n.k ≠ "heap") ∧ (n.k = "crossed" → cr = false ∧ 1 < n.m)
  | [], _, _, h => by simp [news] at h
  | z :: zs, s, n, h => by
    rcases List.mem_cons.1 h with rfl | h
    · exact ⟨List.mem_cons_self, Nat.le.refl, by simp, ⟨rfl, newK_heap⟩, newK_cr⟩
    · obtain ⟨h1, h2, h3, h4, h5⟩ := news_mem cr h
      exact ⟨List.mem_cons_of_mem _ h1, by omega, by simp only [List.sum_cons]; omega, h4, h5⟩
theorem wt_news (cr : Bool) : ∀ (zs : List Nat) (s : Nat), (∀ z ∈ zs, 1 ≤ z) → wt (news cr s zs) + zs.length = 2 * zs.sum
  | [], _, _ => rfl
  | z :: zs, s, h => by
    have ih := wt_news cr zs (s + z) fun y hy => h y (List.mem_cons_of_mem _ hy)
    have := h z List.mem_cons_self
    unfold wt at ih ⊢
    simp only [news, List.map_cons, List.sum_cons, List.length_cons] at ih ⊢
    omega
/-- they follow one another -/
theorem chain_news (cr : Bool) : ∀ (zs : List Nat) (s : Nat) (ns : List Nd), (∀ z ∈ zs, 1 ≤ z) → Chain (ivs (ns ++ news cr s zs)) s ((List.range zs.length).map (ns.length + ·)) (s + zs.sum)
  | [], s, ns, _ => rfl
  | z :: zs, s, ns, h => by
    have ih := chain_news cr zs (s + z) (ns ++ [⟨newK cr z, s, z, [], []⟩]) fun y hy => h y (List.mem_cons_of_mem _ hy)
    rw [List.length_cons, List.range_succ_eq_map, List.map_cons, List.map_map]
    refine ⟨z, ?_, h z List.mem_cons_self, ?_⟩
    · unfold ivs
      rw [List.getElem?_map, Nat.add_zero, List.getElem?_append_right Nat.le.refl, Nat.sub_self]
      rfl
    · rw [List.append_assoc, List.length_append] at ih
      have e : ((fun x => ns.length + x) ∘ Nat.succ) = fun x => ns.length + ([⟨newK cr z, s, z, [], []⟩] : List Nd).length + x := by
        funext x
        simp only [Function.comp_apply, List.length_cons, List.length_nil]
        omega
      rw [e, List.sum_cons, ← Nat.add_assoc]
      exact ih
theorem wt_drop {ns : List Nd} {i : Nat} {n : Nd} (h : ns[i]? = some n) : wt (ns.drop i) = 2 * n.m - 1 + wt (ns.drop (i + 1)) := by
  obtain ⟨lt, e⟩ := List.getElem?_eq_some_iff.1 h
  rw [List.drop_eq_getElem_cons lt, e]
  unfold wt
  rw [List.map_cons, List.sum_cons]
theorem Ok.skip {size i : Nat} {ns : List Nd} {n : Nd} (o : Ok size i ns) (h : ns[i]? = some n) (m1 : n.m = 1) : Ok size (i + 1) ns ∧ wt (ns.drop (i + 1)) < wt (ns.drop i) := by
  refine ⟨⟨o.all, fun j n' hj hn => ?_, fun j n' hj hn => o.new j n' (by omega) hn, o.root, fun j h0 hj => ?_, o.up⟩, by rw [wt_drop h, m1]; omega⟩
  · rcases Nat.lt_or_eq_of_le (Nat.le_of_lt_succ hj) with c | rfl
    · exact o.seen j n' c hn
    · have e : n' = n := Option.some.inj (hn.symm.trans h)
      subst e
      exact .inl ⟨m1, o.new j n' Nat.le.refl h⟩
  · obtain ⟨i', n', h1, h2, h3⟩ := o.par j h0 hj
    exact ⟨i', n', by omega, h2, h3⟩
theorem ivs_set {ns : List Nd} {i : Nat} {n n' : Nd} (h : ns[i]? = some n) (h1 : n'.st = n.st) (h2 : n'.m = n.m) : ivs (ns.set i n') = ivs ns := by
  unfold ivs
  rw [List.map_set, h1, h2]
  have e : (ns.map fun n => (n.st, n.m))[i]? = some (n.st, n.m) := by rw [List.getElem?_map, h]; rfl
  obtain ⟨lt, e2⟩ := List.getElem?_eq_some_iff.1 e
  rw [← e2]
  exact List.set_getElem_self lt
theorem Ok.step {size i : Nat} {ns : List Nd} {n : Nd} {cr : Bool} {zs nums : List Nat} (o : Ok size i ns) (h : ns[i]? = some n) (m2 : 2 ≤ n.m) (hcr : cr = true → 4 ≤ n.m)
    (sum : zs.sum = n.m) (two : 2 ≤ zs.length) (pos : ∀ z ∈ zs, 1 ≤ z) (big : cr = false → ∀ z ∈ zs, z = 1 ∨ 4 ≤ z) (perm : nums.Perm (List.range zs.length)) (same : cr = false → nums = List.range zs.length) :
    Ok size (i + 1) ((ns ++ news cr n.st zs).set i ⟨if cr = true then "crossed" else "heap", n.st, n.m, (List.range zs.length).map (ns.length + ·), nums⟩) ∧
    wt (((ns ++ news cr n.st zs).set i ⟨if cr = true then "crossed" else "heap", n.st, n.m, (List.range zs.length).map (ns.length + ·), nums⟩).drop (i + 1)) < wt (ns.drop i) := by
  have lt := (List.getElem?_eq_some_iff.1 h).1
  have hn := o.all n (List.mem_of_getElem? h)
  have h' : (ns ++ news cr n.st zs)[i]? = some n := by rw [List.getElem?_append_left lt]; exact h
  generalize ek : (if cr = true then ("crossed" : Str) else "heap") = kk
  have hk : kk = "crossed" → 4 ≤ n.m := fun e => by
    cases cr with
    | true => exact hcr rfl
    | false =>
      have e' : ("heap" : Str) = "crossed" := ek.trans e
      exact absurd e' (by decide +kernel)
  have hh : kk = "heap" → nums = List.range zs.length := fun e => by
    cases cr with
    | false => exact same rfl
    | true =>
      have e' : ("crossed" : Str) = "heap" := ek.trans e
      exact absurd e' (by decide +kernel)
  have iv := ivs_set (n' := ⟨kk, n.st, n.m, (List.range zs.length).map (ns.length + ·), nums⟩) h' rfl rfl
  have grow : ∀ (j : Nat) (x : Nat × Nat), (ivs ns)[j]? = some x → (ivs (ns ++ news cr n.st zs))[j]? = some x := fun j x e => by
    unfold ivs at e ⊢
    rw [List.map_append, List.getElem?_append_left (List.getElem?_eq_some_iff.1 e).1]
    exact e
  have ln : ((ns ++ news cr n.st zs).set i ⟨kk, n.st, n.m, (List.range zs.length).map (ns.length + ·), nums⟩).length = ns.length + zs.length := by rw [List.length_set, List.length_append, news_len]
  have at_i : ((ns ++ news cr n.st zs).set i ⟨kk, n.st, n.m, (List.range zs.length).map (ns.length + ·), nums⟩)[i]? = some ⟨kk, n.st, n.m, (List.range zs.length).map (ns.length + ·), nums⟩ := List.getElem?_set_self (by rw [List.length_append]; omega)
  refine ⟨⟨fun n' hm => ?_, fun j n' hj hn' => ?_, fun j n' hj hn' => ?_, ?_, fun j h0 hj => ?_, fun j n' q hn' hq => ?_⟩, ?_⟩
  · rcases List.mem_or_eq_of_mem_set hm with hm | rfl
    · rcases List.mem_append.1 hm with hm | hm
      · exact o.all n' hm
      · obtain ⟨g1, g2, g3, g4, g5⟩ := news_mem cr hm
        refine ⟨pos _ g1, by omega, fun e => ?_⟩
        obtain ⟨c, c2⟩ := g5 e
        rcases big c _ g1 with e1 | e1 <;> omega
    · exact ⟨hn.1, hn.2.1, hk⟩
  · rw [iv]
    by_cases e : i = j
    · subst e
      rw [at_i] at hn'
      obtain rfl := Option.some.inj hn'
      refine .inr ⟨m2, by simpa using two, ?_, by simpa using perm, fun e => by simpa using hh e⟩
      have c := chain_news cr zs n.st ns pos
      rw [sum] at c
      exact c
    · rw [List.getElem?_set_ne e, List.getElem?_append_left (by omega)] at hn'
      exact (o.seen j n' (by omega) hn').mono grow
  · rw [List.getElem?_set_ne (by omega)] at hn'
    by_cases c : j < ns.length
    · rw [List.getElem?_append_left c] at hn'
      exact o.new j n' (by omega) hn'
    · rw [List.getElem?_append_right (by omega)] at hn'
      exact (news_mem cr (List.mem_of_getElem? hn')).2.2.2.1
  · obtain ⟨r, h1, h2, h3⟩ := o.root
    by_cases e : i = 0
    · subst e
      refine ⟨_, at_i, ?_, ?_⟩
      · obtain rfl := Option.some.inj (h.symm.trans h1)
        exact h2
      · obtain rfl := Option.some.inj (h.symm.trans h1)
        exact h3
    · refine ⟨r, ?_, h2, h3⟩
      rw [List.getElem?_set_ne e, List.getElem?_append_left (by omega)]
      exact h1
  · rw [ln] at hj
    by_cases c : j < ns.length
    · obtain ⟨i', n', h1, h2, h3⟩ := o.par j h0 c
      refine ⟨i', n', by omega, ?_, h3⟩
      rw [List.getElem?_set_ne (by omega), List.getElem?_append_left (by omega)]
      exact h2
    · refine ⟨i, _, by omega, at_i, List.mem_map.2 ⟨j - ns.length, List.mem_range.2 (by omega), by omega⟩⟩
  · rw [ln]
    by_cases e : i = j
    · subst e
      rw [at_i] at hn'
      obtain rfl := Option.some.inj hn'
      obtain ⟨u, hu, rfl⟩ := List.mem_map.1 hq
      have := List.mem_range.1 hu
      omega
    · rw [List.getElem?_set_ne e] at hn'
      by_cases c : j < ns.length
      · rw [List.getElem?_append_left c] at hn'
        have := o.up j n' q hn' hq
        omega
      · rw [List.getElem?_append_right (by omega)] at hn'
        rw [(news_mem cr (List.mem_of_getElem? hn')).2.2.2.1.1] at hq
        cases hq
  · rw [List.drop_set_of_lt (by omega), List.drop_append_of_le_length (by omega), wt_app, wt_drop h]
    have := wt_news cr zs n.st pos
    omega
theorem Ok.start {size : Nat} (h : 1 ≤ size) : Ok size 0 [⟨"any", 0, size, [], []⟩] where
  all := fun n hn => by
    rw [List.mem_singleton.1 hn]
    refine ⟨h, by simp, fun e => ?_⟩
    have e' : ("any" : Str) = "crossed" := e
    exact absurd e' (by decide +kernel)
  seen := fun j n hj => absurd hj (Nat.not_lt_zero j)
  new := fun j n _ hn => by
    have := List.mem_of_getElem? hn
    rw [List.mem_singleton.1 this]
    refine ⟨rfl, ?_⟩
    show ("any" : Str) ≠ "heap"
    decide +kernel
  root := ⟨_, rfl, rfl, rfl⟩
  par := fun j h0 hj => by simp at hj; omega
  up := fun j n q hn hq => by
    have := List.mem_of_getElem? hn
    rw [List.mem_singleton.1 this] at hq
    cases hq
end TL

-- T7
set_option Elab.async false
set_option linter.all false
set_option maxRecDepth 100000
set_option maxHeartbeats 4100000
/-! T7: the nodes of a drawn core -/
namespace TL
open L2 PyProof.Rows PySem PySem.Spec TS RZ
abbrev tailN : TSt := (tlSq (tlFor (tlSeq (tlV 10)) (.nm 11) (tlSq (tlSet 7 (tlOp dAdd (tlV 7) (tlLst (tlCons (tlB dLen (tlCons (tlV 2) tlNil)) tlNil)))) (tlSq (tlRel 11 (tlRel 5 (tlApp 2 (tlLst (tlCons (tlIfx (tlT (tlV 9)) (tlC (.str "any")) (tlIfx (tlT (tlOp dGt (tlV 11) (tlC (.int 1)))) (tlC (.str "crossed")) (tlC (.str "book")))) (tlCons (tlV 5) (tlCons (tlV 11) (tlCons (tlLst tlNil) (tlCons (tlLst tlNil) tlNil))))))))) (tlSet 5 (tlOp dAdd (tlV 5) (tlV 11)))))) (tlRel 8 (tlRel 7 (tlRel 6 (tlSetIx 2 (tlLst (tlCons (tlIfx (tlT (tlV 9)) (tlC (.str "crossed")) (tlC (.str "heap"))) (tlCons (tlOp dIx (tlOp dIx (tlV 2) (tlV 3)) (tlC (.int 1))) (tlCons (tlV 6) (tlCons (tlV 7) (tlCons (tlV 8) tlNil)))))) (tlV 3))))))
theorem small_len {α : Type} {xs : List α} (h : Nat.ble xs.length 1000 = true := by rfl) : xs.length ≤ 1000 := Nat.le_of_ble_eq_true h
theorem take_sum (zs : List Nat) {i z : Nat} (h : zs[i]? = some z) : (zs.take (i + 1)).sum = (zs.take i).sum + z := by
  rw [List.take_succ, h]
  simp
theorem nodes_tail {E : TEn} {size at_ : Nat} {ns : List Nd} {n : Nd} {kk : Str} {cr : Bool} {zs nums : List Nat} {s8 : Rv} {o11 : Option Rv} {k : Nat} (h : ns[at_]? = some n) (h8 : s8 = .val (dN nums) ∨ s8 = .new (dN nums)) (few : ns.length + zs.length ≤ 1000)
    (q : ∀ g5 g7 g8 g11 : Option Rv, E.nx [some (.bor .purse), some (.val (eN size)), some (.new (.lst (((ns ++ news cr n.st zs).set at_ ⟨if cr = true then "crossed" else "heap", n.st, n.m, (List.range zs.length).map (ns.length + ·), nums⟩).map eNd))), some (.val (eN at_)), some (.val (.str kk)), g5, some (.val (eN n.m)), g7, g8, some (.val (.bl cr)), some (.val (dN zs)), g11] k) :
    tailN E [some (.bor .purse), some (.val (eN size)), some (.new (.lst (ns.map eNd))), some (.val (eN at_)), some (.val (.str kk)), some (.val (eN n.st)), some (.val (eN n.m)), some (.val (.lst [])), some s8, some (.val (.bl cr)), some (.val (dN zs)), o11] k := by
  refine ⟨Nat.le_succ 1, ?_⟩
  refine forF_inv (j := 0) (fun i Γ k' => k' = k ∧ ∃ (o11 : Option Rv) (s7 : Rv), (s7 = .val (dN ((List.range i).map (ns.length + ·))) ∨ s7 = .new (dN ((List.range i).map (ns.length + ·)))) ∧ Γ = [some (.bor .purse), some (.val (eN size)), some (.new (.lst ((ns ++ news cr n.st (zs.take i)).map eNd))), some (.val (eN at_)), some (.val (.str kk)), some (.val (eN (n.st + (zs.take i).sum))), some (.val (eN n.m)), some s7, some s8, some (.val (.bl cr)), some (.val (dN zs)), o11]) ⟨rfl, o11, .val (.lst []), .inl rfl, ?_⟩ ?_ ?_
  · simp [news]
  · rintro i d Γ k' hd ⟨rfl, o, s7, h7, rfl⟩
    rw [List.getElem?_map] at hd
    obtain ⟨z, hz, rfl⟩ := Option.map_eq_some_iff.1 hd
    have lt : i < zs.length := (List.getElem?_eq_some_iff.1 hz).1
    have ln : (ns ++ news cr n.st (zs.take i)).length = ns.length + i := by rw [List.length_append, news_len, List.length_take]; omega
    simp only [Nat.zero_add] at h7 ⊢
    refine ⟨_, rfl, fun kk' hkk => ?_⟩
    have fit : ((ns ++ news cr n.st (zs.take i)).map eNd).length ≤ 1000000 := by rw [List.length_map, ln]; omega
    have fit7 : ((List.range i).map (ns.length + ·)).map eN = ((List.range i).map (ns.length + ·)).map eN := rfl
    have e2 : ((List.range (i + 1)).map (ns.length + ·)).map eN = ((List.range i).map (ns.length + ·)).map eN ++ [eN ((ns ++ news cr n.st (zs.take i)).map eNd).length] := by
      rw [List.length_map, ln, List.range_succ, List.map_append, List.map_append]
      rfl
    have e1 : (ns ++ news cr n.st (zs.take (i + 1))).map eNd = (ns ++ news cr n.st (zs.take i)).map eNd ++ [eNd ⟨newK cr z, n.st + (zs.take i).sum, z, [], []⟩] := by
      rw [List.take_succ, hz]
      show (ns ++ news cr n.st (zs.take i ++ [z])).map eNd = _
      rw [news_snoc, ← List.append_assoc, List.map_append]
      rfl
    have e3 : n.st + (zs.take (i + 1)).sum = n.st + (zs.take i).sum + z := by rw [take_sum zs hz, Nat.add_assoc]
    have done := hkk [some (.bor .purse), some (.val (eN size)), some (.new (.lst ((ns ++ news cr n.st (zs.take (i + 1))).map eNd))), some (.val (eN at_)), some (.val (.str kk)), some (.val (eN (n.st + (zs.take (i + 1)).sum))), some (.val (eN n.m)), some (.new (dN ((List.range (i + 1)).map (ns.length + ·)))), some s8, some (.val (.bl cr)), some (.val (dN zs)), some (.val (eN z))] k' ⟨rfl, _, _, .inr rfl, rfl⟩
    rw [e1, dN, e2, e3] at done
    have few7' : (((List.range i).map (ns.length + ·)).map eN).length + 1 ≤ 1000000 := by simp; omega
    rcases h7 with rfl | rfl <;> refine ⟨rfl, small_len, few7', ?_⟩ <;> cases cr with
    | true => exact ⟨rfl, small_len, rfl, small_len, rfl, small_len, rfl, fit, done⟩
    | false =>
      show (if decide ((1 : Int) < (z : Int)) = true then _ else _)
      unfold newK at done
      by_cases c : 1 < z
      · rw [decide_eq_true (p := ((1 : Int) < (z : Int))) (by omega)]
        rw [if_pos c] at done
        exact ⟨rfl, small_len, rfl, small_len, rfl, small_len, rfl, fit, done⟩
      · rw [decide_eq_false (p := ((1 : Int) < (z : Int))) (by omega)]
        rw [if_neg c] at done
        exact ⟨rfl, small_len, rfl, small_len, rfl, small_len, rfl, fit, done⟩
  · rintro Γ k' ⟨rfl, o, s7, h7, rfl⟩
    have all : zs.take (0 + (zs.map eN).length) = zs := by rw [Nat.zero_add, List.length_map, List.take_length]
    have lt := (List.getElem?_eq_some_iff.1 h).1
    have hat : ((ns ++ news cr n.st zs).map eNd)[at_]? = some (eNd n) := by rw [List.getElem?_map, List.getElem?_append_left lt, h]; rfl
    have ln : (ns ++ news cr n.st zs).length = ns.length + zs.length := by rw [List.length_append, news_len]
    simp only [Nat.zero_add, List.length_map] at h7
    rw [all]
    have q' := q (some (.val (eN (n.st + zs.sum)))) (some (.val (dN ((List.range zs.length).map (ns.length + ·))))) (some (.val (dN nums))) o
    rw [List.map_set] at q'
    have ix : ixN ((ns ++ news cr n.st zs).map eNd).length ((at_ : Nat) : Int) = some at_ := by rw [List.length_map, ln]; exact ixN_n (by omega)
    cases cr with
    | true => rcases h7 with rfl | rfl <;> rcases h8 with rfl | rfl <;> exact ⟨_, atI_nat hat, eN n.st, atI_nat (j := 1) rfl, rfl, small_len, rfl, at_, ix, q'⟩
    | false => rcases h7 with rfl | rfl <;> rcases h8 with rfl | rfl <;> exact ⟨_, atI_nat hat, eN n.st, atI_nat (j := 1) rfl, rfl, small_len, rfl, at_, ix, q'⟩
end TL

-- T8
set_option Elab.async false
set_option linter.all false
set_option maxRecDepth 100000
set_option maxHeartbeats 400000
/-! T8: the nodes of a drawn core, made -/
namespace TL
open L2 PyProof.Rows PySem PySem.Spec TS RZ
def S_nodes : ST := fun ds n R => ∃ size : Nat, ds = [.purse, .int size] ∧ 1 ≤ size ∧ size ≤ 20 ∧ 20000 ≤ n ∧ ∀ ns : List Nd, Ok size ns.length ns → ns.length ≤ 40 → R (.new (.lst (ns.map eNd))) (n - 20000)
theorem len_sum : ∀ zs : List Nat, (∀ z ∈ zs, 1 ≤ z) → zs.length ≤ zs.sum
  | [], _ => Nat.zero_le _
  | z :: r, h => by
    have := len_sum r fun y hy => h y (List.mem_cons_of_mem _ hy)
    have := h z List.mem_cons_self
    simp only [List.length_cons, List.sum_cons]
    omega
theorem wt_len {size i : Nat} {ns : List Nd} (o : Ok size i ns) (h : i ≤ ns.length) : ns.length ≤ i + wt (ns.drop i) := by
  have key : ∀ l : List Nd, (∀ n ∈ l, 1 ≤ n.m) → l.length ≤ wt l := by
    intro l
    induction l with
    | nil => intro _; exact Nat.zero_le _
    | cons n r ih =>
      intro hl
      have := ih fun x hx => hl x (List.mem_cons_of_mem _ hx)
      have := hl n List.mem_cons_self
      unfold wt at this ⊢
      unfold wt at *
      simp only [List.length_cons, List.map_cons, List.sum_cons]
      omega
  have := key (ns.drop i) fun n hn => (o.all n (List.mem_of_mem_drop hn)).1
  rw [List.length_drop] at this
  omega
/-- what holds ahead of each turn -/
def InvN (size n : Nat) (m : Nat) (Γ : Gm) (k : Nat) : Prop := ∃ (ns : List Nd) (i : Nat) (g4 g5 g6 g7 g8 g9 g10 g11 : Option Rv), Γ = [some (.bor .purse), some (.val (eN size)), some (.new (.lst (ns.map eNd))), some (.val (eN i)), g4, g5, g6, g7, g8, g9, g10, g11] ∧
  Ok size i ns ∧ i ≤ ns.length ∧ m = wt (ns.drop i) ∧ i + m + 1 ≤ 2 * size ∧ n + 300 * m ≤ k + 300 * (2 * size)
theorem tree_w_nodes : ∀ ds n R, S_nodes ds n R → B_w_nodes S_draw S_heap S_sizes S_one_of S_crossed (ends R) (slots [true, false] ds 10) n := by
  rintro _ n R ⟨size, rfl, h1, hs, hn, h⟩
  refine ⟨rfl, small_len, rfl, small_len, rfl, small_len, rfl, small_len, ?_⟩
  refine ⟨InvN size n, ⟨_, [⟨"any", 0, size, [], []⟩], 0, none, none, none, none, none, none, none, none, rfl, Ok.start h1, by simp, rfl, by simp [wt]; omega, by simp [wt]; omega⟩, ?_⟩
  rintro m Γ k ⟨ns, i, g4, g5, g6, g7, g8, g9, g10, g11, rfl, o, hi, hm, him, hk⟩
  have wl := wt_len o hi
  have fewN : ns.length ≤ 40 := by omega
  show (if decide ((i : Int) < (((ns.map eNd).length : Nat) : Int)) = true then _ else _)
  rw [List.length_map]
  by_cases c : i < ns.length
  · rw [decide_eq_true (p := ((i : Int) < ((ns.length : Nat) : Int))) (by omega)]
    obtain ⟨nd, hnd⟩ : ∃ nd, ns[i]? = some nd := ⟨ns[i], List.getElem?_eq_getElem c⟩
    have hat : (ns.map eNd)[i]? = some (eNd nd) := by rw [List.getElem?_map, hnd]; rfl
    obtain ⟨a1, a2, a3⟩ := o.all nd (List.mem_of_getElem? hnd)
    have hps := (o.new i nd Nat.le.refl hnd).1
    have e1 : eNd nd = .lst [.str nd.k, eN nd.st, eN nd.m, .lst [], dN nd.nums] := by rw [eNd, hps]; rfl
    rw [e1] at hat
    refine ⟨_, atI_nat hat, rfl, ?_⟩
    -- is it crossed
    have go : ∀ (E : TEn), (∀ Γ' n', (∃ m', m' < m ∧ InvN size n m' Γ' n') → E.nx Γ' n') → ∀ (cr : Bool) (k' : Nat), k ≤ k' + 1 → (cr = true → 4 ≤ nd.m) → (tlSq (tlIf (tlT (tlOp dGt (tlV 6) (tlC (.int 1)))) (tlSq (tlSet 10 (tlIfx (tlT (tlV 9)) (tlLst tlNil) (tlCall [true, true] S_heap (tlCons (tlV 0) (tlCons (tlV 6) tlNil))))) (tlSq (tlIf (tlT (tlV 9)) (tlSet 10 (tlCall [true, true, true] S_sizes (tlCons (tlV 0) (tlCons (tlV 6) (tlCons (tlOp dAdd (tlC (.int 4)) (tlCall [true, true] S_draw (tlCons (tlV 0) (tlCons (tlB dMin2 (tlCons (tlC (.int 3)) (tlCons (tlOp dSub (tlV 6) (tlC (.int 3))) tlNil))) tlNil)))) tlNil))))) tlNx) (tlSq (tlSet 8 (tlLRg1 (tlB dLen (tlCons (tlV 10) tlNil)))) (tlSq (tlIf (tlT (tlV 9)) (tlSet 8 (tlCall [true, true] S_one_of (tlCons (tlV 0) (tlCons (tlCall [true] S_crossed (tlCons (tlB dLen (tlCons (tlV 10) tlNil)) tlNil)) tlNil)))) tlNx) (tlSq (tlRel 10 (tlFor (tlSeq (tlV 10)) (.nm 11) (tlSq (tlSet 7 (tlOp dAdd (tlV 7) (tlLst (tlCons (tlB dLen (tlCons (tlV 2) tlNil)) tlNil)))) (tlSq (tlRel 11 (tlRel 5 (tlApp 2 (tlLst (tlCons (tlIfx (tlT (tlV 9)) (tlC (.str "any")) (tlIfx (tlT (tlOp dGt (tlV 11) (tlC (.int 1)))) (tlC (.str "crossed")) (tlC (.str "book")))) (tlCons (tlV 5) (tlCons (tlV 11) (tlCons (tlLst tlNil) (tlCons (tlLst tlNil) tlNil))))))))) (tlSet 5 (tlOp dAdd (tlV 5) (tlV 11))))))) (tlRel 8 (tlRel 7 (tlRel 6 (tlSetIx 2 (tlLst (tlCons (tlIfx (tlT (tlV 9)) (tlC (.str "crossed")) (tlC (.str "heap"))) (tlCons (tlOp dIx (tlOp dIx (tlV 2) (tlV 3)) (tlC (.int 1))) (tlCons (tlV 6) (tlCons (tlV 7) (tlCons (tlV 8) tlNil)))))) (tlV 3)))))))))) tlNx) (tlSet 3 (tlOp dAdd (tlV 3) (tlC (.int 1)))))
        E [some (.bor .purse), some (.val (eN size)), some (.new (.lst (ns.map eNd))), some (.val (eN i)), some (.val (.str nd.k)), some (.val (eN nd.st)), some (.val (eN nd.m)), some (.val (.lst [])), some (.val (dN nd.nums)), some (.val (.bl cr)), g10, g11] k' := by
      intro E hE cr k' hk' hcr
      have next : ∀ (ns' : List Nd) (k2 : Nat) (g4 g5 g6 g7 g8 g9 g10 g11 : Option Rv), Ok size (i + 1) ns' → i + 1 ≤ ns'.length → wt (ns'.drop (i + 1)) < wt (ns.drop i) → k ≤ k2 + 300 →
          E.nx [some (.bor .purse), some (.val (eN size)), some (.new (.lst (ns'.map eNd))), some (.val (eN (i + 1))), g4, g5, g6, g7, g8, g9, g10, g11] k2 := fun ns' k2 g4 g5 g6 g7 g8 g9 g10 g11 o' l' w' hk2 =>
        hE _ _ ⟨_, by rw [hm]; exact w', ns', i + 1, g4, g5, g6, g7, g8, g9, g10, g11, rfl, o', l', rfl, by omega, by omega⟩
      show (if decide ((1 : Int) < (nd.m : Int)) = true then _ else _)
      by_cases k1 : 1 < nd.m
      · rw [decide_eq_true (p := ((1 : Int) < (nd.m : Int))) (by omega)]
        have m20 : nd.m ≤ 20 := by omega
        cases cr with
        | true =>
          have m4 := hcr rfl
          refine ⟨rfl, small_len, ?_⟩
          refine ⟨rfl, min 3 (nd.m - 3), congrArg (fun z => [D.purse, D.int z]) (by omega), by omega, by omega, by omega, fun r hr => ?_⟩
          refine ⟨rfl, nd.m, 4 + r, rfl, by omega, by omega, m20, by omega, fun zs zl z1 zsum => ?_⟩
          have ll : ((zs.map eN).length : Int) = ((4 + r : Nat) : Int) := by rw [List.length_map, zl]
          have cross := cross_ok (m := (zs.map eN).length) (by rw [List.length_map]; omega) (by rw [List.length_map]; omega)
          rw [List.length_map] at cross
          have lz : (zs.map eN).length = zs.length := List.length_map _
          refine ⟨by omega, by omega, ?_⟩
          refine ⟨rfl, (zs.map eN).length, rfl, rfl, (crossRows (zs.map eN).length).map dN, rfl, ?_, ?_, by omega, fun x hx => ?_⟩
          · rw [lz]
            simpa using cross.1
          · rw [List.length_map]
            unfold crossRows
            split
            · decide
            · split <;> decide
          · obtain ⟨nums, hnums, rfl⟩ := List.mem_map.1 hx
            rw [lz] at hnums
            have two : 2 ≤ zs.length := by omega
            obtain ⟨o', w'⟩ := o.step (cr := true) hnd (by omega) (fun _ => m4) zsum two z1 (fun e => by cases e) (cross.2 nums hnums) (fun e => by cases e)
            refine nodes_tail (zs := zs) (nums := nums) (kk := nd.k) (cr := true) (s8 := .val (dN nums)) (size := size) hnd (.inl rfl) (by omega) fun g5 g7 g8 g11 => ?_
            exact next _ _ _ _ _ _ _ _ _ _ o' (by rw [List.length_set, List.length_append]; omega) w' (by omega)
        | false =>
          refine ⟨rfl, nd.m, rfl, a1, m20, by omega, fun zs zb zsum z2 => ?_⟩
          have lz : (zs.map eN).length = zs.length := List.length_map _
          have two : 2 ≤ zs.length := z2 (by omega)
          have zl : zs.length ≤ zs.sum := len_sum zs fun z hz => by rcases zb z hz with e | e <;> omega
          refine ⟨by omega, by omega, ?_⟩
          obtain ⟨o', w'⟩ := o.step (cr := false) (nums := List.range zs.length) hnd (by omega) (fun e => by cases e) zsum two (fun z hz => by rcases zb z hz with e | e <;> omega) (fun _ => zb) (.refl _) (fun _ => rfl)
          have er : (rng 0 (((zs.map eN).length : Nat) : Int)).map D.int = (List.range zs.length).map eN := by
            rw [lz]
            simp [rng]
          show tailN _ [some (.bor .purse), some (.val (eN size)), some (.new (.lst (ns.map eNd))), some (.val (eN i)), some (.val (.str nd.k)), some (.val (eN nd.st)), some (.val (eN nd.m)), some (.val (.lst [])), some (.new (.lst ((rng 0 (((zs.map eN).length : Nat) : Int)).map D.int))), some (.val (.bl false)), some (.val (dN zs)), g11] _
          rw [er]
          refine nodes_tail (zs := zs) (nums := List.range zs.length) (kk := nd.k) (cr := false) (s8 := .new (dN (List.range zs.length))) (size := size) hnd (.inr rfl) (by omega) fun g5 g7 g8 g11 => ?_
          exact next _ _ _ _ _ _ _ _ _ _ o' (by rw [List.length_set, List.length_append]; omega) w' (by omega)
      · rw [decide_eq_false (p := ((1 : Int) < (nd.m : Int))) (by omega)]
        obtain ⟨o', w'⟩ := o.skip hnd (by omega)
        exact next ns _ _ _ _ _ _ _ _ _ o' (by omega) w' (by omega)
    show (if decide (nd.k = "crossed") = true then _ else _)
    by_cases kc : nd.k = "crossed"
    · rw [decide_eq_true kc]
      exact go _ (fun _ _ z => z) true k (by omega) fun _ => a3 kc
    · rw [decide_eq_false kc]
      show (if decide (nd.k = "any") = true then _ else _)
      by_cases ka : nd.k = "any"
      · rw [decide_eq_true ka]
        show (if decide ((3 : Int) < (nd.m : Int)) = true then _ else _)
        by_cases k3 : 3 < nd.m
        · rw [decide_eq_true (p := ((3 : Int) < (nd.m : Int))) (by omega)]
          refine ⟨rfl, 3, rfl, by omega, by omega, by omega, fun r hr => ?_⟩
          exact go _ (fun _ _ z => z) (decide ((r : Int) = 0)) _ (by omega) fun _ => by omega
        · rw [decide_eq_false (p := ((3 : Int) < (nd.m : Int))) (by omega)]
          exact go _ (fun _ _ z => z) false k (by omega) fun e => by cases e
      · rw [decide_eq_false ka]
        exact go _ (fun _ _ z => z) false k (by omega) fun e => by cases e
  · rw [decide_eq_false (p := ((i : Int) < ((ns.length : Nat) : Int))) (by omega)]
    have e : i = ns.length := by omega
    subst e
    exact ⟨n - 20000, by omega, h ns o fewN⟩
end TL

-- T9
set_option Elab.async false
set_option linter.all false
set_option maxRecDepth 100000
set_option maxHeartbeats 400000
/-! T9: worlds, turns -/
namespace TL
open L2 PyProof.Rows PySem PySem.Spec TS RZ
/-- a catalogue and a row -/
@[reducible] def dW (xs ys : List Str) : D := .lst [dS xs, dS ys]
def S_shelf : ST := fun ds n R => ∃ xs ys : List Str, ds = [dW xs ys] ∧ Cat xs ∧ Row xs ys ∧ R (.new (.sh xs ys)) n
theorem tree_w_shelf : ∀ ds n R, S_shelf ds n R → B_w_shelf (ends R) (slots [true] ds 0) n := by
  rintro _ n R ⟨xs, ys, rfl, cat, row, h⟩
  exact ⟨dS xs, atI_nat (j := 0) rfl, dS ys, atI_nat (j := 1) rfl, xs, ys, rfl, rfl, cat, row, rfl, dn_of h⟩
def S_world_of : ST := fun ds n R => ∃ xs ys : List Str, ds = [.sh xs ys] ∧ R (.new (dW xs ys)) n
def S_wranks : ST := fun ds n R => ∃ xs ys : List Str, ds = [dW xs ys] ∧ (∀ y ∈ ys, y ∈ xs) ∧ ys.length ≤ 1000 ∧ R (.new (dI (rnk xs ys))) n
theorem tree_w_ranks : ∀ ds n R, S_wranks ds n R → B_w_ranks (ends R) (slots [true] ds 1) n := by
  rintro _ n R ⟨xs, ys, rfl, sub, few, h⟩
  refine ⟨dS ys, atI_nat (j := 1) rfl, by show (ys.map D.str).length ≤ _; rw [List.length_map]; omega, ?_⟩
  refine lcF_map (f := fun y : Str => D.int ((xs.idxOf y : Nat) : Int)) (fun y hy n R hR => ?_) ?_
  · exact ⟨dS xs, atI_nat (j := 0) rfl, xs, rfl, sub y hy, hR (.val _) rfl rfl⟩
  · refine ⟨rfl, ?_⟩
    have := dn_of h
    rw [dI, rnk, List.map_map] at this
    exact this
def S_many : ST := fun ds n R => ds = [.purse] ∧ 2 ≤ n ∧ ∀ m : Nat, 1 ≤ m → m ≤ 12 → R (.val (.int m)) (n - 2)
/-! ### overlapping -/
def ovl (a b : List Str) : Bool := decide (0 < (a.filter fun y => decide (y ∈ b)).length) && decide ((a.filter fun y => decide (y ∈ b)).length < min a.length b.length)
def S_overlap : ST := fun ds n R => ∃ a b : List Str, ds = [tS a, tS b] ∧ a.length ≤ 1000 ∧ b.length ≤ 1000 ∧ R (.val (.bl (ovl a b))) n
theorem chain_of {f g : D → D → (Rv → Prop) → Prop} {T U V1 : TX} {Γ : Gm} {n : Nat} {R : Rv → Nat → Prop} {x y : Rv} {b : Bool} (hT : ∀ R', R' x n → T Γ n R') (hU : ∀ R', R' y n → U Γ n R') (hf : ∀ R', R' (.val (.bl b)) → f x.d y.d R')
    (h : if b = true then V1 Γ n (fun z n3 => g y.d z.d fun r => R r n3) else R (.val (.bl false)) n) : tlChain f g T U V1 Γ n R := by
  refine hT _ (hU _ (hf _ ?_))
  cases b <;> exact h
theorem tree_w_overlap : ∀ ds n R, S_overlap ds n R → B_w_overlap (ends R) (slots [true, true] ds 2) n := by
  rintro _ n R ⟨a, b, rfl, la, lb, h⟩
  refine ⟨by show (a.map D.str).length ≤ _; rw [List.length_map]; omega, ?_⟩
  refine lcF_filter (f := fun y : Str => D.str y) (b := fun y => decide (y ∈ b)) (fun y _ n R hR => ?_) (fun y _ _ n R hR => hR (.val (.str y)) rfl rfl) ?_
  · refine ⟨rfl, plns_str b, dep_ok b, ?_⟩
    rw [← any_str] at hR
    exact hR
  · have fin := dn_of h
    have e1 : (([] : List D) ++ (a.filter fun y => decide (y ∈ b)).map D.str).length = (a.filter fun y => decide (y ∈ b)).length := by simp
    generalize hc : a.filter (fun y => decide (y ∈ b)) = c at e1 fin ⊢
    refine chain_of (f := dLt) (g := dLt) (T := tlC (.int 0)) (U := tlB dLen (tlCons (tlV 2) tlNil)) (V1 := tlB dMin2 (tlCons (tlB dLen (tlCons (tlV 0) tlNil)) (tlCons (tlB dLen (tlCons (tlV 1) tlNil)) tlNil))) (Γ := [some (.bor (tS a)), some (.bor (tS b)), some (.new (.lst ([] ++ c.map D.str))), none]) (x := .val (.int 0)) (y := .val (.int (([] ++ c.map D.str : List D).length : Nat))) (b := decide (0 < c.length)) (fun _ z => z) (fun _ z => z) (fun R' z => ?_) ?_
    · show R' (.val (.bl (decide ((0 : Int) < ((([] : List D) ++ c.map D.str).length : Nat)))))
      rw [e1, show decide ((0 : Int) < (c.length : Nat)) = decide (0 < c.length) from decide_eq_decide.2 (by omega)]
      exact z
    · unfold ovl at fin
      rw [hc] at fin
      cases h0 : decide (0 < c.length) with
      | false =>
        rw [h0] at fin
        exact ⟨rfl, fin⟩
      | true =>
        rw [h0, Bool.true_and] at fin
        have e3 : decide (((([] : List D) ++ c.map D.str).length : Int) < min (((a.map D.str).length : Nat) : Int) (((b.map D.str).length : Nat) : Int)) = decide (c.length < min a.length b.length) := by
          rw [e1, List.length_map, List.length_map]
          exact decide_eq_decide.2 (by omega)
        rw [← e3] at fin
        exact ⟨rfl, fin⟩
end TL

-- T10
set_option Elab.async false
set_option linter.all false
set_option maxRecDepth 100000
set_option maxHeartbeats 400000
/-! T10: a turn, by the law's own look at places -/
namespace TL
open L2 PyProof.Rows PySem PySem.Spec TS RZ
theorem rng_nat (k : Nat) : (rng 0 ((k : Nat) : Int)).map D.int = (List.range k).map eN := by simp [rng]
/-- where the items of a stretch stand -/
theorem places_of {b : Str → Bool} {l m r : List Str} (hl : ∀ y ∈ l, b y = false) (hm : ∀ y ∈ m, b y = true) (hr : ∀ y ∈ r, b y = false) :
    (List.range (l ++ m ++ r).length).filter (fun i => match (l ++ m ++ r)[i]? with | some y => b y | none => false) = (List.range m.length).map (l.length + ·) := by
  rw [List.length_append, List.length_append, List.range_add, List.range_add, List.filter_append, List.filter_append]
  have f1 : (List.range l.length).filter (fun i => match (l ++ m ++ r)[i]? with | some y => b y | none => false) = [] := by
    refine List.filter_eq_nil_iff.2 fun i hi => ?_
    have lt := List.mem_range.1 hi
    rw [List.append_assoc, List.getElem?_append_left lt, List.getElem?_eq_getElem lt]
    simp only [hl _ (List.getElem_mem lt)]
    simp
  have f2 : ((List.range m.length).map fun x => l.length + x).filter (fun i => match (l ++ m ++ r)[i]? with | some y => b y | none => false) = (List.range m.length).map fun x => l.length + x := by
    refine List.filter_eq_self.2 fun i hi => ?_
    obtain ⟨j, hj, rfl⟩ := List.mem_map.1 hi
    have lt := List.mem_range.1 hj
    rw [List.append_assoc, List.getElem?_append_right (by omega), show l.length + j - l.length = j by omega, List.getElem?_append_left lt, List.getElem?_eq_getElem lt]
    exact hm _ (List.getElem_mem lt)
  have f3 : ((List.range r.length).map fun x => l.length + m.length + x).filter (fun i => match (l ++ m ++ r)[i]? with | some y => b y | none => false) = [] := by
    refine List.filter_eq_nil_iff.2 fun i hi => ?_
    obtain ⟨j, hj, rfl⟩ := List.mem_map.1 hi
    have lt := List.mem_range.1 hj
    rw [List.getElem?_append_right (by rw [List.length_append]; omega), List.length_append, show l.length + m.length + j - (l.length + m.length) = j by omega, List.getElem?_eq_getElem lt]
    simp only [hr _ (List.getElem_mem lt)]
    simp
  rw [f1, f2, f3, List.nil_append, List.append_nil]
theorem cut_pre {α : Type} {l s : List α} : cutL (l ++ s) none (some ((l.length : Nat) : Int)) = l := by
  unfold cutL
  rw [sIx_n (by simp)]
  simp [HT.sIx]
theorem cut_mid {α : Type} {l m r : List α} : cutL (l ++ m ++ r) (some ((l.length : Nat) : Int)) (some (((l.length + m.length : Nat) : Nat) : Int)) = m := by
  unfold cutL
  rw [sIx_n (by simp), sIx_n (by simp)]
  simp [List.append_assoc]
theorem cut_suf {α : Type} {l r : List α} : cutL (l ++ r) (some ((l.length : Nat) : Int)) none = r := by
  unfold cutL
  rw [sIx_n (by simp)]
  simp [HT.sIx]
def S_turn : ST := fun ds n R => ∃ (xs run l m r : List Str), ds = [dW xs (l ++ m ++ r), tS run] ∧ m ≠ [] ∧ (∀ y ∈ l, y ∉ run) ∧ (∀ y ∈ m, y ∈ run) ∧ (∀ y ∈ r, y ∉ run) ∧ (l ++ m ++ r).length ≤ 1000 ∧ R (.new (dW xs (l ++ m.reverse ++ r))) n
theorem tree_w_turn : ∀ ds n R, S_turn ds n R → B_w_turn (ends R) (slots [true, true] ds 6) n := by
  rintro _ n R ⟨xs, run, l, m, r, rfl, ne, hl, hm, hr, few, h⟩
  refine ⟨rfl, ?_⟩
  have lm : 0 < m.length := List.length_pos_iff.2 ne
  have len : (((l ++ m ++ r).map D.str).length : Int) = (((l ++ m ++ r).length : Nat) : Int) := by rw [List.length_map]
  refine ⟨by rw [len]; omega, by rw [len]; omega, by rw [len]; simp [rng]; simp at few; omega, ?_⟩
  show lcF _ _ _ _ ((rng 0 (((l ++ m ++ r).map D.str).length : Nat)).map D.int) _ _ _
  rw [List.length_map, rng_nat]
  refine lcF_filter (f := fun i : Nat => eN i) (b := fun i => match (l ++ m ++ r)[i]? with | some y => decide (y ∈ run) | none => false) (fun i hi n R hR => ?_) (fun i _ _ n R hR => hR (.val (eN i)) rfl rfl) ?_
  · have lt := List.mem_range.1 hi
    rw [List.getElem?_eq_getElem lt] at hR
    have hx : ((l ++ m ++ r).map D.str)[i]? = some (.str (l ++ m ++ r)[i]) := by rw [List.getElem?_map, List.getElem?_eq_getElem lt]; rfl
    refine ⟨_, atI_nat hx, rfl, plns_str run, dep_ok run, ?_⟩
    have hR' : R (decide ((l ++ m ++ r)[i] ∈ run)) n := hR
    rw [← any_str] at hR'
    exact hR'
  · rw [places_of (b := fun y => decide (y ∈ run)) (fun y hy => decide_eq_false (hl y hy)) (fun y hy => decide_eq_true (hm y hy)) (fun y hy => decide_eq_false (hr y hy)), List.nil_append]
    have h0 : (((List.range m.length).map (l.length + ·)).map eN)[0]? = some (eN l.length) := by simp [lm]
    have h1 : atI (((List.range m.length).map (l.length + ·)).map eN) (-1) = some (eN (l.length + (m.length - 1))) := by
      rw [show m.length = (m.length - 1) + 1 by omega, List.range_succ, List.map_append, List.map_append]
      exact atI_last _ _
    refine ⟨eN l.length, atI_nat (j := 0) h0, eN (l.length + (m.length - 1)), h1, ?_⟩
    have hm1 : ((l.length + (m.length - 1) : Nat) : Int) + 1 = (((l.map D.str).length + (m.map D.str).length : Nat) : Int) := by rw [List.length_map, List.length_map]; omega
    have hm2 : ((l.length + (m.length - 1) : Nat) : Int) + 1 = (((l.map D.str ++ m.map D.str).length : Nat) : Int) := by rw [List.length_append, List.length_map, List.length_map]; omega
    have ll : ((l.length : Nat) : Int) = (((l.map D.str).length : Nat) : Int) := by rw [List.length_map]
    have c1 : cutL ((l ++ m ++ r).map D.str) none (some ((l.length : Nat) : Int)) = l.map D.str := by
      rw [ll, List.append_assoc, List.map_append]
      exact cut_pre
    have c2 : cutL ((l ++ m ++ r).map D.str) (some ((l.length : Nat) : Int)) (some (((l.length + (m.length - 1) : Nat) : Int) + 1)) = m.map D.str := by
      rw [hm1, ll, List.map_append, List.map_append]
      exact cut_mid
    have c3 : cutL ((l ++ m ++ r).map D.str) (some (((l.length + (m.length - 1) : Nat) : Int) + 1)) none = r.map D.str := by
      rw [hm2, List.map_append, List.map_append]
      exact cut_suf
    have fin := dn_of h
    have e : dW xs (l ++ m.reverse ++ r) = .lst [dS xs, .lst (cutL ((l ++ m ++ r).map D.str) none (some ((l.length : Nat) : Int)) ++ (cutL ((l ++ m ++ r).map D.str) (some ((l.length : Nat) : Int)) (some (((l.length + (m.length - 1) : Nat) : Int) + 1))).reverse ++ cutL ((l ++ m ++ r).map D.str) (some (((l.length + (m.length - 1) : Nat) : Int) + 1)) none)] := by
      rw [c1, c2, c3]
      simp only [dW, dS, List.map_append, List.map_reverse]
    have lens := few
    rw [List.length_append, List.length_append] at lens
    rw [e] at fin
    refine ⟨rfl, rfl, ?_, rfl, ?_, rfl, small_len, rfl, fin⟩
    · show (cutL ((l ++ m ++ r).map D.str) none (some ((l.length : Nat) : Int))).length + (cutL ((l ++ m ++ r).map D.str) (some ((l.length : Nat) : Int)) (some (((l.length + (m.length - 1) : Nat) : Int) + 1))).reverse.length ≤ 1000000
      rw [c1, c2, List.length_reverse, List.length_map, List.length_map]
      omega
    · show (cutL ((l ++ m ++ r).map D.str) none (some ((l.length : Nat) : Int)) ++ (cutL ((l ++ m ++ r).map D.str) (some ((l.length : Nat) : Int)) (some (((l.length + (m.length - 1) : Nat) : Int) + 1))).reverse).length + (cutL ((l ++ m ++ r).map D.str) (some (((l.length + (m.length - 1) : Nat) : Int) + 1)) none).length ≤ 1000000
      rw [c1, c2, c3, List.length_append, List.length_reverse, List.length_map, List.length_map, List.length_map]
      omega
end TL

-- T11
set_option Elab.async false
set_option linter.all false
set_option maxRecDepth 100000
set_option maxHeartbeats 400000
/-! T11: turns of stretches that do not overlap, in whatever order -/
namespace TL
open L2 PyProof.Rows PySem PySem.Spec TS RZ
/-- m is the stretch of S in l ++ m ++ r -/
structure Str3 (S l m r : List Str) : Prop where
  ne : m ≠ []
  hl : ∀ y ∈ l, y ∉ S
  hm : ∀ y ∈ m, y ∈ S
  hr : ∀ y ∈ r, y ∉ S
def Fits (S ys : List Str) : Prop := ∃ l m r, ys = l ++ m ++ r ∧ Str3 S l m r
def trn (S ys : List Str) : List Str :=
  ys.takeWhile (fun y => decide (y ∉ S)) ++ ((ys.dropWhile fun y => decide (y ∉ S)).takeWhile fun y => decide (y ∈ S)).reverse ++ (ys.dropWhile fun y => decide (y ∉ S)).dropWhile fun y => decide (y ∈ S)
theorem while_all {α : Type} {p : α → Bool} {l s : List α} (h : ∀ y ∈ l, p y = true) : (l ++ s).takeWhile p = l ++ s.takeWhile p ∧ (l ++ s).dropWhile p = s.dropWhile p := by
  induction l with
  | nil => exact ⟨rfl, rfl⟩
  | cons x r ih =>
    have hx := h x List.mem_cons_self
    obtain ⟨h1, h2⟩ := ih fun y hy => h y (List.mem_cons_of_mem _ hy)
    rw [List.cons_append, List.takeWhile_cons, List.dropWhile_cons, hx, if_pos rfl, if_pos rfl, h1, h2]
    exact ⟨rfl, rfl⟩
theorem while_none {α : Type} {p : α → Bool} {s : List α} (h : ∀ y ∈ s, p y = false) : s.takeWhile p = [] ∧ s.dropWhile p = s := by
  cases s with
  | nil => exact ⟨rfl, rfl⟩
  | cons x r =>
    rw [List.takeWhile_cons, List.dropWhile_cons, h x List.mem_cons_self]
    exact ⟨rfl, rfl⟩
theorem Str3.trn {S l m r : List Str} (h : Str3 S l m r) : trn S (l ++ m ++ r) = l ++ m.reverse ++ r := by
  unfold TL.trn
  have a := while_all (p := fun y => decide (y ∉ S)) (l := l) (s := m ++ r) fun y hy => decide_eq_true (h.hl y hy)
  have b : ((m ++ r).takeWhile fun y => decide (y ∉ S)) = [] ∧ ((m ++ r).dropWhile fun y => decide (y ∉ S)) = m ++ r := by
    cases hm : m with
    | nil => exact absurd hm h.ne
    | cons x t =>
      have : x ∈ S := h.hm x (by rw [hm]; exact List.mem_cons_self)
      rw [List.cons_append, List.takeWhile_cons, List.dropWhile_cons, decide_eq_false (fun z => z this)]
      exact ⟨rfl, rfl⟩
  have c := while_all (p := fun y => decide (y ∈ S)) (l := m) (s := r) fun y hy => decide_eq_true (h.hm y hy)
  have d := while_none (p := fun y => decide (y ∈ S)) (s := r) fun y hy => decide_eq_false (h.hr y hy)
  have e : l ++ m ++ r = l ++ (m ++ r) := List.append_assoc _ _ _
  rw [e, a.1, a.2, b.1, b.2, c.1, c.2, d.1, d.2, List.append_nil, List.append_nil]
theorem Str3.rev {S l m r : List Str} (h : Str3 S l m r) : Str3 S l m.reverse r := ⟨by simpa using h.ne, h.hl, fun y hy => h.hm y (List.mem_reverse.1 hy), h.hr⟩
theorem Fits.trn {S ys : List Str} (h : Fits S ys) : Fits S (trn S ys) ∧ trn S (trn S ys) = ys := by
  obtain ⟨l, m, r, rfl, h⟩ := h
  rw [h.trn]
  refine ⟨⟨l, m.reverse, r, rfl, h.rev⟩, ?_⟩
  rw [h.rev.trn, List.reverse_reverse]
theorem Fits.perm {S ys : List Str} (h : Fits S ys) : (TL.trn S ys).Perm ys := by
  obtain ⟨l, m, r, rfl, h⟩ := h
  rw [h.trn]
  exact ((List.Perm.refl l).append (List.reverse_perm m)).append (.refl r)
/-- they do not overlap -/
def NO (S T : List Str) : Prop := (∀ y ∈ S, y ∉ T) ∨ (∀ y ∈ S, y ∈ T) ∨ ∀ y ∈ T, y ∈ S
theorem NO.symm {S T : List Str} (h : NO S T) : NO T S := h.elim (fun h => .inl fun y hy z => h y z hy) fun h => h.elim (fun h => .inr (.inr h)) fun h => .inr (.inl h)
def Both (S T ys : List Str) : Prop := Fits T (trn S ys) ∧ Fits S (trn T ys) ∧ trn T (trn S ys) = trn S (trn T ys)
theorem Both.symm {S T ys : List Str} (h : Both S T ys) : Both T S ys := ⟨h.2.1, h.1, h.2.2.symm⟩
theorem both_apart {S T a m1 b m2 c : List Str} (h1 : Str3 S a m1 (b ++ (m2 ++ c))) (h2 : Str3 T (a ++ m1 ++ b) m2 c) : Both S T (a ++ m1 ++ b ++ m2 ++ c) := by
  have e1 : a ++ m1 ++ b ++ m2 ++ c = a ++ m1 ++ (b ++ (m2 ++ c)) := by simp
  have t1 : trn S (a ++ m1 ++ b ++ m2 ++ c) = a ++ m1.reverse ++ b ++ m2 ++ c := by rw [e1, h1.trn]; simp
  have t2 : trn T (a ++ m1 ++ b ++ m2 ++ c) = a ++ m1 ++ b ++ m2.reverse ++ c := h2.trn
  have g2 : Str3 T (a ++ m1.reverse ++ b) m2 c := ⟨h2.ne, fun y hy => h2.hl y (by simp only [List.mem_append, List.mem_reverse] at hy ⊢; exact hy), h2.hm, h2.hr⟩
  have g1 : Str3 S a m1 (b ++ (m2.reverse ++ c)) := ⟨h1.ne, h1.hl, h1.hm, fun y hy => h1.hr y (by simp only [List.mem_append, List.mem_reverse] at hy ⊢; exact hy)⟩
  have e2 : a ++ m1 ++ b ++ m2.reverse ++ c = a ++ m1 ++ (b ++ (m2.reverse ++ c)) := by simp
  refine ⟨?_, ?_, ?_⟩
  · rw [t1]
    exact ⟨_, _, _, rfl, g2⟩
  · rw [t2, e2]
    exact ⟨_, _, _, rfl, g1⟩
  · rw [t1, t2, g2.trn, e2, g1.trn]
    simp
theorem both_in {S T l b m2 c r : List Str} (h1 : Str3 S l (b ++ m2 ++ c) r) (h2 : Str3 T (l ++ b) m2 (c ++ r)) : Both S T (l ++ (b ++ m2 ++ c) ++ r) := by
  have t1 : trn S (l ++ (b ++ m2 ++ c) ++ r) = (l ++ c.reverse) ++ m2.reverse ++ (b.reverse ++ r) := by rw [h1.trn]; simp
  have e2 : l ++ (b ++ m2 ++ c) ++ r = (l ++ b) ++ m2 ++ (c ++ r) := by simp
  have t2 : trn T (l ++ (b ++ m2 ++ c) ++ r) = l ++ (b ++ m2.reverse ++ c) ++ r := by rw [e2, h2.trn]; simp
  have g2 : Str3 T (l ++ c.reverse) m2.reverse (b.reverse ++ r) := by
    refine ⟨by simpa using h2.ne, fun y hy => ?_, fun y hy => h2.hm y (List.mem_reverse.1 hy), fun y hy => ?_⟩
    · rcases List.mem_append.1 hy with hy | hy
      · exact h2.hl y (List.mem_append_left _ hy)
      · exact h2.hr y (List.mem_append_left _ (List.mem_reverse.1 hy))
    · rcases List.mem_append.1 hy with hy | hy
      · exact h2.hl y (List.mem_append_right _ (List.mem_reverse.1 hy))
      · exact h2.hr y (List.mem_append_right _ hy)
  have g1 : Str3 S l (b ++ m2.reverse ++ c) r := by
    refine ⟨fun z => h2.ne (by simp at z; exact z.2.1), h1.hl, fun y hy => h1.hm y ?_, h1.hr⟩
    simp only [List.mem_append, List.mem_reverse] at hy ⊢
    exact hy
  refine ⟨?_, ?_, ?_⟩
  · rw [t1]
    exact ⟨_, _, _, rfl, g2⟩
  · rw [t2]
    exact ⟨_, _, _, rfl, g1⟩
  · rw [t1, t2, g2.trn, g1.trn]
    simp
theorem both_1 {S T l1 m1 r1 k m2 r2 : List Str} (h1 : Str3 S l1 m1 r1) (h2 : Str3 T (l1 ++ k) m2 r2) (no : NO S T) (e : m1 ++ r1 = k ++ (m2 ++ r2)) : Both S T (l1 ++ m1 ++ r1) := by
  rcases List.append_eq_append_iff.1 e with ⟨k', rfl, rfl⟩ | ⟨k', rfl, e2⟩
  · have := both_apart (a := l1) (m1 := m1) (b := k') (m2 := m2) (c := r2) h1 ⟨h2.ne, by rw [List.append_assoc]; exact h2.hl, h2.hm, h2.hr⟩
    rw [show l1 ++ m1 ++ (k' ++ (m2 ++ r2)) = l1 ++ m1 ++ k' ++ m2 ++ r2 by simp]
    exact this
  · rcases List.append_eq_append_iff.1 e2 with ⟨k'', rfl, rfl⟩ | ⟨k'', rfl, rfl⟩
    · have := both_in (S := S) (T := T) (l := l1) (b := k) (m2 := m2) (c := k'') (r := r1) (by rw [List.append_assoc]; exact h1) h2
      rw [show l1 ++ (k ++ (m2 ++ k'')) ++ r1 = l1 ++ (k ++ m2 ++ k'') ++ r1 by simp]
      exact this
    · by_cases z1 : k' = []
      · subst z1
        rw [List.append_nil] at h1 ⊢
        have := both_apart (a := l1) (m1 := k) (b := []) (m2 := k'') (c := r2) h1 ⟨h2.ne, by rw [List.append_nil]; exact h2.hl, h2.hm, h2.hr⟩
        rw [List.append_nil] at this
        rw [← List.append_assoc]
        exact this
      · by_cases z2 : k = []
        · subst z2
          rw [List.nil_append] at h1 ⊢
          rw [List.append_nil] at h2
          have := both_in (S := T) (T := S) (l := l1) (b := []) (m2 := k') (c := k'') (r := r2) h2 (by rw [List.append_nil]; exact h1)
          rw [List.nil_append] at this
          rw [show l1 ++ k' ++ (k'' ++ r2) = l1 ++ (k' ++ k'') ++ r2 by simp]
          exact this.symm
        · by_cases z3 : k'' = []
          · subst z3
            rw [List.append_nil] at h2
            rw [List.nil_append] at h1 ⊢
            have := both_in (S := S) (T := T) (l := l1) (b := k) (m2 := k') (c := []) (r := r2) (by rw [List.append_nil]; exact h1) h2
            rw [List.append_nil] at this
            exact this
          · exfalso
            obtain ⟨x, hx⟩ := List.exists_mem_of_ne_nil _ z1
            obtain ⟨y, hy⟩ := List.exists_mem_of_ne_nil _ z2
            obtain ⟨z, hz⟩ := List.exists_mem_of_ne_nil _ z3
            have xS := h1.hm x (List.mem_append_right _ hx)
            have xT := h2.hm x (List.mem_append_left _ hx)
            have yS := h1.hm y (List.mem_append_left _ hy)
            have yT := h2.hl y (List.mem_append_right _ hy)
            have zT := h2.hm z (List.mem_append_right _ hz)
            have zS := h1.hr z (List.mem_append_left _ hz)
            rcases no with no | no | no
            · exact no x xS xT
            · exact yT (no y yS)
            · exact zS (no z zT)
theorem Fits.both {S T ys : List Str} (h1 : Fits S ys) (h2 : Fits T ys) (no : NO S T) : Both S T ys := by
  obtain ⟨l1, m1, r1, rfl, s1⟩ := h1
  obtain ⟨l2, m2, r2, e, s2⟩ := h2
  have e' := e
  rw [List.append_assoc, List.append_assoc] at e'
  rcases List.append_eq_append_iff.1 e' with ⟨k, rfl, e2⟩ | ⟨k, rfl, e2⟩
  · exact both_1 s1 s2 no e2
  · rw [e]
    exact (both_1 s2 s1 no.symm e2).symm
/-! ### lots -/
structure Lot (ys : List Str) (L : List (List Str)) : Prop where
  fits : ∀ S ∈ L, Fits S ys
  no : ∀ S ∈ L, ∀ T ∈ L, NO S T
def led (ys : List Str) (L : List (List Str)) : List Str := L.foldl (fun z S => trn S z) ys
theorem Lot.turn {ys S : List Str} {L : List (List Str)} (h : Lot ys L) (hS : S ∈ L) : Lot (trn S ys) L :=
  ⟨fun T hT => ((h.fits S hS).both (h.fits T hT) (h.no S hS T hT)).1, h.no⟩
theorem Lot.led {ys : List Str} {L : List (List Str)} (h : Lot ys L) : ∀ {M : List (List Str)}, (∀ S ∈ M, S ∈ L) → Lot (led ys M) L := by
  intro M
  induction M generalizing ys with
  | nil => intro _; exact h
  | cons S r ih => intro hM; exact ih (h.turn (hM S List.mem_cons_self)) fun T hT => hM T (List.mem_cons_of_mem _ hT)
theorem Lot.order {L M M' : List (List Str)} (pm : M.Perm M') : ∀ {ys : List Str}, Lot ys L → (∀ S ∈ M, S ∈ L) → TL.led ys M = TL.led ys M' := by
  induction pm with
  | nil => intro ys _ _; rfl
  | cons S _ ih => intro ys h hM; exact ih (h.turn (hM S List.mem_cons_self)) fun T hT => hM T (List.mem_cons_of_mem _ hT)
  | swap S T l =>
    intro ys h hM
    have b := (h.fits S (hM S (by simp))).both (h.fits T (hM T (by simp))) (h.no S (hM S (by simp)) T (hM T (by simp)))
    show l.foldl _ (trn S (trn T ys)) = l.foldl _ (trn T (trn S ys))
    rw [b.2.2]
  | trans p _ ih1 ih2 => intro ys h hM; rw [ih1 h hM]; exact ih2 h fun S hS => hM S (p.mem_iff.2 hS)
theorem led_rev {L : List (List Str)} : ∀ {M : List (List Str)} {ys : List Str}, Lot ys L → (∀ S ∈ M, S ∈ L) → led (led ys M) M.reverse = ys := by
  intro M
  induction M with
  | nil => intro ys _ _; rfl
  | cons S r ih =>
    intro ys h hM
    rw [List.reverse_cons]
    unfold TL.led
    rw [List.foldl_append]
    have := ih (h.turn (hM S List.mem_cons_self)) fun T hT => hM T (List.mem_cons_of_mem _ hT)
    unfold TL.led at this
    show trn S ((r.reverse).foldl (fun z S => trn S z) (r.foldl (fun z S => trn S z) (trn S ys))) = ys
    rw [this]
    exact (h.fits S (hM S List.mem_cons_self)).trn.2
/-- there and back, in whatever order -/
theorem Lot.back {ys : List Str} {L M M' : List (List Str)} (h : Lot ys L) (hM : ∀ S ∈ M, S ∈ L) (pm : M'.Perm M) : TL.led (TL.led ys M) M' = ys := by
  rw [(h.led hM).order (pm.trans (List.reverse_perm M).symm) fun S hS => hM S (pm.mem_iff.1 hS)]
  exact led_rev h hM
theorem Lot.perm {L : List (List Str)} : ∀ {M : List (List Str)} {ys : List Str}, Lot ys L → (∀ S ∈ M, S ∈ L) → (TL.led ys M).Perm ys := by
  intro M
  induction M with
  | nil => intro ys _ _; exact .refl _
  | cons S r ih =>
    intro ys h hM
    exact (ih (h.turn (hM S List.mem_cons_self)) fun T hT => hM T (List.mem_cons_of_mem _ hT)).trans (h.fits S (hM S List.mem_cons_self)).perm
end TL

-- T12
set_option Elab.async false
set_option linter.all false
set_option maxRecDepth 100000
set_option maxHeartbeats 400000
/-! T12: the runs of a shelf, by the law's look at all stretches -/
namespace TL
open L2 PyProof.Rows PySem PySem.Spec TS RZ
def mn : List Nat → Nat
  | [] => 0
  | a :: r => r.foldl min a
def mx : List Nat → Nat
  | [] => 0
  | a :: r => r.foldl max a
theorem mn_snoc {s : List Nat} (h : s ≠ []) (x : Nat) : mn (s ++ [x]) = min (mn s) x := by
  cases s with
  | nil => exact absurd rfl h
  | cons a r => simp [mn, List.foldl_append]
theorem mx_snoc {s : List Nat} (h : s ≠ []) (x : Nat) : mx (s ++ [x]) = max (mx s) x := by
  cases s with
  | nil => exact absurd rfl h
  | cons a r => simp [mx, List.foldl_append]
theorem fold_min : ∀ (r : List Nat) (a : Nat), r.foldl min a ∈ a :: r ∧ ∀ y ∈ a :: r, r.foldl min a ≤ y
  | [], a => by simp
  | x :: r, a => by
    obtain ⟨h1, h2⟩ := fold_min r (min a x)
    rw [List.foldl_cons]
    refine ⟨?_, fun y hy => ?_⟩
    · rcases List.mem_cons.1 h1 with e | e
      · rw [e]
        rcases Nat.le_total a x with c | c
        · rw [Nat.min_eq_left c]; simp
        · rw [Nat.min_eq_right c]; simp
      · exact List.mem_cons_of_mem _ (List.mem_cons_of_mem _ e)
    · have h0 := h2 (min a x) List.mem_cons_self
      rcases List.mem_cons.1 hy with e | e
      · omega
      · rcases List.mem_cons.1 e with e | e
        · omega
        · exact h2 y (List.mem_cons_of_mem _ e)
theorem fold_max : ∀ (r : List Nat) (a : Nat), r.foldl max a ∈ a :: r ∧ ∀ y ∈ a :: r, y ≤ r.foldl max a
  | [], a => by simp
  | x :: r, a => by
    obtain ⟨h1, h2⟩ := fold_max r (max a x)
    rw [List.foldl_cons]
    refine ⟨?_, fun y hy => ?_⟩
    · rcases List.mem_cons.1 h1 with e | e
      · rw [e]
        rcases Nat.le_total a x with c | c
        · rw [Nat.max_eq_right c]; simp
        · rw [Nat.max_eq_left c]; simp
      · exact List.mem_cons_of_mem _ (List.mem_cons_of_mem _ e)
    · have h0 := h2 (max a x) List.mem_cons_self
      rcases List.mem_cons.1 hy with e | e
      · omega
      · rcases List.mem_cons.1 e with e | e
        · omega
        · exact h2 y (List.mem_cons_of_mem _ e)
theorem mn_ok {s : List Nat} (h : s ≠ []) : mn s ∈ s ∧ ∀ y ∈ s, mn s ≤ y := by
  cases s with
  | nil => exact absurd rfl h
  | cons a r => exact fold_min r a
theorem mx_ok {s : List Nat} (h : s ≠ []) : mx s ∈ s ∧ ∀ y ∈ s, y ≤ mx s := by
  cases s with
  | nil => exact absurd rfl h
  | cons a r => exact fold_max r a
/-- the run that a stretch of entries is, if it is one -/
def piece (xs : List Str) (s : List Nat) : Option (List Str) := if mx s + 1 = mn s + s.length then some ((xs.drop (mn s)).take s.length) else none
def cutE (es : List Nat) (b j : Nat) : List Nat := (es.drop b).take (j + 2)
def raw (xs : List Str) (es : List Nat) : List (List Str) := (List.range es.length).flatMap fun b => (List.range (es.length - (b + 1))).filterMap fun j => piece xs (cutE es b j)
def rk (xs ys : List Str) : List Nat := ys.map xs.idxOf
theorem rk_rnk (xs ys : List Str) : dI (rnk xs ys) = dN (rk xs ys) := by
  unfold dI rnk dN rk
  rw [List.map_map, List.map_map]
  rfl
structure IsRuns (xs ys : List Str) (rs : List (List Str)) : Prop where
  perm : rs.Perm (raw xs (rk xs ys))
  sort : rs.Pairwise fun x y => TSo.ltS y x = false
theorem IsRuns.uniq {xs ys : List Str} {rs rs' : List (List Str)} (h : IsRuns xs ys rs) (h' : IsRuns xs ys rs') : rs = rs' := TSo.sorted_uniq h.sort h'.sort (h.perm.trans h'.perm.symm)
theorem cutE_ne {es : List Nat} {b j : Nat} (h : b + j + 1 < es.length) : cutE es b j ≠ [] ∧ (cutE es b j).length = j + 2 := by
  have : (cutE es b j).length = j + 2 := by unfold cutE; rw [List.length_take, List.length_drop]; omega
  exact ⟨fun e => by rw [e] at this; simp at this, this⟩
theorem cutE_succ {es : List Nat} {b j x : Nat} (h : es[b + (j + 2)]? = some x) : cutE es b (j + 1) = cutE es b j ++ [x] := by
  unfold cutE
  rw [List.take_succ (i := j + 2), List.getElem?_drop, h]
  rfl
/-- the slots of the inner walk -/
def S_runs : ST := fun ds n R => ∃ xs ys : List Str, ds = [dW xs ys] ∧ xs ≠ [] ∧ (∀ y ∈ ys, y ∈ xs) ∧ ys.length ≤ 200 ∧ xs.length ≤ 200 ∧ ∀ rs, IsRuns xs ys rs → R (.new (.lst (rs.map tS))) n
theorem idx_lt {xs : List Str} {y : Str} (h : y ∈ xs) : xs.idxOf y < xs.length := List.idxOf_lt_length_iff.2 h
theorem piece_ne {xs : List Str} {s : List Nat} {t : List Str} (h : piece xs s = some t) (hs : s ≠ []) (hb : ∀ y ∈ s, y < xs.length) : t ≠ [] := by
  unfold piece at h
  split at h
  · obtain rfl := Option.some.inj h
    intro e
    have := congrArg List.length e
    have l1 := hb _ (mn_ok hs).1
    have : 0 < s.length := List.length_pos_iff.2 hs
    rw [List.length_take, List.length_drop, List.length_nil] at *
    omega
  · cases h
theorem cutE_sub {es : List Nat} {b j y : Nat} (h : y ∈ cutE es b j) : y ∈ es := List.mem_of_mem_drop (List.mem_of_mem_take h)
theorem raw_ne {xs : List Str} {es : List Nat} (hb : ∀ y ∈ es, y < xs.length) : ∀ t ∈ raw xs es, t ≠ [] := by
  intro t ht
  unfold raw at ht
  obtain ⟨b, hbb, ht⟩ := List.mem_flatMap.1 ht
  obtain ⟨j, hj, ht⟩ := List.mem_filterMap.1 ht
  have := List.mem_range.1 hj
  exact piece_ne ht (cutE_ne (by omega)).1 fun y hy => hb y (cutE_sub hy)
end TL

-- T13
set_option Elab.async false
set_option linter.all false
set_option maxRecDepth 100000
set_option maxHeartbeats 400000
/-! T13: the law's walk over all stretches -/
namespace TL
open L2 PyProof.Rows PySem PySem.Spec TS RZ
theorem rng_get {k i : Nat} {d : D} (h : ((rng 0 ((k : Nat) : Int)).map D.int)[i]? = some d) : i < k ∧ d = eN i := by
  rw [rng_nat] at h
  have lt := (List.getElem?_eq_some_iff.1 h).1
  rw [List.length_map, List.length_range] at lt
  refine ⟨lt, ?_⟩
  rw [List.getElem?_map, List.getElem?_eq_getElem (by simpa using lt), List.getElem_range] at h
  exact (Option.some.inj h).symm
theorem rng_get2 {a k i : Nat} {d : D} {lo : Int} (hlo : lo = (a : Int)) (h : ((rng lo ((k : Nat) : Int)).map D.int)[i]? = some d) : a + i < k ∧ d = eN (a + i) := by
  subst hlo
  have e : (rng (a : Int) (k : Int)).map D.int = (List.range (k - a)).map fun j => eN (a + j) := by
    unfold rng
    rw [List.map_map, show ((k : Int) - (a : Int)).toNat = k - a by omega]
    rfl
  rw [e] at h
  have lt := (List.getElem?_eq_some_iff.1 h).1
  rw [List.length_map, List.length_range] at lt
  refine ⟨by omega, ?_⟩
  rw [List.getElem?_map, List.getElem?_eq_getElem (by simpa using lt), List.getElem_range] at h
  exact (Option.some.inj h).symm
theorem cut_at {α : Type} {zs : List α} {a b : Nat} (h1 : a ≤ b) (h2 : b ≤ zs.length) : cutL zs (some (a : Int)) (some (b : Int)) = (zs.drop a).take (b - a) := by
  unfold cutL
  rw [sIx_n (by omega), sIx_n (by omega)]
theorem rnk_get {xs ys : List Str} {i x : Nat} (h : (rk xs ys)[i]? = some x) : ((rnk xs ys).map D.int)[i]? = some (eN x) := by
  have := congrArg (fun d => match d with | D.lst ds => ds[i]? | _ => none) (rk_rnk xs ys)
  have e : ((rnk xs ys).map D.int)[i]? = ((rk xs ys).map eN)[i]? := this
  rw [e, List.getElem?_map, h]
  rfl
/-- what has been found ahead of the i-th begin -/
def upTo (xs : List Str) (es : List Nat) (i : Nat) : List (List Str) := (List.range i).flatMap fun b => (List.range (es.length - (b + 1))).filterMap fun j => piece xs (cutE es b j)
theorem upTo_succ (xs : List Str) (es : List Nat) (i : Nat) : upTo xs es (i + 1) = upTo xs es i ++ (List.range (es.length - (i + 1))).filterMap fun j => piece xs (cutE es i j) := by
  unfold upTo
  rw [List.range_succ, List.flatMap_append]
  simp
theorem snoc_some (f : Nat → Option (List Str)) (j : Nat) : (List.range (j + 1)).filterMap f = (List.range j).filterMap f ++ (match f j with | some t => [t] | none => []) := by
  rw [List.range_succ, List.filterMap_append]
  cases h : f j <;> simp [h]
theorem tree_w_runs : ∀ ds n R, S_runs ds n R → B_w_runs S_wranks (ends R) (slots [true] ds 6) n := by
  rintro _ n R ⟨xs, ys, rfl, ne, sub, few, fewx, h⟩
  have bound : ∀ x ∈ rk xs ys, x < xs.length := fun x hx => by
    obtain ⟨y, hy, rfl⟩ := List.mem_map.1 hx
    exact idx_lt (sub y hy)
  have len : (rk xs ys).length = ys.length := by unfold rk; rw [List.length_map]
  have lenD : (((rnk xs ys).map D.int).length : Nat) = ys.length := by unfold rnk; simp
  generalize hes : rk xs ys = es at bound len
  refine ⟨rfl, xs, ys, rfl, sub, by omega, rfl, small_len, ?_⟩
  refine ⟨by rw [lenD]; omega, by rw [lenD]; omega, Nat.le_succ 1, ?_⟩
  refine forF_inv (j := 0) (fun i Γ k => k = n ∧ ∃ (acc : List (List Str)) (g3 g4 g5 g6 : Option Rv), Γ = [some (.bor (dW xs ys)), some (.new (dI (rnk xs ys))), some (.new (.lst (acc.map tS))), g3, g4, g5, g6] ∧ acc = upTo xs es i ∧ acc.length ≤ 200 * i) ⟨rfl, [], none, none, none, none, rfl, rfl, by simp⟩ ?_ ?_
  · rintro i d Γ k hd ⟨rfl, acc, g3, g4, g5, g6, rfl, hacc, hlen⟩
    have hd' : ((rng 0 ((ys.length : Nat) : Int)).map D.int)[i]? = some d := by rw [← lenD]; exact hd
    obtain ⟨lt, rfl⟩ := rng_get hd'
    simp only [Nat.zero_add] at hacc hlen ⊢
    refine ⟨_, rfl, fun kk hkk => ?_⟩
    obtain ⟨x0, hx0⟩ : ∃ x, es[i]? = some x := ⟨es[i], List.getElem?_eq_getElem (by omega)⟩
    have hx0' := rnk_get (hes ▸ hx0)
    refine ⟨eN x0, atI_nat hx0', eN x0, atI_nat hx0', ?_⟩
    refine ⟨⟨by omega, by omega, by rw [lenD]; omega, by rw [lenD]; omega⟩, Nat.le_succ 1, ?_⟩
    refine forF_inv (j := 0) (fun j Γ k' => k' = k ∧ ∃ (acc2 : List (List Str)) (z4 z5 : Int) (g6 : Option Rv), Γ = [some (.bor (dW xs ys)), some (.new (dI (rnk xs ys))), some (.new (.lst (acc2.map tS))), some (.val (eN i)), some (.val (.int z4)), some (.val (.int z5)), g6] ∧ z4 = (mn ((es.drop i).take (j + 1)) : Nat) ∧ z5 = (mx ((es.drop i).take (j + 1)) : Nat) ∧
      acc2 = acc ++ (List.range j).filterMap (fun j => piece xs (cutE es i j)) ∧ acc2.length ≤ 200 * i + j) ⟨rfl, acc, x0, x0, g6, rfl, ?_, ?_, by simp, by omega⟩ ?_ ?_
    · rw [drop_cons hx0]
      rfl
    · rw [drop_cons hx0]
      rfl
    · rintro j d Γ k' hd2 ⟨rfl, acc2, z4, z5, g6, rfl, h4, h5, hacc2, hlen2⟩
      have hd2' : ((rng ((i : Int) + 1) ((ys.length : Nat) : Int)).map D.int)[j]? = some d := by rw [← lenD]; exact hd2
      obtain ⟨lt2, rfl⟩ := rng_get2 (a := i + 1) (by omega) hd2'
      simp only [Nat.zero_add] at h4 h5 hacc2 hlen2 ⊢
      refine ⟨_, rfl, fun kk2 hkk2 => ?_⟩
      obtain ⟨x, hx⟩ : ∃ x, es[i + 1 + j]? = some x := ⟨es[i + 1 + j], List.getElem?_eq_getElem (by omega)⟩
      have hx' := rnk_get (hes ▸ hx)
      have st : (es.drop i).take (j + 1 + 1) = (es.drop i).take (j + 1) ++ [x] := by
        rw [List.take_succ (i := j + 1), List.getElem?_drop, show i + (j + 1) = i + 1 + j by omega, hx]
        rfl
      have stne : (es.drop i).take (j + 1) ≠ [] := by
        rw [drop_cons hx0]
        simp
      have m4 : min z4 (x : Int) = ((mn (cutE es i j) : Nat) : Int) := by
        rw [cutE, st, mn_snoc stne, h4]
        omega
      have m5 : max z5 (x : Int) = ((mx (cutE es i j) : Nat) : Int) := by
        rw [cutE, st, mx_snoc stne, h5]
        omega
      obtain ⟨cne, clen⟩ := cutE_ne (es := es) (b := i) (j := j) (by omega)
      have least := (mn_ok cne).2 _ (mx_ok cne).1
      have top := bound _ (cutE_sub (mx_ok cne).1)
      have done : ∀ acc3, acc3 = acc2 ++ (match piece xs (cutE es i j) with | some t => [t] | none => []) → kk2 [some (.bor (dW xs ys)), some (.new (dI (rnk xs ys))), some (.new (.lst (acc3.map tS))), some (.val (eN i)), some (.val (.int (min z4 (x : Int)))), some (.val (.int (max z5 (x : Int)))), some (.val (eN (i + 1 + j)))] k' := fun acc3 e3 => by
        refine hkk2 _ _ ⟨rfl, acc3, _, _, _, rfl, ?_, ?_, ?_, ?_⟩
        · rw [m4, cutE]
        · rw [m5, cutE]
        · rw [e3, hacc2, snoc_some, List.append_assoc]
        · rw [e3, List.length_append]
          have : (match piece xs (cutE es i j) with | some t => [t] | none => ([] : List (List Str))).length ≤ 1 := by split <;> simp
          omega
      refine ⟨eN x, atI_nat hx', eN x, atI_nat hx', ?_⟩
      show (if decide (max z5 (x : Int) - min z4 (x : Int) = ((i + 1 + j : Nat) : Int) - (i : Int)) = true then _ else _)
      by_cases c : mx (cutE es i j) + 1 = mn (cutE es i j) + (cutE es i j).length
      · rw [decide_eq_true (p := (max z5 (x : Int) - min z4 (x : Int) = ((i + 1 + j : Nat) : Int) - (i : Int))) (by rw [m4, m5]; omega)]
        have pc : piece xs (cutE es i j) = some ((xs.drop (mn (cutE es i j))).take (cutE es i j).length) := by unfold piece; rw [if_pos c]
        have sl : cutL (xs.map D.str) (some (min z4 (x : Int))) (some (max z5 (x : Int) + 1)) = ((xs.drop (mn (cutE es i j))).take (cutE es i j).length).map D.str := by
          rw [m4, m5, show ((mx (cutE es i j) : Nat) : Int) + 1 = ((mn (cutE es i j) + (cutE es i j).length : Nat) : Int) by omega, cut_at (by omega) (by rw [List.length_map]; omega)]
          rw [show mn (cutE es i j) + (cutE es i j).length - mn (cutE es i j) = (cutE es i j).length by omega, List.map_take, List.map_drop]
        have d3 := done (acc2 ++ [(xs.drop (mn (cutE es i j))).take (cutE es i j).length]) (by rw [pc])
        rw [List.map_append] at d3
        have e3 : ([(xs.drop (mn (cutE es i j))).take (cutE es i j).length].map tS) = [.tup (cutL (xs.map D.str) (some (min z4 (x : Int))) (some (max z5 (x : Int) + 1)))] := by rw [sl]; rfl
        rw [e3] at d3
        exact ⟨dS xs, atI_nat (j := 0) rfl, rfl, rfl, by rw [List.length_map]; omega, d3⟩
      · rw [decide_eq_false (p := (max z5 (x : Int) - min z4 (x : Int) = ((i + 1 + j : Nat) : Int) - (i : Int))) (by rw [m4, m5]; omega)]
        have pc : piece xs (cutE es i j) = none := by unfold piece; rw [if_neg c]
        exact done acc2 (by rw [pc, List.append_nil])
    · rintro Γ k' ⟨rfl, acc2, z4, z5, g6, rfl, h4, h5, hacc2, hlen2⟩
      have le : ((rng ((i : Int) + 1) (((rnk xs ys).map D.int).length : Nat)).map D.int).length = es.length - (i + 1) := by
        rw [lenD, len]
        simp [rng]
        omega
      rw [Nat.zero_add] at hacc2 hlen2
      have hacc2' : acc2 = upTo xs es (i + 1) := by rw [hacc2, hacc, upTo_succ]; exact congrArg _ (congrArg _ (congrArg _ le))
      have hl : acc2.length ≤ 200 * i + (es.length - (i + 1)) := Nat.le_trans hlen2 (Nat.le_of_eq (congrArg _ le))
      exact hkk _ _ ⟨rfl, acc2, _, _, _, _, rfl, hacc2', by omega⟩
  · rintro Γ k ⟨rfl, acc, g3, g4, g5, g6, rfl, hacc, hlen⟩
    have le : ((rng 0 (((rnk xs ys).map D.int).length : Nat)).map D.int).length = es.length := by
      rw [lenD, len]
      simp [rng]
    rw [Nat.zero_add] at hacc
    have hacc' : acc = raw xs es := by rw [hacc]; exact congrArg (upTo xs es) le
    refine .inr ⟨acc, rfl, ?_, fun yss pm srt => ⟨rfl, ?_⟩⟩
    · rw [hacc']
      exact raw_ne bound
    · refine dn_of (h yss ⟨?_, srt⟩)
      rw [hes, ← hacc']
      exact pm
end TL

-- T14
set_option Elab.async false
set_option linter.all false
set_option maxRecDepth 100000
set_option maxHeartbeats 400000
/-! T14: the runs of a shelf, as they are told -/
namespace TL
open L2 PyProof.Rows PySem PySem.Spec TS RZ
/-- a list of numbers -/
@[reducible] def dR (s : List Nat) : D := .lst (s.map eN)
theorem eN_ints (s : List Nat) : s.map eN = (s.map fun x : Nat => (x : Int)).map D.int := by
  rw [List.map_map]
  rfl
theorem the_mx {s : List Nat} (h : s ≠ []) {m : Int} (hm : m ∈ s.map fun x : Nat => (x : Int)) (hl : ∀ y, y ∈ (s.map fun x : Nat => (x : Int)) → y ≤ m) : m = ((mx s : Nat) : Int) := by
  obtain ⟨h1, h2⟩ := mx_ok h
  obtain ⟨x, hx, rfl⟩ := List.mem_map.1 hm
  have := hl _ (List.mem_map.2 ⟨_, h1, rfl⟩)
  have := h2 x hx
  omega
theorem the_mn {s : List Nat} (h : s ≠ []) {m : Int} (hm : m ∈ s.map fun x : Nat => (x : Int)) (hl : ∀ y, y ∈ (s.map fun x : Nat => (x : Int)) → m ≤ y) : m = ((mn s : Nat) : Int) := by
  obtain ⟨h1, h2⟩ := mn_ok h
  obtain ⟨x, hx, rfl⟩ := List.mem_map.1 hm
  have := hl _ (List.mem_map.2 ⟨_, h1, rfl⟩)
  have := h2 x hx
  omega
def S_gapless : ST := fun ds n R => ∃ s : List Nat, ds = [dR s] ∧ s ≠ [] ∧ R (.val (.bl (decide (mx s + 1 = mn s + s.length)))) n
theorem tree_are_gapless : ∀ ds n R, S_gapless ds n R → B_are_gapless (ends R) (slots [true] ds 0) n := by
  rintro _ n R ⟨s, rfl, ne, h⟩
  have pos : 0 < s.length := List.length_pos_iff.2 ne
  refine ⟨_, eN_ints s, by rw [List.length_map]; exact pos, fun a ha hal => ?_⟩
  refine ⟨_, eN_ints s, by rw [List.length_map]; exact pos, fun b hb hbl => ?_⟩
  have ea := the_mx ne ha hal
  have eb := the_mn ne hb hbl
  have fin := dn_of h
  have e : decide (a - b = (((s.map eN).length : Nat) : Int) - 1) = decide (mx s + 1 = mn s + s.length) := by
    rw [ea, eb, List.length_map]
    exact decide_eq_decide.2 (by omega)
  rw [← e] at fin
  exact ⟨rfl, fin⟩
def oT : Option (List Str) → D
  | some t => tS t
  | none => .non
def S_run_of : ST := fun ds n R => ∃ (xs : List Str) (s : List Nat), ds = [dS xs, dR s] ∧ s ≠ [] ∧ (∀ y ∈ s, y < xs.length) ∧ xs.length ≤ 1000 ∧ ∀ r : Rv, r.d = oT (piece xs s) → sto r = true → R r n
theorem tree_u_run_of_entries : ∀ ds n R, S_run_of ds n R → B_u_run_of_entries S_gapless (ends R) (slots [true, true] ds 1) n := by
  rintro _ n R ⟨xs, s, rfl, ne, hb, few, h⟩
  have pos : 0 < s.length := List.length_pos_iff.2 ne
  refine ⟨rfl, s, rfl, ne, ?_⟩
  show (if (!decide (mx s + 1 = mn s + s.length)) = true then _ else _)
  by_cases c : mx s + 1 = mn s + s.length
  · rw [decide_eq_true c]
    refine ⟨_, eN_ints s, by rw [List.length_map]; exact pos, fun a ha hal => ?_⟩
    have ea := the_mn ne ha hal
    subst ea
    have := hb _ (mx_ok ne).1
    have := (mx_ok ne).2 _ (mn_ok ne).1
    have sl : cutL (xs.map D.str) (some ((mn s : Nat) : Int)) (some (((mn s : Nat) : Int) + (((s.map eN).length : Nat) : Int))) = ((xs.drop (mn s)).take s.length).map D.str := by
      rw [List.length_map, show ((mn s : Nat) : Int) + ((s.length : Nat) : Int) = ((mn s + s.length : Nat) : Int) by omega, cut_at (by omega) (by rw [List.length_map]; omega)]
      rw [show mn s + s.length - mn s = s.length by omega, List.map_take, List.map_drop]
    have pc : piece xs s = some ((xs.drop (mn s)).take s.length) := by unfold piece; rw [if_pos c]
    have fin := dn_of (h (.new (.tup (cutL (xs.map D.str) (some ((mn s : Nat) : Int)) (some (((mn s : Nat) : Int) + (((s.map eN).length : Nat) : Int)))))) (by rw [pc, sl]; rfl) rfl)
    exact ⟨rfl, rfl, fin⟩
  · rw [decide_eq_false c]
    have pc : piece xs s = none := by unfold piece; rw [if_neg c]
    exact ⟨rfl, dn_of (h (.val .non) (by rw [pc]; rfl) rfl)⟩
section
variable {e : TX} {I1 : TIx} {Γ : Gm} {vs1 : List Nat}
/-- two clauses of pure parts -/
theorem lcF2_pure {α β : Type} {enc : α → D} {encb : β → D} {g : α → List β} {f : α → β → D} {i i1 : Nat} : ∀ {xs : List α} {acc : List D} {n : Nat} {k : List D → Nat → Prop},
    (∀ x ∈ xs, ∀ n R, R 2 ((g x).map encb) n → I1 (Γ.set i (some (.val (enc x)))) n R) →
    (∀ x ∈ xs, ∀ y ∈ g x, ∀ n R, (∀ r, r.d = f x y → sto r = true → R r n) → e ((wipeG (Γ.set i (some (.val (enc x)))) vs1).set i1 (some (.val (encb y)))) n R) →
    acc.length + (xs.flatMap g).length ≤ 1000000 → k (acc ++ xs.flatMap fun x => (g x).map (f x)) n → lcF2 (.nm i) tlYes I1 (.nm i1) tlYes e vs1 Γ (xs.map enc) acc n k
  | [], acc, n, k, _, _, _, h => by
    rw [List.flatMap_nil, List.append_nil] at h
    exact h
  | x :: r, acc, n, k, hi, he, few, h => by
    rw [List.flatMap_cons, List.length_append] at few
    refine hi x List.mem_cons_self n _ ⟨rfl, by rw [List.length_map]; omega, ?_⟩
    refine lcF_map (f := f x) (fun y hy n R hR => he x List.mem_cons_self y hy n R hR) ?_
    refine lcF2_pure (fun x hx => hi x (List.mem_cons_of_mem _ hx)) (fun x hx => he x (List.mem_cons_of_mem _ hx)) (by rw [List.length_append, List.length_map]; omega) ?_
    rw [List.append_assoc]
    exact h
end
end TL

-- T15
set_option Elab.async false
set_option linter.all false
set_option maxRecDepth 100000
set_option maxHeartbeats 400000
/-! T15: all runs, told -/
namespace TL
open L2 PyProof.Rows PySem PySem.Spec TS RZ
def S_all_runs : ST := fun ds n R => ∃ xs ys : List Str, ds = [.sh xs ys] ∧ Cat xs ∧ Row xs ys ∧ ∀ rs, IsRuns xs ys rs → R (.new (.lst (rs.map tS))) n
theorem keep_some : ∀ os : List (Option (List Str)), (os.filter Option.isSome).map oT = (os.filterMap id).map tS
  | [] => rfl
  | none :: r => by simpa using keep_some r
  | some t :: r => by
    have := keep_some r
    rw [List.filter_cons, Option.isSome_some, if_pos rfl, List.map_cons, this]
    rfl
def stret (es : List Nat) : List (List Nat) := (List.range es.length).flatMap fun b => (List.range (es.length - (b + 1))).map (cutE es b)
theorem stret_raw (xs : List Str) (es : List Nat) : (stret es).filterMap (piece xs) = raw xs es := by
  unfold stret raw
  rw [List.filterMap_flatMap]
  congr 1
  funext b
  rw [List.filterMap_map]
  rfl
theorem stret_mem {es s : List Nat} (h : s ∈ stret es) : s ≠ [] ∧ ∀ y ∈ s, y ∈ es := by
  obtain ⟨b, hb, h⟩ := List.mem_flatMap.1 h
  obtain ⟨j, hj, rfl⟩ := List.mem_map.1 h
  have := List.mem_range.1 hj
  exact ⟨(cutE_ne (by omega)).1, fun y hy => cutE_sub hy⟩
theorem flat_len {α : Type} (g : Nat → List α) (c : Nat) (hg : ∀ b, (g b).length ≤ c) : ∀ n, ((List.range n).flatMap g).length ≤ n * c
  | 0 => by simp
  | n + 1 => by
    have := flat_len g c hg n
    have := hg n
    rw [List.range_succ, List.flatMap_append, List.length_append, Nat.succ_mul, List.flatMap_cons, List.flatMap_nil, List.append_nil]
    omega
theorem tree_all_runs : ∀ ds n R, S_all_runs ds n R → B_all_runs S_ranks S_run_of (ends R) (slots [true] ds 9) n := by
  rintro _ n R ⟨xs, ys, rfl, cat, row, h⟩
  have few := cat.2.1
  have bound : ∀ x ∈ rk xs ys, x < xs.length := fun x hx => by
    obtain ⟨y, hy, rfl⟩ := List.mem_map.1 hx
    exact idx_lt (row.1 y hy)
  have len : (rk xs ys).length = ys.length := by unfold rk; rw [List.length_map]
  have lenD : (((rnk xs ys).map D.int).length : Nat) = ys.length := by unfold rnk; simp
  have rl := row.2.2
  have eqD : (rnk xs ys).map D.int = (rk xs ys).map eN := congrArg (fun d => match d with | D.lst ds => ds | _ => []) (rk_rnk xs ys)
  generalize hes : rk xs ys = es at bound len eqD
  refine ⟨rfl, xs, ys, rfl, cat, row, rfl, xs, ys, rfl, ?_⟩
  refine ⟨by rw [lenD]; omega, by rw [lenD]; omega, ?_⟩
  show lcF2 _ _ _ _ _ _ _ _ ((rng 0 (((rnk xs ys).map D.int).length : Nat)).map D.int) _ _ _
  rw [lenD, rng_nat]
  have fl : ((List.range ys.length).flatMap fun b => List.range (ys.length - (b + 1))).length ≤ 10000 := Nat.le_trans (flat_len _ 100 (fun b => by simp; omega) _) (by omega)
  refine lcF2_pure (enc := eN) (encb := eN) (g := fun b => (List.range (ys.length - (b + 1))).map (b + 2 + ·)) (f := fun b e => dR ((es.drop b).take (e - b))) (fun b hb n R hR => ?_) (fun b hb e he n R hR => ?_) ?_ ?_
  · have lt := List.mem_range.1 hb
    refine ⟨⟨by omega, by omega, by omega, by omega⟩, ?_⟩
    have e : (rng ((b : Int) + 2) (((ys.length : Nat) : Int) + 1)).map D.int = ((List.range (ys.length - (b + 1))).map (b + 2 + ·)).map eN := by
      unfold rng
      rw [List.map_map, List.map_map, show (((ys.length : Nat) : Int) + 1 - ((b : Int) + 2)).toNat = ys.length - (b + 1) by omega]
      rfl
    show R 2 ((rng ((b : Int) + 2) (((ys.length : Nat) : Int) + 1)).map D.int) n
    rw [e]
    exact hR
  · have lt := List.mem_range.1 hb
    obtain ⟨j, hj, rfl⟩ := List.mem_map.1 he
    have lj := List.mem_range.1 hj
    refine ⟨rfl, hR (.new (.lst (cutL ((rnk xs ys).map D.int) (some (b : Int)) (some ((b + 2 + j : Nat) : Int))))) ?_ rfl⟩
    show D.lst _ = _
    rw [cut_at (by omega) (by rw [lenD]; omega), eqD, ← List.map_drop, ← List.map_take]
  · rw [List.length_nil, Nat.zero_add]
    exact Nat.le_trans (flat_len _ 100 (fun b => by simp; omega) _) (by omega)
  · have eS : (List.range ys.length).flatMap (fun b => ((List.range (ys.length - (b + 1))).map (b + 2 + ·)).map fun e => dR ((es.drop b).take (e - b))) = (stret es).map dR := by
      unfold stret
      rw [List.map_flatMap, len]
      congr 1
      funext b
      rw [List.map_map, List.map_map]
      congr 1
      funext j
      show dR ((es.drop b).take (b + 2 + j - b)) = dR ((es.drop b).take (j + 2))
      rw [show b + 2 + j - b = j + 2 by omega]
    rw [List.nil_append, eS]
    have sl : (stret es).length ≤ 100000 := by
      unfold stret
      exact Nat.le_trans (flat_len _ 100 (fun b => by simp; omega) _) (by omega)
    refine ⟨by rw [List.length_map]; omega, ?_⟩
    refine lcF_map (f := fun s => oT (piece xs s)) (fun s hs n R hR => ?_) ?_
    · obtain ⟨s1, s2⟩ := stret_mem hs
      exact ⟨rfl, xs, s, rfl, s1, fun y hy => bound y (s2 y hy), by omega, hR⟩
    · rw [List.nil_append]
      refine ⟨by rw [List.length_map]; omega, ?_⟩
      show lcF _ _ _ _ ((stret es).map fun s => oT (piece xs s)) _ _ _
      have eo : (stret es).map (fun s => oT (piece xs s)) = ((stret es).map (piece xs)).map oT := by rw [List.map_map]; rfl
      rw [eo]
      refine lcF_filter (f := oT) (b := Option.isSome) (fun o _ n R hR => ?_) (fun o _ _ n R hR => hR (.val (oT o)) rfl rfl) ?_
      · cases o with
        | none => exact hR
        | some t => exact hR
      · rw [List.nil_append, keep_some, List.filterMap_map]
        have er : (stret es).filterMap (id ∘ piece xs) = raw xs es := stret_raw xs es
        rw [er]
        refine .inr ⟨raw xs es, rfl, raw_ne bound, fun yss pm srt => ⟨rfl, dn_of (h yss ⟨?_, srt⟩)⟩⟩
        rw [hes]
        exact pm
end TL

-- T16
set_option Elab.async false
set_option linter.all false
set_option maxRecDepth 100000
set_option maxHeartbeats 400000
/-! T16: which tuples are runs -/
namespace TL
open L2 PyProof.Rows PySem PySem.Spec TS RZ
theorem idx_eq {xs : List Str} {i : Nat} {z : Str} (nd : xs.Nodup) (h : xs[i]? = some z) : xs.idxOf z = i := by
  have at_ := (idx_at (List.mem_of_getElem? h)).1
  exact (List.getElem?_inj (List.getElem?_eq_some_iff.1 at_).1 nd).1 (at_.trans h.symm)
/-- a tuple of two books or more, neighbours in the catalogue, neighbours in the row -/
structure IsRun (xs ys t : List Str) : Prop where
  two : 2 ≤ t.length
  cat : ∃ a b, xs = a ++ t ++ b
  fits : Fits t ys
theorem sub_eq {m t : List Str} (nm : m.Nodup) (sub : ∀ y ∈ m, y ∈ t) (len : t.length ≤ m.length) : ∀ y ∈ t, y ∈ m := fun y hy => by
  apply Classical.byContradiction
  intro ny
  have := nodup_le (y :: m) t (List.nodup_cons.2 ⟨ny, nm⟩) fun z hz => (List.mem_cons.1 hz).elim (fun e => e ▸ hy) (sub z)
  rw [List.length_cons] at this
  omega
theorem raw_mem {xs ys t : List Str} (nd : xs.Nodup) (pm : ys.Perm xs) : t ∈ raw xs (rk xs ys) ↔ IsRun xs ys t := by
  have ndy : ys.Nodup := pm.nodup_iff.2 nd
  have len : (rk xs ys).length = ys.length := by unfold rk; rw [List.length_map]
  constructor
  · intro h
    unfold raw at h
    obtain ⟨b, hb, h⟩ := List.mem_flatMap.1 h
    obtain ⟨j, hj, h⟩ := List.mem_filterMap.1 h
    have lj := List.mem_range.1 hj
    rw [len] at lj
    have es : cutE (rk xs ys) b j = rk xs ((ys.drop b).take (j + 2)) := by unfold cutE rk; rw [List.map_take, List.map_drop]
    obtain ⟨sne, slen⟩ := cutE_ne (es := rk xs ys) (b := b) (j := j) (by omega)
    generalize hs : cutE (rk xs ys) b j = s at h es sne slen
    unfold piece at h
    split at h
    · next gap =>
      obtain rfl := Option.some.inj h
      have bound : ∀ x ∈ s, x < xs.length := fun x hx => by
        rw [es] at hx
        obtain ⟨y, hy, rfl⟩ := List.mem_map.1 hx
        exact idx_lt (pm.mem_iff.1 (List.mem_of_mem_drop (List.mem_of_mem_take hy)))
      have b1 := bound _ (mx_ok sne).1
      have tl : ((xs.drop (mn s)).take s.length).length = s.length := by rw [List.length_take, List.length_drop]; omega
      have ml : ((ys.drop b).take (j + 2)).length = s.length := by rw [es]; unfold rk; rw [List.length_map]
      have sub : ∀ y ∈ (ys.drop b).take (j + 2), y ∈ (xs.drop (mn s)).take s.length := fun y hy => by
        have hyx := pm.mem_iff.1 (List.mem_of_mem_drop (List.mem_of_mem_take hy))
        have hi : xs.idxOf y ∈ s := by rw [es]; exact List.mem_map.2 ⟨y, hy, rfl⟩
        have h1 := (mn_ok sne).2 _ hi
        have h2 := (mx_ok sne).2 _ hi
        refine List.mem_of_getElem? (i := xs.idxOf y - mn s) ?_
        rw [List.getElem?_take_of_lt (by omega), List.getElem?_drop, show mn s + (xs.idxOf y - mn s) = xs.idxOf y by omega]
        exact (idx_at hyx).1
      have back := sub_eq (ndy.sublist ((List.take_sublist _ _).trans (List.drop_sublist _ _))) sub (by omega)
      have split : ys = ys.take b ++ (ys.drop b).take (j + 2) ++ (ys.drop b).drop (j + 2) := by rw [List.append_assoc, List.take_append_drop, List.take_append_drop]
      have nd3 := ndy
      rw [split, List.append_assoc] at nd3
      obtain ⟨n1, n2, n3⟩ := List.nodup_append.1 nd3
      obtain ⟨n4, n5, n6⟩ := List.nodup_append.1 n2
      refine ⟨by omega, ⟨xs.take (mn s), (xs.drop (mn s)).drop s.length, by rw [List.append_assoc, List.take_append_drop, List.take_append_drop]⟩, _, _, _, split, ?_⟩
      exact ⟨fun e => by rw [e] at ml; simp at ml; omega, fun y hy z => n3 y hy y (List.mem_append_left _ (back y z)) rfl, sub, fun y hy z => n6 y (back y z) y hy rfl⟩
    · cases h
  · rintro ⟨two, ⟨a, b, hx⟩, l, m, r, hy, st⟩
    have ndt : t.Nodup := by
      rw [hx, List.append_assoc] at nd
      exact (List.nodup_append.1 (List.nodup_append.1 nd).2.1).1
    have ndm : m.Nodup := by
      rw [hy, List.append_assoc] at ndy
      exact (List.nodup_append.1 (List.nodup_append.1 ndy).2.1).1
    have tm : ∀ y ∈ t, y ∈ m := fun y ht => by
      have : y ∈ ys := pm.mem_iff.2 (by rw [hx]; exact List.mem_append_left _ (List.mem_append_right _ ht))
      rw [hy] at this
      rcases List.mem_append.1 this with h | h
      · rcases List.mem_append.1 h with h | h
        · exact absurd ht (st.hl y h)
        · exact h
      · exact absurd ht (st.hr y h)
    have ml : m.length = t.length := Nat.le_antisymm (nodup_le m t ndm st.hm) (nodup_le t m ndt tm)
    have idx : ∀ y ∈ t, a.length ≤ xs.idxOf y ∧ xs.idxOf y < a.length + t.length ∧ True := fun y ht => by
      obtain ⟨i, li, ei⟩ := List.getElem_of_mem ht
      have : xs.idxOf y = a.length + i := idx_eq nd (by
        rw [hx, List.append_assoc, List.getElem?_append_right (by omega), show a.length + i - a.length = i by omega, List.getElem?_append_left li, List.getElem?_eq_getElem li, ei])
      exact ⟨by omega, by omega, trivial⟩
    have at0 : ∀ i, i < t.length → ∃ y ∈ m, xs.idxOf y = a.length + i := fun i li => by
      refine ⟨t[i], tm _ (List.getElem_mem li), idx_eq nd ?_⟩
      rw [hx, List.append_assoc, List.getElem?_append_right (by omega), show a.length + i - a.length = i by omega, List.getElem?_append_left li, List.getElem?_eq_getElem li]
    have sne : rk xs m ≠ [] := fun e => by
      have := congrArg List.length e
      unfold rk at this
      rw [List.length_map] at this
      simp at this
      exact st.ne this
    have sl : (rk xs m).length = t.length := by unfold rk; rw [List.length_map, ml]
    have lo : mn (rk xs m) = a.length := by
      obtain ⟨h1, h2⟩ := mn_ok sne
      obtain ⟨y, hy1, e1⟩ := List.mem_map.1 h1
      obtain ⟨y0, hy0, e0⟩ := at0 0 (by omega)
      have := h2 (xs.idxOf y0) (List.mem_map.2 ⟨y0, hy0, rfl⟩)
      have := (idx y (st.hm y hy1)).1
      omega
    have hi : mx (rk xs m) + 1 = a.length + t.length := by
      obtain ⟨h1, h2⟩ := mx_ok sne
      obtain ⟨y, hy1, e1⟩ := List.mem_map.1 h1
      obtain ⟨y0, hy0, e0⟩ := at0 (t.length - 1) (by omega)
      have := h2 (xs.idxOf y0) (List.mem_map.2 ⟨y0, hy0, rfl⟩)
      have := (idx y (st.hm y hy1)).2.1
      omega
    have ly : ys.length = l.length + m.length + r.length := by rw [hy, List.length_append, List.length_append]
    unfold raw
    refine List.mem_flatMap.2 ⟨l.length, List.mem_range.2 (by rw [len]; omega), List.mem_filterMap.2 ⟨m.length - 2, List.mem_range.2 (by rw [len]; omega), ?_⟩⟩
    have ec : cutE (rk xs ys) l.length (m.length - 2) = rk xs m := by
      unfold cutE rk
      rw [hy, List.append_assoc, List.map_append, List.drop_append_of_le_length (by rw [List.length_map]; omega), List.drop_of_length_le (by rw [List.length_map]; omega), List.nil_append, List.map_append, show m.length - 2 + 2 = m.length by omega, List.take_append_of_le_length (by rw [List.length_map]; omega), List.take_of_length_le (by rw [List.length_map]; omega)]
    rw [ec]
    unfold piece
    rw [lo, sl, if_pos (by omega), hx, List.append_assoc, List.drop_append_of_le_length (by omega), List.drop_of_length_le (by omega), List.nil_append, List.take_append_of_le_length (by omega), List.take_of_length_le (by omega)]
theorem IsRuns.mem {xs ys : List Str} {rs : List (List Str)} (h : IsRuns xs ys rs) (nd : xs.Nodup) (pm : ys.Perm xs) {t : List Str} : t ∈ rs ↔ IsRun xs ys t := (h.perm.mem_iff).trans (raw_mem nd pm)
end TL

-- T17
set_option Elab.async false
set_option linter.all false
set_option maxRecDepth 100000
set_option maxHeartbeats 400000
/-! T17: a run turned by the program -/
namespace TL
open L2 PyProof.Rows PySem PySem.Spec TS RZ
theorem eqv_txts : ∀ a b : List Str, PyData.eqvAll (toPs (a.map D.str)) (toPs (b.map D.str)) = decide (a = b)
  | [], [] => by simp [PyData.eqvAll]
  | [], y :: b => by simp [PyData.eqvAll]
  | x :: a, [] => by simp [PyData.eqvAll]
  | x :: a, y :: b => by
    have ih := eqv_txts a b
    by_cases h : x = y <;> simp [PyData.eqvAll, PyData.eqv, ih, h]
theorem eqv_tup (a b : List Str) : PyData.eqv (toP (tS a)) (toP (tS b)) = decide (a = b) := by
  show PyData.eqv (.tuple (toPs (a.map D.str))) (.tuple (toPs (b.map D.str))) = _
  unfold PyData.eqv
  exact eqv_txts a b
theorem any_tup (t : List Str) : ∀ rs : List (List Str), ((rs.map tS).any fun z => PyData.eqv (toP z) (toP (tS t))) = decide (t ∈ rs)
  | [] => by simp
  | z :: r => by
    rw [List.map_cons, List.any_cons, any_tup t r, eqv_tup]
    by_cases h : z = t
    · subst h
      simp
    · have h' : ¬ t = z := fun q => h q.symm
      simp [h, h']
theorem plns_tup : ∀ rs : List (List Str), plns (rs.map tS) = true
  | [] => rfl
  | z :: r => by
    have := plns_tup r
    simp only [List.map_cons, plns, this, Bool.and_true]
    exact plns_str z
theorem deps_tup : ∀ rs : List (List Str), deps (rs.map tS) ≤ 1
  | [] => by simp
  | z :: r => by
    have := deps_tup r
    have h0 := deps_str z
    simp only [List.map_cons, deps, dep, h0]
    omega
theorem dep_tup (rs : List (List Str)) {k : Nat} : min (deps (rs.map tS)) k ≤ 60 := by
  have := deps_tup rs
  omega
def S_is_run : ST := fun ds n R => ∃ xs ys t : List Str, ds = [.sh xs ys, tS t] ∧ Cat xs ∧ Row xs ys ∧ ∀ b : Bool, (b = true ↔ IsRun xs ys t) → R (.val (.bl b)) n
theorem yes_of {P : Prop} {F : Bool → Prop} (run : P) (h : F true) : ∀ b : Bool, (b = true ↔ P) → F b := fun b hb => by
  rw [hb.2 run]
  exact h
theorem row_perm {xs ys : List Str} (cat : Cat xs) (row : Row xs ys) : ys.Perm xs := by
  have sub := sub_eq row.2.1 row.1 (Nat.le_of_eq row.2.2.symm)
  refine List.perm_iff_count.2 fun a => ?_
  rw [row.2.1.count, cat.2.2.2.count]
  by_cases h : a ∈ xs
  · rw [if_pos h, if_pos (sub a h)]
  · rw [if_neg h, if_neg fun z => h (row.1 a z)]
def S_check_run : ST := fun ds n R => ∃ xs ys t : List Str, ds = [.sh xs ys, tS t] ∧ Cat xs ∧ Row xs ys ∧ IsRun xs ys t ∧ R (.val .non) n
def S_turned : ST := fun ds n R => ∃ xs ys t : List Str, ds = [.sh xs ys, tS t] ∧ Cat xs ∧ Row xs ys ∧ IsRun xs ys t ∧ R (.new (.sh xs (trn t ys))) n
theorem Row.perm {xs ys zs : List Str} (row : Row xs ys) (p : zs.Perm ys) : Row xs zs := ⟨fun y hy => row.1 y (p.mem_iff.1 hy), p.nodup_iff.2 row.2.1, by rw [p.length_eq]; exact row.2.2⟩
end TL

-- T18
set_option Elab.async false
set_option linter.all false
set_option maxRecDepth 100000
set_option maxHeartbeats 400000
/-! T18: the home of a drawn core, as numbers -/
namespace TL
open L2 PyProof.Rows PySem PySem.Spec TS RZ
/-- the first entries of the leaves under node j -/
def lvs (ns : List Nd) : Nat → Nat → List Nat
  | 0, _ => []
  | f + 1, j => match ns[j]? with
    | none => []
    | some n => if n.ps = [] then [n.st] else n.nums.flatMap fun q => match n.ps[q]? with
      | some c => lvs ns f c
      | none => []
def kid (ns : List Nd) (f : Nat) (n : Nd) (q : Nat) : List Nat := match n.ps[q]? with
  | some c => lvs ns f c
  | none => []
theorem lvs_eq {ns : List Nd} {f j : Nat} {n : Nd} (h : ns[j]? = some n) : lvs ns (f + 1) j = if n.ps = [] then [n.st] else n.nums.flatMap (kid ns f n) := by
  rw [lvs, h]
  rfl
/-- more steps tell the same -/
theorem lvs_more {size i : Nat} {ns : List Nd} (o : Ok size i ns) : ∀ (f j : Nat), ns.length ≤ f + j → ∀ g, f ≤ g → lvs ns g j = lvs ns f j
  | 0, j, h, g, _ => by
    have e : ns[j]? = none := List.getElem?_eq_none (by omega)
    cases g with
    | zero => rfl
    | succ g => rw [lvs, lvs, e]
  | f + 1, j, h, g, hg => by
    obtain ⟨g, rfl⟩ : ∃ k, g = k + 1 := ⟨g - 1, by omega⟩
    cases e : ns[j]? with
    | none => rw [lvs, lvs, e]
    | some n =>
      rw [lvs_eq e, lvs_eq e]
      have : ∀ q, kid ns g n q = kid ns f n q := fun q => by
        unfold kid
        cases e2 : n.ps[q]? with
        | none => rfl
        | some c =>
          have := o.up j n c e (List.mem_of_getElem? e2)
          exact lvs_more o f c (by omega) g (by omega)
      rw [show kid ns g n = kid ns f n from funext this]
/-- the leaves under node j -/
def lv (ns : List Nd) (j : Nat) : List Nat := lvs ns ns.length j
def kd (ns : List Nd) (n : Nd) (q : Nat) : List Nat := kid ns ns.length n q
theorem lv_eq {size i : Nat} {ns : List Nd} (o : Ok size i ns) {j : Nat} {n : Nd} (h : ns[j]? = some n) : lv ns j = if n.ps = [] then [n.st] else n.nums.flatMap (kd ns n) := by
  unfold lv
  rw [← lvs_more o ns.length j (by omega) (ns.length + 1) (by omega), lvs_eq h]
  rfl
theorem kd_eq {ns : List Nd} {n : Nd} {q c : Nat} (h : n.ps[q]? = some c) : kd ns n q = lv ns c := by
  unfold kd kid
  rw [h]
  rfl
theorem range'_app (s m e : Nat) : List.range' s m ++ List.range' (s + m) e = List.range' s (m + e) := List.range'_append_1
theorem chain_le {iv : List (Nat × Nat)} : ∀ {ps : List Nat} {s e : Nat}, Chain iv s ps e → s ≤ e
  | [], s, e, h => Nat.le_of_eq h
  | _ :: _, s, e, ⟨m, _, h1, c⟩ => by
    have := chain_le c
    omega
theorem chain_app {iv : List (Nat × Nat)} : ∀ {ps qs : List Nat} {s e : Nat}, Chain iv s (ps ++ qs) e → ∃ m, Chain iv s ps m ∧ Chain iv m qs e
  | [], _, s, _, h => ⟨s, rfl, h⟩
  | _ :: _, _, _, _, ⟨m, h0, h1, c⟩ => by
    obtain ⟨x, a, b⟩ := chain_app c
    exact ⟨x, ⟨m, h0, h1, a⟩, b⟩
/-- a chain's leaves are its stretch, in whatever order -/
theorem chain_perm {ns : List Nd} : ∀ {ps : List Nat} {s e : Nat}, (∀ c ∈ ps, ∀ n, ns[c]? = some n → (lv ns c).Perm (List.range' n.st n.m)) → Chain (ivs ns) s ps e → (ps.flatMap (lv ns)).Perm (List.range' s (e - s))
  | [], s, e, _, h => by
    have h : s = e := h
    subst h
    rw [Nat.sub_self]
    exact .refl _
  | c :: r, s, e, hp, ⟨m, h0, h1, ch⟩ => by
    have le := chain_le ch
    have h0' : (ns[c]?).map (fun n => (n.st, n.m)) = some (s, m) := by rw [← h0, ivs, List.getElem?_map]
    cases en : ns[c]? with
    | none => rw [en] at h0'; cases h0'
    | some n =>
      rw [en] at h0'
      have e1 : n.st = s := congrArg Prod.fst (Option.some.inj h0')
      have e2 : n.m = m := congrArg Prod.snd (Option.some.inj h0')
      have p1 := hp c List.mem_cons_self n en
      rw [e1, e2] at p1
      have p2 := chain_perm (fun d hd => hp d (List.mem_cons_of_mem _ hd)) ch
      rw [List.flatMap_cons, show e - s = m + (e - (s + m)) by omega, ← range'_app]
      exact p1.append p2
theorem flat_idx {ns : List Nd} {n : Nd} : ∀ (k : Nat), k ≤ n.ps.length → (List.range k).flatMap (kd ns n) = (n.ps.take k).flatMap (lv ns)
  | 0, _ => by simp
  | k + 1, h => by
    rw [List.range_succ, List.flatMap_append, flat_idx k (by omega), List.take_succ, List.flatMap_append, List.getElem?_eq_getElem (by omega : k < n.ps.length)]
    simp [kd_eq (List.getElem?_eq_getElem (by omega : k < n.ps.length))]
theorem perm_flat {α β : Type} {f : α → List β} {l m : List α} (p : l.Perm m) : (l.flatMap f).Perm (m.flatMap f) := by
  induction p with
  | nil => exact .refl _
  | cons x _ ih => rw [List.flatMap_cons, List.flatMap_cons]; exact (List.Perm.refl _).append ih
  | swap x y l =>
    simp only [List.flatMap_cons, ← List.append_assoc]
    exact List.perm_append_comm.append (.refl _)
  | trans _ _ a b => exact a.trans b
theorem lv_perm {size : Nat} {ns : List Nd} (o : Ok size ns.length ns) : ∀ (f j : Nat), ns.length ≤ f + j → ∀ n, ns[j]? = some n → (lv ns j).Perm (List.range' n.st n.m)
  | 0, j, h, n, e => by
    have := (List.getElem?_eq_some_iff.1 e).1
    omega
  | f + 1, j, h, n, e => by
    have lt := (List.getElem?_eq_some_iff.1 e).1
    rw [lv_eq o e]
    rcases o.seen j n lt e with ⟨h1, h2, _⟩ | ⟨h1, h2, h3, h4, _⟩
    · rw [if_pos h2, h1]
      exact .refl _
    · have ne : n.ps ≠ [] := fun z => by rw [z] at h2; simp at h2
      rw [if_neg ne]
      have p1 := perm_flat (f := kd ns n) h4
      rw [flat_idx n.ps.length (Nat.le_refl _), List.take_length] at p1
      refine p1.trans ?_
      have p2 := chain_perm (fun c hc n' en => lv_perm o f c (by have := (o.up j n c e hc).1; omega) n' en) h3
      rw [show n.st + n.m - n.st = n.m by omega] at p2
      exact p2
/-- a stretch of entries that stand together in the home's row -/
def Tog (es : List Nat) (s e : Nat) : Prop := ∃ a b c, es = a ++ b ++ c ∧ b.Perm (List.range' s (e - s))
theorem mem_split {α : Type} {x : α} {l : List α} (h : x ∈ l) : ∃ a b, l = a ++ x :: b := List.append_of_mem h
/-- what stands under a node stands together -/
theorem lv_in {size : Nat} {ns : List Nd} (o : Ok size ns.length ns) : ∀ (k j : Nat), j ≤ k → j < ns.length → ∃ a c, lv ns 0 = a ++ lv ns j ++ c
  | 0, j, h, _ => by
    obtain rfl : j = 0 := by omega
    exact ⟨[], [], by simp⟩
  | k + 1, j, h, lt => by
    by_cases z : j = 0
    · subst z
      exact ⟨[], [], by simp⟩
    · obtain ⟨i, n, hi, en, hm⟩ := o.par j (by omega) lt
      have up := (o.up i n j en hm).1
      obtain ⟨a, c, e⟩ := lv_in o k i (by omega) hi
      rcases o.seen i n hi en with ⟨_, h2, _⟩ | ⟨_, h2, _, h4, _⟩
      · rw [h2] at hm
        cases hm
      · have ne : n.ps ≠ [] := fun z => by rw [z] at h2; simp at h2
        obtain ⟨q, hq, eq⟩ := List.getElem_of_mem hm
        have mq : q ∈ n.nums := h4.mem_iff.2 (List.mem_range.2 hq)
        obtain ⟨x, y, exy⟩ := mem_split mq
        have e2 : lv ns i = x.flatMap (kd ns n) ++ lv ns j ++ y.flatMap (kd ns n) := by
          rw [lv_eq o en, if_neg ne, exy, List.flatMap_append, List.flatMap_cons, kd_eq (c := j) (by rw [List.getElem?_eq_getElem hq, eq]), List.append_assoc]
        exact ⟨a ++ x.flatMap (kd ns n), y.flatMap (kd ns n) ++ c, by rw [e, e2]; simp only [List.append_assoc]⟩
theorem tog_node {size : Nat} {ns : List Nd} (o : Ok size ns.length ns) {j : Nat} {n : Nd} (h : ns[j]? = some n) : Tog (lv ns 0) n.st (n.st + n.m) := by
  have lt := (List.getElem?_eq_some_iff.1 h).1
  obtain ⟨a, c, e⟩ := lv_in o j j (Nat.le_refl _) lt
  refine ⟨a, _, c, e, ?_⟩
  rw [show n.st + n.m - n.st = n.m by omega]
  exact lv_perm o ns.length j (by omega) n h
/-- neighbouring parts of a heap stand together -/
theorem tog_heap {size : Nat} {ns : List Nd} (o : Ok size ns.length ns) {j : Nat} {n : Nd} (h : ns[j]? = some n) (hk : n.k = "heap") {f l pf pl : Nat} {nf nl : Nd} (hfl : f < l)
    (ef : n.ps[f]? = some pf) (el : n.ps[l]? = some pl) (hf : ns[pf]? = some nf) (hl : ns[pl]? = some nl) : Tog (lv ns 0) nf.st (nl.st + nl.m) ∧ nf.st + 2 ≤ nl.st + nl.m ∧ nl.st + nl.m ≤ size := by
  have lt := (List.getElem?_eq_some_iff.1 h).1
  have ll := (List.getElem?_eq_some_iff.1 el).1
  obtain ⟨a, c, e⟩ := lv_in o j j (Nat.le_refl _) lt
  rcases o.seen j n lt h with ⟨_, _, h3⟩ | ⟨h1, h2, h3, h4, h5⟩
  · exact absurd hk h3
  · have ne : n.ps ≠ [] := fun z => by rw [z] at h2; simp at h2
    have sp : n.ps = n.ps.take f ++ ((n.ps.drop f).take (l + 1 - f) ++ n.ps.drop (l + 1)) := by
      have : n.ps.drop (l + 1) = (n.ps.drop f).drop (l + 1 - f) := by rw [List.drop_drop, show f + (l + 1 - f) = l + 1 by omega]
      rw [this, List.take_append_drop, List.take_append_drop]
    have ev : lv ns j = n.ps.flatMap (lv ns) := by
      rw [lv_eq o h, if_neg ne, h5 hk, flat_idx _ (Nat.le_refl _), List.take_length]
    have mid : (n.ps.drop f).take (l + 1 - f) = pf :: (n.ps.drop (f + 1)).take (l - f) := by
      rw [List.drop_eq_getElem_cons (by omega : f < n.ps.length), show l + 1 - f = (l - f) + 1 by omega, List.take_succ_cons]
      congr 1
      exact Option.some.inj ((List.getElem?_eq_getElem (by omega)).symm.trans ef)
    have last : (n.ps.drop f).take (l + 1 - f) = (n.ps.drop f).take (l - f) ++ [pl] := by
      rw [show l + 1 - f = (l - f) + 1 by omega, List.take_succ, List.getElem?_drop, show f + (l - f) = l by omega, el]
      rfl
    have ch := h3
    rw [sp] at ch
    obtain ⟨s1, c1, c2⟩ := chain_app ch
    obtain ⟨s2, c3, c4⟩ := chain_app c2
    have at_f : (ivs ns)[pf]? = some (nf.st, nf.m) := by rw [ivs, List.getElem?_map, hf]; rfl
    have at_l : (ivs ns)[pl]? = some (nl.st, nl.m) := by rw [ivs, List.getElem?_map, hl]; rfl
    have b1 : s1 = nf.st := by
      rw [mid] at c3
      obtain ⟨m, e1, _⟩ := c3
      rw [at_f] at e1
      exact (congrArg Prod.fst (Option.some.inj e1)).symm
    have b2 : s2 = nl.st + nl.m ∧ nf.st + 1 ≤ nl.st ∧ 1 ≤ nl.m := by
      rw [last] at c3
      obtain ⟨x, c5, m, e1, m1, c6⟩ := chain_app c3
      have c6 : x + m = s2 := c6
      rw [at_l] at e1
      have e2 := congrArg Prod.fst (Option.some.inj e1)
      have e3 := congrArg Prod.snd (Option.some.inj e1)
      have e2 : nl.st = x := e2
      have e3 : nl.m = m := e3
      have : s1 + 1 ≤ x := by
        rw [show l - f = (l - f - 1) + 1 by omega, List.drop_eq_getElem_cons (by omega : f < n.ps.length), List.take_succ_cons] at c5
        obtain ⟨mm, _, m1, c7⟩ := c5
        have := chain_le c7
        omega
      omega
    obtain ⟨b2, b3, b4⟩ := b2
    subst b1 b2
    have top := (o.all nl (List.mem_of_getElem? hl)).2.1
    refine ⟨⟨a ++ (n.ps.take f).flatMap (lv ns), ((n.ps.drop f).take (l + 1 - f)).flatMap (lv ns), (n.ps.drop (l + 1)).flatMap (lv ns) ++ c, ?_, ?_⟩, by omega, top⟩
    · have : n.ps.flatMap (lv ns) = (n.ps.take f ++ ((n.ps.drop f).take (l + 1 - f) ++ n.ps.drop (l + 1))).flatMap (lv ns) := by rw [← sp]
      rw [e, ev, this, List.flatMap_append, List.flatMap_append]
      simp only [List.append_assoc]
    · exact chain_perm (fun d hd n' en => lv_perm o ns.length d (by omega) n' en) c3
end TL

-- T19
set_option Elab.async false
set_option linter.all false
set_option maxRecDepth 100000
set_option maxHeartbeats 400000
/-! T19: stretches of the catalogue; which runs a turn loses -/
namespace TL
open L2 PyProof.Rows PySem PySem.Spec TS RZ
def wd (xs : List Str) (i : Nat) : Str := (xs[i]?).getD ""
theorem wd_at {xs : List Str} {i : Nat} (h : i < xs.length) : xs[i]? = some (wd xs i) := by
  unfold wd
  rw [List.getElem?_eq_getElem h]
  rfl
def stch (xs : List Str) (s e : Nat) : List Str := (xs.drop s).take (e - s)
theorem stch_get {xs : List Str} {s e i : Nat} (h : i < e - s) : (stch xs s e)[i]? = xs[s + i]? := by
  unfold stch
  rw [List.getElem?_take_of_lt h, List.getElem?_drop]
theorem stch_len {xs : List Str} {s e : Nat} (h : e ≤ xs.length) : (stch xs s e).length = e - s := by
  unfold stch
  rw [List.length_take, List.length_drop]
  omega
theorem stch_mem {xs : List Str} (nd : xs.Nodup) {s e i : Nat} (hi : i < xs.length) (he : e ≤ xs.length) : wd xs i ∈ stch xs s e ↔ s ≤ i ∧ i < e := by
  constructor
  · intro h
    obtain ⟨k, hk⟩ := List.mem_iff_getElem?.1 h
    have lk := (List.getElem?_eq_some_iff.1 hk).1
    rw [stch_len he] at lk
    rw [stch_get lk, ← wd_at hi] at hk
    have := (List.getElem?_inj (by omega) nd).1 hk
    omega
  · rintro ⟨h1, h2⟩
    refine List.mem_of_getElem? (i := i - s) ?_
    rw [stch_get (by omega), show s + (i - s) = i by omega]
    exact wd_at hi
theorem stch_cat {xs : List Str} {s e : Nat} (h : s ≤ e) : ∃ a b, xs = a ++ stch xs s e ++ b := ⟨xs.take s, (xs.drop s).drop (e - s), by
  unfold stch
  rw [List.append_assoc, List.take_append_drop, List.take_append_drop]⟩
theorem nodup_perm_range {es : List Nat} {k : Nat} (p : es.Perm (List.range k)) : es.Nodup := p.nodup_iff.2 List.nodup_range
theorem nodup_mid {α : Type} {a b c : List α} (h : (a ++ b ++ c).Nodup) : (∀ x ∈ a, x ∉ b) ∧ ∀ x ∈ c, x ∉ b := by
  rw [List.append_assoc] at h
  obtain ⟨_, h2, h3⟩ := List.nodup_append.1 h
  obtain ⟨_, _, h5⟩ := List.nodup_append.1 h2
  exact ⟨fun x hx hb => h3 x hx x (List.mem_append_left _ hb) rfl, fun x hx hb => h5 x hb x hx rfl⟩
theorem tog_fits {xs : List Str} (nd : xs.Nodup) {es : List Nat} (p : es.Perm (List.range xs.length)) {s e : Nat} (t : Tog es s e) (he : e ≤ xs.length) (hs : s < e) : Fits (stch xs s e) (es.map (wd xs)) := by
  obtain ⟨a, b, c, rfl, pb⟩ := t
  have nde := nodup_perm_range p
  obtain ⟨na, nc⟩ := nodup_mid nde
  have lt : ∀ i ∈ a ++ b ++ c, i < xs.length := fun i hi => List.mem_range.1 (p.mem_iff.1 hi)
  have inb : ∀ i, i ∈ b ↔ s ≤ i ∧ i < e := fun i => by
    rw [pb.mem_iff, List.mem_range'_1]
    omega
  refine ⟨a.map (wd xs), b.map (wd xs), c.map (wd xs), by simp, ?_, ?_, ?_, ?_⟩
  · intro z
    have : s ∈ b := (inb s).2 ⟨Nat.le_refl _, hs⟩
    rw [List.map_eq_nil_iff.1 z] at this
    cases this
  · intro y hy hm
    obtain ⟨i, hi, rfl⟩ := List.mem_map.1 hy
    have := (stch_mem nd (lt i (by simp [hi])) he).1 hm
    exact na i hi ((inb i).2 this)
  · intro y hy
    obtain ⟨i, hi, rfl⟩ := List.mem_map.1 hy
    exact (stch_mem nd (lt i (by simp [hi])) he).2 ((inb i).1 hi)
  · intro y hy hm
    obtain ⟨i, hi, rfl⟩ := List.mem_map.1 hy
    have := (stch_mem nd (lt i (by simp [hi])) he).1 hm
    exact nc i hi ((inb i).2 this)
theorem tog_run {xs : List Str} (nd : xs.Nodup) {es : List Nat} (p : es.Perm (List.range xs.length)) {s e : Nat} (t : Tog es s e) (he : e ≤ xs.length) (hs : s + 2 ≤ e) : IsRun xs (es.map (wd xs)) (stch xs s e) :=
  ⟨by rw [stch_len he]; omega, stch_cat (by omega), tog_fits nd p t he (by omega)⟩
theorem wd_perm {xs : List Str} {es : List Nat} (p : es.Perm (List.range xs.length)) : (es.map (wd xs)).Perm xs := by
  refine (p.map _).trans (List.Perm.of_eq ?_)
  refine List.ext_getElem? fun i => ?_
  rw [List.getElem?_map]
  by_cases h : i < xs.length
  · rw [List.getElem?_range h, Option.map_some, wd_at h]
  · rw [List.getElem?_eq_none (by rw [List.length_range]; omega), List.getElem?_eq_none (by omega)]
    rfl
/-! ### what a turn loses -/
theorem Fits.conv {S ys : List Str} (h : Fits S ys) {a b c : Str} (sub : List.Sublist [a, b, c] ys) (ha : a ∈ S) (hc : c ∈ S) : b ∈ S := by
  obtain ⟨l, m, r, rfl, st⟩ := h
  have s1 : List.Sublist [a, b, c] (m ++ r) := by
    rw [List.append_assoc] at sub
    obtain ⟨u, v, e, h1, h2⟩ := List.sublist_append_iff.1 sub
    cases u with
    | nil => rw [e]; exact h2
    | cons x u =>
      have : a = x := (List.cons.inj e).1
      subst this
      exact absurd ha (st.hl a (h1.subset List.mem_cons_self))
  obtain ⟨u, v, e, h1, h2⟩ := List.sublist_append_iff.1 s1
  have vn : v = [] := by
    cases v with
    | nil => rfl
    | cons x v =>
      have hl : ([a, b, c] : List Str).getLast? = (x :: v).getLast? := by
        rw [e, List.getLast?_append]
        cases hv : (x :: v).getLast? with
        | none => simp at hv
        | some z => rfl
      have hm : c ∈ x :: v := List.mem_of_getLast? (hl.symm.trans rfl)
      exact absurd hc (st.hr c (h2.subset hm))
  rw [vn, List.append_nil] at e
  exact st.hm b (h1.subset (by rw [← e]; simp))
theorem two_order : ∀ {m : List Str} {x z : Str}, x ∈ m → z ∈ m → x ≠ z → List.Sublist [x, z] m ∨ List.Sublist [z, x] m
  | y :: m, x, z, hx, hz, ne => by
    rcases List.mem_cons.1 hx with e1 | h1
    · rcases List.mem_cons.1 hz with e2 | h2
      · exact absurd (e1.trans e2.symm) ne
      · rw [e1]
        exact .inl (List.Sublist.cons₂ _ (List.singleton_sublist.2 h2))
    · rcases List.mem_cons.1 hz with e2 | h2
      · rw [e2]
        exact .inr (List.Sublist.cons₂ _ (List.singleton_sublist.2 h1))
      · exact (two_order h1 h2 ne).imp (fun h => h.cons _) fun h => h.cons _
theorem sub3l {l m r : List Str} {a b c : Str} (ha : a ∈ l) (h : List.Sublist [b, c] m) : List.Sublist [a, b, c] (l ++ m ++ r) :=
  List.Sublist.trans (List.Sublist.append (List.singleton_sublist.2 ha) h : List.Sublist ([a] ++ [b, c]) (l ++ m)) (List.sublist_append_left _ _)
theorem sub3r {l m r : List Str} {a b c : Str} (h : List.Sublist [a, b] m) (hc : c ∈ r) : List.Sublist [a, b, c] (l ++ m ++ r) := by
  rw [List.append_assoc]
  exact List.Sublist.trans (List.Sublist.append h (List.singleton_sublist.2 hc) : List.Sublist ([a, b] ++ [c]) (m ++ r)) (List.sublist_append_right _ _)
theorem rev2 {m : List Str} {a b : Str} (h : List.Sublist [a, b] m) : List.Sublist [b, a] m.reverse := h.reverse
theorem ovl_parts {a b : List Str} (na : a.Nodup) (nb : b.Nodup) : (ovl a b = true → ∃ x z y, x ∈ a ∧ x ∉ b ∧ z ∈ a ∧ z ∈ b ∧ y ∈ b ∧ y ∉ a) ∧ (ovl a b = false → NO a b) := by
  have fn : (a.filter fun y => decide (y ∈ b)).Nodup := na.sublist List.filter_sublist
  constructor
  · intro h
    unfold ovl at h
    obtain ⟨h1, h2⟩ := Bool.and_eq_true_iff.1 h
    have h1 := of_decide_eq_true h1
    have h2 := of_decide_eq_true h2
    obtain ⟨z, hz⟩ := List.exists_mem_of_length_pos h1
    obtain ⟨hza, hzb⟩ := List.mem_filter.1 hz
    have hzb := of_decide_eq_true hzb
    have nx : ¬ ∀ x ∈ a, x ∈ b := fun q => by
      rw [List.filter_eq_self.2 fun x hx => decide_eq_true (q x hx)] at h2
      omega
    have ny : ¬ ∀ y ∈ b, y ∈ a := fun q => by
      have ge : b.length ≤ (a.filter fun y => decide (y ∈ b)).length := by
        exact nodup_le b (a.filter fun y => decide (y ∈ b)) nb fun y hy => List.mem_filter.2 ⟨q y hy, decide_eq_true hy⟩
      omega
    obtain ⟨x, hx⟩ := Classical.not_forall.1 nx
    obtain ⟨hx1, hx2⟩ := Classical.not_imp.1 hx
    obtain ⟨y, hy⟩ := Classical.not_forall.1 ny
    obtain ⟨hy1, hy2⟩ := Classical.not_imp.1 hy
    exact ⟨x, z, y, hx1, hx2, hza, hzb, hy1, hy2⟩
  · intro h
    unfold ovl at h
    by_cases h1 : 0 < (a.filter fun y => decide (y ∈ b)).length
    · rw [decide_eq_true h1, Bool.true_and] at h
      have h2 := of_decide_eq_false h
      by_cases h3 : a.length ≤ (a.filter fun y => decide (y ∈ b)).length
      · refine .inr (.inl fun y hy => ?_)
        have := sub_eq fn (t := a) (fun y hy => (List.mem_filter.1 hy).1) h3 y hy
        exact of_decide_eq_true (List.mem_filter.1 this).2
      · refine .inr (.inr fun y hy => ?_)
        have := sub_eq fn (t := b) (fun y hy => of_decide_eq_true (List.mem_filter.1 hy).2) (by omega) y hy
        exact (List.mem_filter.1 this).1
    · refine .inl fun y hy hb => h1 ?_
      exact List.length_pos_iff.2 fun z => by
        have : y ∈ a.filter fun y => decide (y ∈ b) := List.mem_filter.2 ⟨hy, decide_eq_true hb⟩
        rw [z] at this
        cases this
/-- just the runs that overlap it are lost -/
theorem lost {t o ys : List Str} (nt : t.Nodup) (no : o.Nodup) (it : ∀ y ∈ t, y ∈ ys) (io : ∀ y ∈ o, y ∈ ys) (h1 : Fits t ys) (h2 : Fits o ys) : Fits o (trn t ys) ↔ ovl t o = false := by
  constructor
  · intro h3
    cases ho : ovl t o with
    | false => rfl
    | true =>
      exfalso
      obtain ⟨x, z, y, xt, xo, zt, zo, yo, yt⟩ := (ovl_parts nt no).1 ho
      obtain ⟨l, m, r, rfl, st⟩ := h1
      rw [st.trn] at h3
      have inm : ∀ q ∈ l ++ m ++ r, q ∈ t → q ∈ m := fun q hq ht => by
        rcases List.mem_append.1 hq with h | h
        · rcases List.mem_append.1 h with h | h
          · exact absurd ht (st.hl q h)
          · exact h
        · exact absurd ht (st.hr q h)
      have xz : x ≠ z := fun e => xo (e ▸ zo)
      have xm := inm x (it x xt) xt
      have zm := inm z (it z zt) zt
      have yl : y ∈ l ∨ y ∈ r := by
        rcases List.mem_append.1 (io y yo) with h | h
        · rcases List.mem_append.1 h with h | h
          · exact .inl h
          · exact absurd (st.hm y h) yt
        · exact .inr h
      rcases yl with yl | yr
      · rcases two_order xm zm xz with s | s
        · exact xo (h2.conv (sub3l yl s) yo zo)
        · exact xo (h3.conv (sub3l yl (rev2 s)) yo zo)
      · rcases two_order xm zm xz with s | s
        · exact xo (h3.conv (sub3r (rev2 s) yr) zo yo)
        · exact xo (h2.conv (sub3r s yr) zo yo)
  · intro h
    exact (h1.both h2 ((ovl_parts nt no).2 h)).1
end TL

-- T20
set_option Elab.async false
set_option linter.all false
set_option maxRecDepth 100000
set_option maxHeartbeats 400000
/-! T20: the home's row -/
namespace TL
open L2 PyProof.Rows PySem PySem.Spec TS RZ
theorem eqv_nilN (ps : List Nat) : PyData.eqv (toP (dN ps)) (toP (.lst [])) = decide (ps = []) := by
  cases ps with
  | nil => rfl
  | cons p r =>
    show PyData.eqv (.list (_ :: _)) (.list []) = _
    simp [PyData.eqv, PyData.eqvAll]
theorem drop_at {α : Type} {a b : List α} {i : Nat} (h : a.length = i) : (a ++ b).drop i = b := by
  subst h
  exact List.drop_left
theorem take_at {α : Type} {a b : List α} {i : Nat} (h : a.length = i) : (a ++ b).take i = a := by
  subst h
  exact List.take_left
theorem lv_ne {size : Nat} {ns : List Nd} (o : Ok size ns.length ns) {j : Nat} (h : j < ns.length) : 1 ≤ (lv ns j).length := by
  obtain ⟨n, e⟩ : ∃ n, ns[j]? = some n := ⟨_, List.getElem?_eq_getElem h⟩
  rw [(lv_perm o ns.length j (by omega) n e).length_eq, List.length_range']
  exact (o.all n (List.mem_of_getElem? e)).1
theorem flat_ge {size : Nat} {ns : List Nd} (o : Ok size ns.length ns) : ∀ rw_ : List Nat, (∀ j ∈ rw_, j < ns.length) → rw_.length ≤ (rw_.flatMap (lv ns)).length
  | [], _ => Nat.zero_le _
  | j :: r, h => by
    have h1 := lv_ne o (h j List.mem_cons_self)
    have h2 := flat_ge o r fun x hx => h x (List.mem_cons_of_mem _ hx)
    rw [List.flatMap_cons, List.length_append, List.length_cons]
    omega
/-- how much is left to open -/
def wj (ns : List Nd) (j : Nat) : Nat := match ns[j]? with
  | some n => 2 * n.m - 1
  | none => 0
def wjs (ns : List Nd) (js : List Nat) : Nat := (js.map (wj ns)).sum
theorem wjs_app (ns : List Nd) (a b : List Nat) : wjs ns (a ++ b) = wjs ns a + wjs ns b := by
  unfold wjs
  rw [List.map_append, List.sum_append]
theorem chain_wjs {ns : List Nd} : ∀ {ps : List Nat} {s e : Nat}, Chain (ivs ns) s ps e → wjs ns ps + ps.length = 2 * (e - s)
  | [], s, e, h => by
    have h : s = e := h
    subst h
    simp [wjs]
  | c :: r, s, e, ⟨m, h0, h1, ch⟩ => by
    have le := chain_le ch
    have ih := chain_wjs ch
    have h0' : (ns[c]?).map (fun n => (n.st, n.m)) = some (s, m) := by rw [← h0, ivs, List.getElem?_map]
    cases en : ns[c]? with
    | none => rw [en] at h0'; cases h0'
    | some n =>
      rw [en] at h0'
      have e2 : n.m = m := congrArg Prod.snd (Option.some.inj h0')
      have w1 : wj ns c = 2 * m - 1 := by unfold wj; rw [en, ← e2]
      have : wjs ns (c :: r) = wj ns c + wjs ns r := by simp [wjs]
      rw [this, w1, List.length_cons]
      omega
theorem perm_wjs {ns : List Nd} {a b : List Nat} (p : a.Perm b) : wjs ns a = wjs ns b := (p.map _).sum_nat
/-- a node's parts in its order -/
def prt (n : Nd) : List Nat := n.nums.map fun q => (n.ps[q]?).getD 0
theorem prt_perm {n : Nd} (h : n.nums.Perm (List.range n.ps.length)) : (prt n).Perm n.ps := by
  refine (h.map _).trans (List.Perm.of_eq ?_)
  refine List.ext_getElem? fun i => ?_
  rw [List.getElem?_map]
  by_cases l : i < n.ps.length
  · rw [List.getElem?_range l, Option.map_some, List.getElem?_eq_getElem l]
    rfl
  · rw [List.getElem?_eq_none (by rw [List.length_range]; omega), List.getElem?_eq_none (by omega)]
    rfl
theorem prt_at {n : Nd} (h : n.nums.Perm (List.range n.ps.length)) {q : Nat} (hq : q ∈ n.nums) : n.ps[q]? = some ((n.ps[q]?).getD 0) := by
  have := List.mem_range.1 (h.mem_iff.1 hq)
  rw [List.getElem?_eq_getElem this]
  rfl
theorem prt_lv {ns : List Nd} {n : Nd} (h : n.nums.Perm (List.range n.ps.length)) : (prt n).flatMap (lv ns) = n.nums.flatMap (kd ns n) := by
  unfold prt
  rw [List.flatMap_map]
  have : ∀ l : List Nat, (∀ q ∈ l, q ∈ n.nums) → l.flatMap (fun q => lv ns ((n.ps[q]?).getD 0)) = l.flatMap (kd ns n) := by
    intro l
    induction l with
    | nil => intro _; rfl
    | cons q r ih =>
      intro hl
      rw [List.flatMap_cons, List.flatMap_cons, ih fun x hx => hl x (List.mem_cons_of_mem _ hx), kd_eq (prt_at h (hl q List.mem_cons_self))]
  exact this n.nums fun _ h => h
def S_home : ST := fun ds n R => ∃ (ns : List Nd) (xs : List Str), ds = [.lst (ns.map eNd), dS xs] ∧ Ok xs.length ns.length ns ∧ xs.length ≤ 20 ∧ ns.length ≤ 40 ∧ R (.new (dS ((lv ns 0).map (wd xs)))) n
def InvH (ns : List Nd) (xs : List Str) (n m : Nat) (Γ : Gm) (k : Nat) : Prop := k = n ∧ ∃ (rw_ : List Nat) (i : Nat) (g4 g5 g6 g7 g8 g9 : Option Rv), Γ = [some (.bor (.lst (ns.map eNd))), some (.bor (dS xs)), some (.new (dN rw_)), some (.val (eN i)), g4, g5, g6, g7, g8, g9] ∧
  (∀ j ∈ rw_, j < ns.length) ∧ rw_.flatMap (lv ns) = lv ns 0 ∧ i ≤ rw_.length ∧ (∀ j ∈ rw_.take i, ∃ nd, ns[j]? = some nd ∧ nd.ps = []) ∧ m = wjs ns (rw_.drop i)
theorem tree_w_home_row : ∀ ds n R, S_home ds n R → B_w_home_row (ends R) (slots [true, true] ds 8) n := by
  rintro _ n R ⟨ns, xs, rfl, o, few, fewN, h⟩
  obtain ⟨n0, hn0, _, hm0⟩ := o.root
  have pos : 0 < ns.length := (List.getElem?_eq_some_iff.1 hn0).1
  have total : (lv ns 0).length = xs.length := by rw [(lv_perm o ns.length 0 (by omega) n0 hn0).length_eq, List.length_range', hm0]
  refine ⟨rfl, small_len, ?_⟩
  refine ⟨InvH ns xs n, ⟨_, rfl, [0], 0, none, none, none, none, none, none, rfl, fun j hj => by rw [List.mem_singleton.1 hj]; exact pos, by simp, Nat.zero_le _, (fun j hj => nomatch hj), rfl⟩, ?_⟩
  rintro m Γ k ⟨rfl, rw_, i, g4, g5, g6, g7, g8, g9, rfl, hin, hfl, hi, hlf, hm⟩
  have fewR : rw_.length ≤ 20 := by
    have := flat_ge o rw_ hin
    rw [hfl, total] at this
    omega
  show (if decide ((i : Int) < (((rw_.map eN).length : Nat) : Int)) = true then _ else _)
  rw [List.length_map]
  by_cases c : i < rw_.length
  · rw [decide_eq_true (p := ((i : Int) < ((rw_.length : Nat) : Int))) (by omega)]
    obtain ⟨j, hj⟩ : ∃ j, rw_[i]? = some j := ⟨_, List.getElem?_eq_getElem c⟩
    have jin := hin j (List.mem_of_getElem? hj)
    obtain ⟨nd, hnd⟩ : ∃ nd, ns[j]? = some nd := ⟨_, List.getElem?_eq_getElem jin⟩
    have at1 : (rw_.map eN)[i]? = some (eN j) := by rw [List.getElem?_map, hj]; rfl
    have at2 : (ns.map eNd)[j]? = some (eNd nd) := by rw [List.getElem?_map, hnd]; rfl
    have m1 := (o.all nd (List.mem_of_getElem? hnd)).1
    have dr : rw_.drop i = j :: rw_.drop (i + 1) := drop_cons hj
    have w0 : wj ns j = 2 * nd.m - 1 := by unfold wj; rw [hnd]
    have w1 : wjs ns (rw_.drop i) = 2 * nd.m - 1 + wjs ns (rw_.drop (i + 1)) := by
      rw [dr, ← w0]
      simp [wjs]
    refine ⟨_, atI_nat at1, _, atI_nat at2, rfl, ?_⟩
    refine ⟨rfl, small_len, ?_⟩
    refine ⟨pln_nats nd.ps, rfl, Nat.le_trans (Nat.min_le_right _ _) (by decide : 1 ≤ 60), ?_⟩
    show (if PyData.eqv (toP (dN nd.ps)) (toP (.lst [])) = true then _ else _)
    rw [eqv_nilN]
    by_cases pe : nd.ps = []
    · rw [decide_eq_true pe]
      refine ⟨_, ?_, rfl, rw_, i + 1, _, _, _, _, _, _, rfl, hin, hfl, c, fun q hq => ?_, rfl⟩
      · rw [hm, w1]
        omega
      · rw [List.take_succ, hj] at hq
        rcases List.mem_append.1 hq with hq | hq
        · exact hlf q hq
        · obtain rfl : q = j := by simpa using hq
          exact ⟨nd, hnd, pe⟩
    · rw [decide_eq_false pe]
      rcases o.seen j nd jin hnd with ⟨_, h2, _⟩ | ⟨h1, h2, h3, h4, _⟩
      · exact absurd h2 pe
      · have numl : nd.nums.length = nd.ps.length := by rw [h4.length_eq, List.length_range]
        have cw := chain_wjs h3
        have psl : nd.ps.length ≤ 40 := by
          have le : nd.m ≤ 20 := by have := (o.all nd (List.mem_of_getElem? hnd)).2.1; omega
          omega
        refine ⟨rfl, ?_⟩
        refine ⟨by show (nd.nums.map eN).length ≤ _; rw [List.length_map]; omega, ?_⟩
        refine lcF_map (f := fun q : Nat => eN ((nd.ps[q]?).getD 0)) (fun q hq n R hR => ?_) ?_
        · refine ⟨eN ((nd.ps[q]?).getD 0), atI_nat (j := q) ?_, hR (.val _) rfl rfl⟩
          rw [List.getElem?_map, prt_at h4 hq]
          rfl
        · have ce : (nd.nums.map fun q : Nat => eN ((nd.ps[q]?).getD 0)) = (prt nd).map eN := by unfold prt; rw [List.map_map]; rfl
          rw [List.nil_append, ce]
          have sp : rw_ = rw_.take i ++ j :: rw_.drop (i + 1) := by rw [← dr, List.take_append_drop]
          have ti : (rw_.take i).length = i := by rw [List.length_take]; omega
          have c1 : cutL (rw_.map eN) none (some ((i : Nat) : Int)) = (rw_.take i).map eN := by
            rw [List.map_take]
            unfold cutL
            rw [sIx_n (by rw [List.length_map]; omega)]
            simp [HT.sIx]
          have c2 : cutL (rw_.map eN) (some ((i : Nat) + 1 : Int)) none = (rw_.drop (i + 1)).map eN := by
            rw [List.map_drop]
            unfold cutL
            rw [show ((i : Nat) + 1 : Int) = (((i + 1 : Nat) : Nat) : Int) by omega, sIx_n (by rw [List.length_map]; omega)]
            simp [HT.sIx]
            exact List.take_of_length_le (by simp)
          have pl : (prt nd).length = nd.ps.length := (prt_perm h4).length_eq
          have lens : ((rw_.take i).map eN).length + ((prt nd).map eN).length ≤ 1000000 := by rw [List.length_map, List.length_map, pl]; omega
          have lens2 : ((rw_.take i).map eN ++ (prt nd).map eN).length + ((rw_.drop (i + 1)).map eN).length ≤ 1000000 := by rw [List.length_append, List.length_map, List.length_map, List.length_map, pl, List.length_drop]; omega
          refine ⟨by rw [c1]; exact lens, rfl, by rw [c1, c2]; exact lens2, ?_⟩
          refine ⟨_, ?_, rfl, rw_.take i ++ prt nd ++ rw_.drop (i + 1), i, some (.val (.str nd.k)), some (.val (eN nd.st)), some (.val (eN nd.m)), some (.val (dN nd.ps)), some (.val (dN nd.nums)), g9, ?_, fun q hq => ?_, ?_, ?_, fun q hq => ?_, rfl⟩
          · rw [List.append_assoc, drop_at ti, wjs_app, perm_wjs (prt_perm h4), hm, w1]
            omega
          · rw [c1, c2]
            simp only [dN, List.map_append]
            rfl
          · rcases List.mem_append.1 hq with hq | hq
            · rcases List.mem_append.1 hq with hq | hq
              · exact hin q (List.mem_of_mem_take hq)
              · exact (o.up j nd q hnd ((prt_perm h4).mem_iff.1 hq)).2
            · exact hin q (List.mem_of_mem_drop hq)
          · rw [← hfl]
            conv => rhs; rw [sp]
            rw [List.flatMap_append, List.flatMap_append, List.flatMap_append, List.flatMap_cons, prt_lv h4, lv_eq o hnd, if_neg pe, List.append_assoc]
          · rw [List.length_append, List.length_append, ti]
            omega
          · rw [List.append_assoc] at hq
            rw [take_at ti] at hq
            exact hlf q hq
  · rw [decide_eq_false (p := ((i : Int) < ((rw_.length : Nat) : Int))) (by omega)]
    have ei : i = rw_.length := by omega
    rw [ei, List.take_length] at hlf
    have all : ∀ l : List Nat, (∀ j ∈ l, ∃ nd, ns[j]? = some nd ∧ nd.ps = []) → l.flatMap (lv ns) = l.map fun j => ((ns[j]?).map Nd.st).getD 0 := by
      intro l
      induction l with
      | nil => intro _; rfl
      | cons j r ih =>
        intro hl
        obtain ⟨nd, e1, e2⟩ := hl j List.mem_cons_self
        rw [List.flatMap_cons, List.map_cons, ih fun x hx => hl x (List.mem_cons_of_mem _ hx), lv_eq o e1, if_pos e2, e1]
        rfl
    have fin := dn_of h
    refine ⟨by show (rw_.map eN).length ≤ _; rw [List.length_map]; omega, ?_⟩
    refine lcF_map (f := fun j : Nat => D.str (wd xs (((ns[j]?).map Nd.st).getD 0))) (fun j hj n R hR => ?_) ?_
    · obtain ⟨nd, e1, e2⟩ := hlf j hj
      have at2 : (ns.map eNd)[j]? = some (eNd nd) := by rw [List.getElem?_map, e1]; rfl
      have b := (o.all nd (List.mem_of_getElem? e1))
      have lt : nd.st < xs.length := by omega
      refine ⟨_, atI_nat at2, eN nd.st, atI_nat (j := 1) rfl, D.str (wd xs nd.st), atI_nat (j := nd.st) ?_, hR (.val _) ?_ rfl⟩
      · rw [List.getElem?_map, wd_at lt]
        rfl
      · rw [e1]
        rfl
    · rw [List.nil_append]
      refine ⟨rfl, ?_⟩
      rw [← hfl, all rw_ hlf] at fin
      rw [dS, List.map_map, List.map_map] at fin
      exact fin
end TL

-- T21
set_option Elab.async false
set_option linter.all false
set_option maxRecDepth 100000
set_option maxHeartbeats 400000
/-! T21: the runs that can be turned at a home -/
namespace TL
open L2 PyProof.Rows PySem PySem.Spec TS RZ
theorem cut_stch {xs : List Str} {s e : Nat} (h1 : s ≤ e) (h2 : e ≤ xs.length) : cutL (xs.map D.str) (some (s : Int)) (some (e : Int)) = (stch xs s e).map D.str := by
  rw [cut_at h1 (by rw [List.length_map]; exact h2)]
  unfold stch
  rw [List.map_take, List.map_drop]
def S_turnables : ST := fun ds n R => ∃ (ns : List Nd) (xs : List Str), ds = [.lst (ns.map eNd), dS xs] ∧ Ok xs.length ns.length ns ∧ xs.length ≤ 20 ∧ ns.length ≤ 40 ∧ xs.Nodup ∧
  ∀ ts : List (List Str), (∀ t ∈ ts, IsRun xs ((lv ns 0).map (wd xs)) t) → ts.length ≤ 80000 → R (.new (.lst (ts.map tS))) n
theorem app_run {xs ys : List Str} {ts : List (List Str)} (h : ∀ t ∈ ts, IsRun xs ys t) {t : List Str} (ht : IsRun xs ys t) : ∀ u ∈ ts ++ [t], IsRun xs ys u := fun u hu => by
  rcases List.mem_append.1 hu with h1 | h1
  · exact h u h1
  · rw [List.mem_singleton.1 h1]
    exact ht
theorem tree_w_turnables : ∀ ds n R, S_turnables ds n R → B_w_turnables (ends R) (slots [true, true] ds 11) n := by
  rintro _ n R ⟨ns, xs, rfl, o, few, fewN, nd, h⟩
  obtain ⟨n0, hn0, hs0, hm0⟩ := o.root
  have pos : 0 < ns.length := (List.getElem?_eq_some_iff.1 hn0).1
  have pm : (lv ns 0).Perm (List.range xs.length) := by
    have := lv_perm o ns.length 0 (by omega) n0 hn0
    rw [hs0, hm0, ← List.range_eq_range'] at this
    exact this
  refine ⟨rfl, small_len, Nat.le_refl 1, ?_⟩
  refine forF_inv (j := 0) (fun i Γ k => k = n ∧ ∃ (ts : List (List Str)) (g3 g4 g5 g6 g7 g8 g9 g10 g11 g12 : Option Rv), Γ = [some (.bor (.lst (ns.map eNd))), some (.bor (dS xs)), some (.new (.lst (ts.map tS))), g3, g4, g5, g6, g7, g8, g9, g10, g11, g12] ∧
    (∀ t ∈ ts, IsRun xs ((lv ns 0).map (wd xs)) t) ∧ ts.length ≤ i * 1700) ⟨rfl, [], none, none, none, none, none, none, none, none, none, none, rfl, (fun _ h => nomatch h), Nat.zero_le _⟩ ?_ ?_
  · rintro i d Γ k hd ⟨hk, ts, g3, g4, g5, g6, g7, g8, g9, g10, g11, g12, rfl, hts, hl⟩
    rw [Nat.zero_add] at hl ⊢
    rw [List.getElem?_map] at hd
    cases hnd : ns[i]? with
    | none => rw [hnd] at hd; cases hd
    | some b =>
      rw [hnd] at hd
      obtain rfl := Option.some.inj hd
      have li : i < ns.length := (List.getElem?_eq_some_iff.1 hnd).1
      obtain ⟨b1, b2, b3⟩ := o.all b (List.mem_of_getElem? hnd)
      have psl : b.ps.length ≤ 40 := by
        rcases o.seen i b li hnd with ⟨_, h2, _⟩ | ⟨h1, h2, h3, h4, _⟩
        · rw [h2]; simp
        · have := chain_wjs h3
          omega
      refine ⟨_, rfl, fun kk hkk => ?_⟩
      have rest : ∀ (E : TEn) (_ : ∀ Γ k, (k = n ∧ ∃ (ts : List (List Str)) (g3 g4 g5 g6 g7 g8 g9 g10 g11 g12 : Option Rv), Γ = [some (.bor (.lst (ns.map eNd))), some (.bor (dS xs)), some (.new (.lst (ts.map tS))), g3, g4, g5, g6, g7, g8, g9, g10, g11, g12] ∧ (∀ t ∈ ts, IsRun xs ((lv ns 0).map (wd xs)) t) ∧ ts.length ≤ (i + 1) * 1700) → E.nx Γ k) (ts : List (List Str)) (k : Nat), (∀ t ∈ ts, IsRun xs ((lv ns 0).map (wd xs)) t) → ts.length ≤ i * 1700 + 1 → k = n →
          (tlFor (tlRng1 (tlIfx (tlT (tlOp dEq (tlV 3) (tlC (.str "heap")))) (tlB dLen (tlCons (tlV 6) tlNil)) (tlC (.int 0)))) (.nm 8) (tlFor (tlRng2 (tlOp dAdd (tlV 8) (tlC (.int 1))) (tlB dLen (tlCons (tlV 6) tlNil))) (.nm 9) (tlSq (tlPar 10 11 (tlOp dIx (tlOp dIx (tlV 0) (tlOp dIx (tlV 6) (tlV 8))) (tlC (.int 1))) (tlOp dIx (tlV 0) (tlOp dIx (tlV 6) (tlV 9)))) (tlSq (tlSet 12 (tlOp dAdd (tlOp dIx (tlV 11) (tlC (.int 1))) (tlOp dIx (tlV 11) (tlC (.int 2))))) (tlApp 2 (tlB dTup (tlCons (tlSl (tlV 1) (some (tlV 10)) (some (tlV 12))) tlNil)))))))
          E [some (.bor (.lst (ns.map eNd))), some (.bor (dS xs)), some (.new (.lst (ts.map tS))), some (.val (.str b.k)), some (.val (eN b.st)), some (.val (eN b.m)), some (.val (dN b.ps)), some (.val (dN b.nums)), g8, g9, g10, g11, g12] k := by
        intro E hkk ts k hts hl hk
        show (if decide (b.k = "heap") = true then _ else _)
        by_cases kh : b.k = "heap"
        · rw [decide_eq_true kh]
          have fewP : ((b.ps.map eN).length : Int) ≤ 40 := by rw [List.length_map]; omega
          have lenP : ((b.ps.map eN).length : Int) = ((b.ps.length : Nat) : Int) := by rw [List.length_map]
          refine ⟨by show -(2 ^ 62) ≤ ((b.ps.map eN).length : Int); omega, by show ((b.ps.map eN).length : Int) < 2 ^ 62; omega, by decide, ?_⟩
          show forF _ _ _ ((rng 0 ((b.ps.map eN).length : Int)).map D.int) _ _
          rw [lenP]
          refine forF_inv (j := 0) (fun f Γ k => k = n ∧ ∃ (ts : List (List Str)) (g8 g9 g10 g11 g12 : Option Rv), Γ = [some (.bor (.lst (ns.map eNd))), some (.bor (dS xs)), some (.new (.lst (ts.map tS))), some (.val (.str b.k)), some (.val (eN b.st)), some (.val (eN b.m)), some (.val (dN b.ps)), some (.val (dN b.nums)), g8, g9, g10, g11, g12] ∧
            (∀ t ∈ ts, IsRun xs ((lv ns 0).map (wd xs)) t) ∧ ts.length ≤ i * 1700 + 1 + f * 40) ⟨hk, ts, _, _, _, _, _, rfl, hts, by omega⟩ ?_ ?_
          · rintro f d Γ k hd ⟨hk, ts, g8, g9, g10, g11, g12, rfl, hts, hl⟩
            rw [Nat.zero_add] at hl ⊢
            obtain ⟨lf, rfl⟩ := rng_get hd
            refine ⟨_, rfl, fun kk hkk => ?_⟩
            refine ⟨⟨by show -(2 ^ 62) ≤ ((f : Int) + 1); omega, by show ((f : Int) + 1) < 2 ^ 62; omega, by show -(2 ^ 62) ≤ ((b.ps.map eN).length : Int); omega, by show ((b.ps.map eN).length : Int) < 2 ^ 62; omega⟩, by decide, ?_⟩
            show forF _ _ _ ((rng ((f : Int) + 1) ((b.ps.map eN).length : Int)).map D.int) _ _
            rw [lenP]
            refine forF_inv (j := 0) (fun l Γ k => k = n ∧ ∃ (ts : List (List Str)) (g9 g10 g11 g12 : Option Rv), Γ = [some (.bor (.lst (ns.map eNd))), some (.bor (dS xs)), some (.new (.lst (ts.map tS))), some (.val (.str b.k)), some (.val (eN b.st)), some (.val (eN b.m)), some (.val (dN b.ps)), some (.val (dN b.nums)), some (.val (eN f)), g9, g10, g11, g12] ∧
              (∀ t ∈ ts, IsRun xs ((lv ns 0).map (wd xs)) t) ∧ ts.length ≤ i * 1700 + 1 + f * 40 + l) ⟨hk, ts, _, _, _, _, rfl, hts, by omega⟩ ?_ ?_
            · rintro l d Γ k hd ⟨hk, ts, g9, g10, g11, g12, rfl, hts, hl⟩
              rw [Nat.zero_add] at hl ⊢
              obtain ⟨ll, rfl⟩ := rng_get2 (a := f + 1) (by omega) hd
              obtain ⟨pf, epf⟩ : ∃ c, b.ps[f]? = some c := ⟨_, List.getElem?_eq_getElem lf⟩
              obtain ⟨pl, epl⟩ : ∃ c, b.ps[f + 1 + l]? = some c := ⟨_, List.getElem?_eq_getElem ll⟩
              obtain ⟨nf, enf⟩ : ∃ c, ns[pf]? = some c := ⟨_, List.getElem?_eq_getElem (o.up i b pf hnd (List.mem_of_getElem? epf)).2⟩
              obtain ⟨nl, enl⟩ : ∃ c, ns[pl]? = some c := ⟨_, List.getElem?_eq_getElem (o.up i b pl hnd (List.mem_of_getElem? epl)).2⟩
              obtain ⟨tg, two, top⟩ := tog_heap o hnd kh (f := f) (l := f + 1 + l) (by omega) epf epl enf enl
              have run := tog_run nd pm tg top two
              have a1 : (b.ps.map eN)[f]? = some (eN pf) := by rw [List.getElem?_map, epf]; rfl
              have a2 : (b.ps.map eN)[f + 1 + l]? = some (eN pl) := by rw [List.getElem?_map, epl]; rfl
              have a3 : (ns.map eNd)[pf]? = some (eNd nf) := by rw [List.getElem?_map, enf]; rfl
              have a4 : (ns.map eNd)[pl]? = some (eNd nl) := by rw [List.getElem?_map, enl]; rfl
              refine ⟨_, rfl, fun kk2 hkk2 => ?_⟩
              refine ⟨_, atI_nat a1, _, atI_nat a3, eN nf.st, atI_nat (j := 1) rfl, _, atI_nat a2, _, atI_nat a4, ?_⟩
              refine ⟨eN nl.st, atI_nat (j := 1) rfl, eN nl.m, atI_nat (j := 2) rfl, ?_⟩
              refine ⟨rfl, rfl, by rw [List.length_map]; omega, ?_⟩
              have ce : cutL (xs.map D.str) (some ((nf.st : Nat) : Int)) (some ((nl.st : Int) + (nl.m : Int))) = (stch xs nf.st (nl.st + nl.m)).map D.str := by
                rw [show ((nl.st : Int) + (nl.m : Int)) = ((nl.st + nl.m : Nat) : Int) by omega]
                exact cut_stch (by omega) top
              have := hkk2 _ k ⟨hk, ts ++ [stch xs nf.st (nl.st + nl.m)], some (.val (eN (f + 1 + l))), some (.val (eN nf.st)), some (.val (eNd nl)), some (.val (.int ((nl.st : Int) + (nl.m : Int)))), rfl, app_run hts run, by rw [List.length_append, List.length_singleton]; omega⟩
              rw [List.map_append, List.map_singleton, tS, ← ce] at this
              exact this
            · rintro Γ k ⟨hk, ts, g9, g10, g11, g12, rfl, hts, hl⟩
              refine hkk _ _ ⟨hk, ts, _, _, _, _, _, rfl, hts, ?_⟩
              have : ((rng ((f : Int) + 1) ((b.ps.length : Nat) : Int)).map D.int).length ≤ 40 := by simp [rng]; omega
              omega
          · rintro Γ k ⟨hk, ts, g8, g9, g10, g11, g12, rfl, hts, hl⟩
            refine hkk _ _ ⟨hk, ts, _, _, _, _, _, _, _, _, _, _, rfl, hts, ?_⟩
            have : ((rng 0 ((b.ps.length : Nat) : Int)).map D.int).length ≤ 40 := by simp [rng]; omega
            omega
        · rw [decide_eq_false kh]
          refine ⟨by decide, by decide, by decide, ?_⟩
          exact hkk _ _ ⟨hk, ts, _, _, _, _, _, _, _, _, _, _, rfl, hts, by omega⟩
      show (if decide (b.k = "crossed") = true then _ else _)
      by_cases kc : b.k = "crossed"
      · rw [decide_eq_true kc]
        have m4 := b3 kc
        have run := tog_run nd pm (tog_node o hnd) b2 (by omega)
        refine ⟨rfl, rfl, by rw [List.length_map]; omega, ?_⟩
        have ce : cutL (xs.map D.str) (some ((b.st : Nat) : Int)) (some ((b.st : Int) + (b.m : Int))) = (stch xs b.st (b.st + b.m)).map D.str := by
          rw [show ((b.st : Int) + (b.m : Int)) = ((b.st + b.m : Nat) : Int) by omega]
          exact cut_stch (by omega) b2
        have := fun E hE => rest E hE (ts ++ [stch xs b.st (b.st + b.m)]) k (app_run hts run) (by rw [List.length_append, List.length_singleton]; omega) hk
        simp only [List.map_append, List.map_singleton, tS, ← ce] at this
        exact this _ fun Γ k z => hkk Γ k z
      · rw [decide_eq_false kc]
        exact rest _ (fun Γ k z => hkk Γ k z) ts k hts (by omega) hk
  · rintro Γ k ⟨rfl, ts, g3, g4, g5, g6, g7, g8, g9, g10, g11, g12, rfl, hts, hl⟩
    rw [List.length_map] at hl
    refine .inr ⟨ts, rfl, fun t ht e => ?_, fun ys pm so => ⟨rfl, dn_of (h ys (fun t ht => hts t (pm.mem_iff.1 ht)) (by rw [pm.length_eq]; omega))⟩⟩
    have := (hts t ht).two
    rw [e] at this
    simp at this
end TL

-- T22
set_option Elab.async false
set_option linter.all false
set_option maxRecDepth 100000
set_option maxHeartbeats 400000
/-! T22: drawn lots, worlds led by turns, classes -/
namespace TL
open L2 PyProof.Rows PySem PySem.Spec TS RZ
theorem perm_enc {α : Type} (f : α → D) {ds : List D} {zs : List α} (h : ds.Perm (zs.map f)) : ∃ ys : List α, ds = ys.map f ∧ ys.Perm zs := by
  generalize e : zs.map f = es at h
  induction h generalizing zs with
  | nil => exact ⟨[], rfl, by rw [List.map_eq_nil_iff.1 e]⟩
  | cons x _ ih =>
    cases zs with
    | nil => cases e
    | cons z r =>
      injection e with e1 e2
      obtain ⟨ys, rfl, p⟩ := ih e2
      exact ⟨z :: ys, by rw [← e1]; rfl, p.cons z⟩
  | swap x y l =>
    cases zs with
    | nil => cases e
    | cons z r =>
      cases r with
      | nil => cases e
      | cons z2 r =>
        injection e with e1 e2
        injection e2 with e2 e3
        exact ⟨z2 :: z :: r, by rw [← e1, ← e2, ← e3]; rfl, .swap _ _ _⟩
  | trans _ _ ih1 ih2 =>
    obtain ⟨ys, rfl, p⟩ := ih2 e
    obtain ⟨us, rfl, q⟩ := ih1 rfl
    exact ⟨us, rfl, q.trans p⟩
theorem cut_enc {α : Type} (f : α → D) (zs : List α) (lo hi : Option Int) : ∃ ys : List α, cutL (zs.map f) lo hi = ys.map f ∧ ∀ y ∈ ys, y ∈ zs := by
  unfold cutL
  refine ⟨_, by rw [← List.map_drop, ← List.map_take], fun y hy => List.mem_of_mem_drop (List.mem_of_mem_take hy)⟩
theorem cut_few {α : Type} (f : α → D) (zs : List α) (lo hi : Option Int) : ∃ ys : List α, cutL (zs.map f) lo hi = ys.map f ∧ (∀ y ∈ ys, y ∈ zs) ∧ ys.length ≤ zs.length := by
  unfold cutL
  refine ⟨_, by rw [← List.map_drop, ← List.map_take], fun y hy => List.mem_of_mem_drop (List.mem_of_mem_take hy), ?_⟩
  rw [List.length_take, List.length_drop]
  omega
theorem pa_any (bs : List Bool) : (bs.map D.bl).length = bs.length := by simp
def S_drawn_lot : ST := fun ds n R => ∃ (ts : List (List Str)) (m : Nat), ds = [.purse, .lst (ts.map tS), .int m] ∧ ts.length ≤ 90000 ∧ m ≤ 1000 ∧ (∀ t ∈ ts, t ≠ [] ∧ t.length ≤ 1000 ∧ t.Nodup) ∧ 100000 ≤ n ∧
  ∀ L : List (List Str), (∀ t ∈ L, t ∈ ts) → (∀ s ∈ L, ∀ t ∈ L, NO s t) → L.length ≤ m → R (.new (.lst (L.map tS))) (n - 100000)
theorem tree_w_drawn_lot : ∀ ds n R, S_drawn_lot ds n R → B_w_drawn_lot S_shuffled S_overlap S_draw (ends R) (slots [true, true, true] ds 4) n := by
  rintro _ n R ⟨ts, m, rfl, few, hm, hts, hn, h⟩
  refine ⟨rfl, small_len, rfl, ts.map tS, rfl, by rw [List.length_map]; omega, by rw [List.length_map]; omega, fun us pus => ?_⟩
  obtain ⟨ss, rfl, pss⟩ := perm_enc tS pus
  have ssm : ∀ t ∈ ss, t ∈ ts := fun t ht => pss.mem_iff.1 ht
  rw [List.length_map]
  refine ⟨(by decide : (1 : Nat) ≤ 2), ?_⟩
  refine forF_inv (j := 0) (fun i Γ k => k = n - ts.length ∧ ∃ (L : List (List Str)) (g4 g5 g6 : Option Rv), Γ = [some (.bor .purse), some (.bor (.lst (ts.map tS))), some (.bor (.int m)), some (.new (.lst (L.map tS))), g4, g5, g6] ∧
    (∀ t ∈ L, t ∈ ts) ∧ (∀ s ∈ L, ∀ t ∈ L, NO s t) ∧ L.length ≤ m) ⟨rfl, [], _, _, _, rfl, fun _ h => (nomatch h), fun _ h => (nomatch h), Nat.zero_le _⟩ ?_ ?_
  · rintro i d Γ k hd ⟨hk, L, g4, g5, g6, rfl, h1, h2, h3⟩
    rw [List.getElem?_map] at hd
    cases hs : ss[i]? with
    | none => rw [hs] at hd; cases hd
    | some t =>
      rw [hs] at hd
      obtain rfl := Option.some.inj hd
      have tt := hts t (ssm t (List.mem_of_getElem? hs))
      refine ⟨_, rfl, fun kk hkk => ?_⟩
      have skip : kk [some (.bor .purse), some (.bor (.lst (ts.map tS))), some (.bor (.int m)), some (.new (.lst (L.map tS))), some (.val (tS t)), g5, g6] k := hkk _ _ ⟨hk, L, _, _, _, rfl, h1, h2, h3⟩
      show (if decide (((L.map tS).length : Int) < m) = true then _ else _)
      rw [List.length_map]
      by_cases lt : (L.length : Int) < m
      · rw [decide_eq_true lt, if_pos rfl]
        refine ⟨by rw [List.length_map]; omega, ?_⟩
        refine lcF_map (f := fun u : List Str => D.bl (ovl t u)) (fun u hu n R hR => ?_) ?_
        · exact ⟨rfl, t, u, rfl, tt.2.1, (hts u (h1 u hu)).2.1, hR (.val _) rfl rfl⟩
        · rw [List.nil_append]
          refine ⟨L.map (ovl t), by rw [List.map_map]; rfl, ?_⟩
          cases ha : (L.map (ovl t)).any id with
          | true => exact skip
          | false =>
            refine ⟨rfl, by rw [List.length_map]; omega, ?_⟩
            refine hkk _ _ ⟨hk, L ++ [t], some (.val (tS t)), g5, g6, by rw [List.map_append]; rfl, ?_, ?_, ?_⟩
            · intro u hu
              rcases List.mem_append.1 hu with hu | hu
              · exact h1 u hu
              · rw [List.mem_singleton.1 hu]
                exact ssm t (List.mem_of_getElem? hs)
            · have no : ∀ u ∈ L, NO t u := fun u hu => by
                have q : ovl t u = false := by
                  cases e : ovl t u with
                  | false => rfl
                  | true =>
                    have : (L.map (ovl t)).any id = true := List.any_eq_true.2 ⟨true, List.mem_map.2 ⟨u, hu, e⟩, rfl⟩
                    rw [ha] at this
                    cases this
                exact (ovl_parts tt.2.2 (hts u (h1 u hu)).2.2).2 q
              intro u hu v hv
              rcases List.mem_append.1 hu with hu | hu
              · rcases List.mem_append.1 hv with hv | hv
                · exact h2 u hu v hv
                · rw [List.mem_singleton.1 hv]
                  exact (no u hu).symm
              · rw [List.mem_singleton.1 hu]
                rcases List.mem_append.1 hv with hv | hv
                · exact no v hv
                · rw [List.mem_singleton.1 hv]
                  exact .inr (.inl fun y hy => hy)
            · rw [List.length_append, List.length_singleton]
              omega
      · rw [decide_eq_false lt, if_neg (by simp)]
        exact skip
  · rintro Γ k ⟨hk, L, g4, g5, g6, rfl, h1, h2, h3⟩
    have lL : L.length ≤ 1000 := by omega
    have fin : ∀ (x : Int) (kn : Nat), n - ts.length ≤ kn + 2 → (tlRet (tlB dSorted (tlCons (tlSl (tlCall [true, true] S_shuffled (tlCons (tlV 0) (tlCons (tlV 3) tlNil))) none (some (tlV 6))) tlNil))) (ends R)
        [some (.bor .purse), some (.bor (.lst (ts.map tS))), some (.bor (.int m)), some (.new (.lst (L.map tS))), g4, g5, some (.val (.int x))] kn := by
      intro x kn hkn
      refine ⟨rfl, L.map tS, rfl, by rw [List.length_map]; omega, by rw [List.length_map]; omega, fun us pus => ?_⟩
      obtain ⟨ms, rfl, pms⟩ := perm_enc tS pus
      obtain ⟨ys, ey, sub, ly⟩ := cut_few tS ms none (some x)
      have inL : ∀ y ∈ ys, y ∈ L := fun y hy => pms.mem_iff.1 (sub y hy)
      have key : dSorted [.lst (cutL (ms.map tS) none (some x))] (fun r => sto r = true ∧ (ends R).rt r (kn - (L.map tS).length)) := by
        rw [ey]
        refine .inr ⟨ys, rfl, fun y hy => (hts y (h1 y (inL y hy))).1, fun zs pzs _ => ⟨rfl, ?_⟩⟩
        have inZ : ∀ y ∈ zs, y ∈ L := fun y hy => inL y (pzs.mem_iff.1 hy)
        refine ⟨_, ?_, h zs (fun t ht => h1 t (inZ t ht)) (fun s hs t ht => h2 s (inZ s hs) t (inZ t ht)) (by rw [pzs.length_eq]; rw [pms.length_eq] at ly; omega)⟩
        rw [List.length_map]
        omega
      exact ⟨rfl, key⟩
    refine ⟨rfl, 2, rfl, by omega, by omega, by omega, fun r hr => ?_⟩
    show (if decide ((r : Int) = 0) = true then _ else _)
    cases decide ((r : Int) = 0) with
    | true => exact fin _ _ (by omega)
    | false =>
      refine ⟨rfl, L.length + 1, ?_, by omega, by omega, by omega, fun q hq => ?_⟩
      · show [D.purse, D.int (((L.map tS).length : Int) + 1)] = _
        rw [List.length_map]
        rfl
      exact fin _ _ (by omega)
end TL

-- T23
set_option Elab.async false
set_option linter.all false
set_option maxRecDepth 100000
set_option maxHeartbeats 400000
/-! T23: worlds led by turns, classes, free worlds -/
namespace TL
open L2 PyProof.Rows PySem PySem.Spec TS RZ
theorem turn_of {xs ys t : List Str} (f : Fits t ys) (few : ys.length ≤ 1000) {n : Nat} {R : Rv → Nat → Prop} (h : R (.new (dW xs (trn t ys))) n) : S_turn [dW xs ys, tS t] n R := by
  obtain ⟨l, m, r, rfl, st⟩ := f
  rw [st.trn] at h
  exact ⟨xs, t, l, m, r, rfl, st.ne, st.hl, st.hm, st.hr, few, h⟩
theorem led_take {ys t : List Str} {L : List (List Str)} {i : Nat} (h : L[i]? = some t) : led ys (L.take (i + 1)) = trn t (led ys (L.take i)) := by
  unfold led
  rw [List.take_succ, h, List.foldl_append]
  rfl
def S_led : ST := fun ds n R => ∃ (xs ys : List Str) (L M : List (List Str)), ds = [dW xs ys, .lst (M.map tS)] ∧ Lot ys L ∧ (∀ t ∈ M, t ∈ L) ∧ ys.length ≤ 1000 ∧ ∀ r : Rv, r.d = dW xs (led ys M) → sto r = true → R r n
theorem tree_w_led : ∀ ds n R, S_led ds n R → B_w_led S_turn (ends R) (slots [false, true] ds 1) n := by
  rintro _ n R ⟨xs, ys, L, M, rfl, lot, sub, few, h⟩
  refine ⟨Nat.le_refl 1, ?_⟩
  refine forF_inv (j := 0) (fun i Γ k => k = n ∧ ∃ (r : Rv) (g2 : Option Rv), Γ = [some r, some (.bor (.lst (M.map tS))), g2] ∧ r.d = dW xs (led ys (M.take i)) ∧ sto r = true) ⟨rfl, _, _, rfl, rfl, rfl⟩ ?_ ?_
  · rintro i d Γ k hd ⟨hk, r, g2, rfl, e, st⟩
    rw [Nat.zero_add] at e ⊢
    rw [List.getElem?_map] at hd
    cases hs : M[i]? with
    | none => rw [hs] at hd; cases hd
    | some t =>
      rw [hs] at hd
      obtain rfl := Option.some.inj hd
      have tL := sub t (List.mem_of_getElem? hs)
      have subT : ∀ u ∈ M.take i, u ∈ L := fun u hu => sub u (List.mem_of_mem_take hu)
      have lot' := lot.led subT
      have pm := lot.perm subT
      refine ⟨_, rfl, fun kk hkk => ?_⟩
      have key : S_turn [r.d, tS t] k (fun r n1 => (tlSet 0 fun _ _ R => R r n1) { nx := kk, ct := kk, bk := (ends R).nx, rt := (ends R).rt } [some r, some (.bor (.lst (M.map tS))), some (.val (tS t))] n1) := by
        rw [e]
        refine turn_of (lot'.fits t tL) (by rw [pm.length_eq]; exact few) ?_
        exact hkk _ _ ⟨hk, _, _, rfl, by rw [led_take hs]; rfl, rfl⟩
      cases r with
      | val d => exact ⟨rfl, by
          obtain ⟨xs', run, l, m, r', e1, ne, hl, hm, hr, fw, q⟩ := key
          exact ⟨xs', run, l, m, r', e1, ne, hl, hm, hr, fw, q⟩⟩
      | new d => exact ⟨rfl, by
          obtain ⟨xs', run, l, m, r', e1, ne, hl, hm, hr, fw, q⟩ := key
          exact ⟨xs', run, l, m, r', e1, ne, hl, hm, hr, fw, q⟩⟩
      | bor d => cases st
      | tmp d => cases st
  · rintro Γ k ⟨hk, r, g2, rfl, e, st⟩
    rw [Nat.zero_add, show M.take (M.map tS).length = M by rw [List.length_map, List.take_length]] at e
    subst hk
    cases r with
    | val d => exact dn_of (h _ e rfl)
    | new d => exact dn_of (h _ e rfl)
    | bor d => cases st
    | tmp d => cases st
/-! ### free worlds -/
def S_free : ST := fun ds n R => ∃ m : Nat, ds = [.purse, .int m] ∧ 1 ≤ m ∧ m ≤ 20 ∧ 3000 ≤ n ∧ ∀ xs ys : List Str, Cat xs → Row xs ys → xs.length = m → R (.new (dW xs ys)) (n - 3000)
theorem tree_w_free : ∀ ds n R, S_free ds n R → B_w_free S_cat S_shuffled (ends R) (slots [true, true] ds 1) n := by
  rintro _ n R ⟨m, rfl, m1, m20, hn, h⟩
  refine ⟨rfl, m, rfl, m1, m20, by omega, fun xs cat lx => ?_⟩
  refine ⟨rfl, xs.map D.str, rfl, by rw [List.length_map]; omega, by rw [List.length_map]; omega, fun us pus => ?_⟩
  obtain ⟨ys, rfl, pys⟩ := perm_str pus
  refine ⟨rfl, small_len, rfl, n - 3000, by rw [List.length_map]; omega, ?_⟩
  exact h xs ys cat ⟨fun y hy => pys.mem_iff.1 hy, pys.nodup_iff.2 cat.2.2.2, pys.length_eq⟩ lx
/-! ### classes -/
/-- a home, what can be turned there, lots -/
structure Cls (xs home : List Str) (ts : List (List Str)) (lots : List (List (List Str))) : Prop where
  cat : Cat xs
  row : Row xs home
  runs : ∀ t ∈ ts, IsRun xs home t
  lot : ∀ L ∈ lots, Lot home L ∧ L.length ≤ 12 ∧ ∀ t ∈ L, t ∈ ts
@[reducible] def dL (L : List (List Str)) : D := .lst (L.map tS)
@[reducible] def dC (xs home : List Str) (ts : List (List Str)) (lots : List (List (List Str))) : D :=
  .lst [dW xs home, dL ts, .lst (lots.map dL), .lst (lots.map fun L => dW xs (led home L))]
def S_class : ST := fun ds n R => ∃ m k : Nat, ds = [.purse, .int m, .int k] ∧ 1 ≤ m ∧ m ≤ 12 ∧ k ≤ 3 ∧ 1000000 ≤ n ∧ ∀ (xs home : List Str) (ts : List (List Str)) (lots : List (List (List Str))),
  Cls xs home ts lots → xs.length = m → lots.length = k → R (.new (dC xs home ts lots)) (n - 1000000)
theorem run_nd {xs ys t : List Str} (nd : xs.Nodup) (h : IsRun xs ys t) : t.Nodup := by
  obtain ⟨a, b, e⟩ := h.cat
  rw [e] at nd
  exact (List.nodup_append.1 (List.nodup_append.1 nd).1).2.1
theorem run_ne {xs ys t : List Str} (h : IsRun xs ys t) : t ≠ [] := fun e => by have := h.two; rw [e] at this; exact absurd this (by decide)
theorem run_few {xs ys t : List Str} (h : IsRun xs ys t) : t.length ≤ xs.length := by
  obtain ⟨a, b, e⟩ := h.cat
  rw [e]
  simp
  omega
theorem lcF_go {pt : Pat} {c : TBx} {e : TX} {Γ : Gm} {k : List D → Nat → Prop} (Iv : Nat → List D → Nat → Prop) : ∀ {ds : List D} {j : Nat} {acc : List D} {n : Nat}, Iv j acc n →
    (∀ (i : Nat) (d : D) (acc : List D) (n : Nat), ds[i]? = some d → Iv (j + i) acc n → ∃ Γ', bindP pt d Γ = some Γ' ∧ ∀ k' : List D → Nat → Prop, (∀ acc n, Iv (j + i + 1) acc n → k' acc n) → c Γ' n fun b n1 => if b = true then e Γ' n1 fun rv n2 => sto rv = true ∧ k' (acc ++ [rv.d]) n2 else k' acc n1) →
    (∀ acc n, Iv (j + ds.length) acc n → k acc n) → lcF pt c e Γ ds acc n k
  | [], j, acc, n, h0, _, hd => hd acc n h0
  | d :: r, j, acc, n, h0, hs, hd => by
    obtain ⟨Γ', eb, h⟩ := hs 0 d acc n rfl h0
    unfold lcF
    rw [eb]
    refine h _ fun acc2 n2 h1 => lcF_go Iv h1 (fun i d acc n hi hI => ?_) fun acc n h => hd acc n (by rw [List.length_cons, show j + (r.length + 1) = j + 1 + r.length by omega]; exact h)
    have := hs (i + 1) d acc n (by simpa using hi) (by rw [show j + (i + 1) = j + 1 + i by omega]; exact hI)
    rw [show j + (i + 1) + 1 = j + 1 + i + 1 by omega] at this
    exact this
abbrev clsT : TSt := (tlSq (tlSet 7 (tlLc (tlRng1 (tlV 2)) (.nm 8) tlYes (tlCall [true, true, true] S_drawn_lot (tlCons (tlV 0) (tlCons (tlV 6) (tlCons (tlC (.int 12)) tlNil)))) [8])) (tlRel 7 (tlRel 6 (tlRel 5 (tlRet (tlLst (tlCons (tlV 5) (tlCons (tlV 6) (tlCons (tlV 7) (tlCons (tlLc (tlSeq (tlV 7)) (.nm 9) tlYes (tlCall [false, true] S_led (tlCons (tlV 5) (tlCons (tlCall [true, true] S_shuffled (tlCons (tlV 0) (tlCons (tlV 9) tlNil))) tlNil))) [9]) tlNil))))))))))
theorem cls_tail {n : Nat} {R : Rv → Nat → Prop} {xs home : List Str} {ts : List (List Str)} {k m : Nat} {nd : D} (cat : Cat xs) (row : Row xs home) (few : xs.length ≤ 12) (hts : ∀ t ∈ ts, IsRun xs home t) (fts : ts.length ≤ 80000) (k3 : k ≤ 3) (hn : 500000 ≤ n)
    (h : ∀ lots : List (List (List Str)), Cls xs home ts lots → lots.length = k → ∃ q, q + 500000 ≤ n ∧ R (.new (dC xs home ts lots)) q) :
    clsT (ends R) [some (.bor .purse), some (.val (.int m)), some (.bor (.int k)), some (.val (dS xs)), some (.new nd), some (.new (dW xs home)), some (.new (dL ts)), none, none, none] n := by
  refine ⟨by omega, by omega, by simp [rng]; omega, ?_⟩
  have kk : ((rng 0 ((k : Nat) : Int)).map D.int).length = k := by simp [rng]
  show lcF _ _ _ [some (.bor .purse), some (.val (.int m)), some (.bor (.int k)), some (.val (dS xs)), some (.bor nd), some (.bor (dW xs home)), some (.bor (dL ts)), none, none, none] _ _ _ _
  refine lcF_go (j := 0) (fun j acc q => q + 100000 * j = n ∧ ∃ lots : List (List (List Str)), acc = lots.map dL ∧ lots.length = j ∧ ∀ L ∈ lots, Lot home L ∧ L.length ≤ 12 ∧ ∀ t ∈ L, t ∈ ts) ⟨rfl, [], rfl, rfl, fun _ h => nomatch h⟩ ?_ ?_
  · rintro i d acc q hd ⟨hq, lots, rfl, ll, hL⟩
    rw [Nat.zero_add] at hq ll
    have li : i < k := by rw [← kk]; exact (List.getElem?_eq_some_iff.1 hd).1
    refine ⟨_, rfl, fun k' hk' => ?_⟩
    refine ⟨rfl, ts, 12, rfl, by omega, by omega, fun t ht => ⟨run_ne (hts t ht), by have := run_few (hts t ht); omega, run_nd cat.2.2.2 (hts t ht)⟩, by omega, fun L sub no len => ⟨rfl, ?_⟩⟩
    refine hk' _ _ ⟨by omega, lots ++ [L], by rw [List.map_append]; rfl, by rw [List.length_append, List.length_singleton]; omega, fun M hM => ?_⟩
    rcases List.mem_append.1 hM with hM | hM
    · exact hL M hM
    · rw [List.mem_singleton.1 hM]
      exact ⟨⟨fun s hs => (hts s (sub s hs)).fits, no⟩, len, sub⟩
  · rintro acc q ⟨hq, lots, rfl, ll, hL⟩
    rw [Nat.zero_add, kk] at hq ll
    have fin : ∀ q', q ≤ q' + 100 * lots.length → (tlLst (tlCons (tlV 5) (tlCons (tlV 6) (tlCons (tlV 7) (tlCons (fun _ _ R => R (.new (.lst (lots.map fun L => dW xs (led home L)))) q') tlNil))))) [some (.bor .purse), some (.val (.int m)), some (.bor (.int k)), some (.val (dS xs)), some (.new nd), some (.val (dW xs home)), some (.val (dL ts)), some (.val (.lst (lots.map dL))), none, none] q fun r n1 => sto r = true ∧ (ends R).rt r n1 := by
      intro q' hq'
      obtain ⟨q0, h0, h⟩ := h lots ⟨cat, row, hts, hL⟩ ll
      exact ⟨rfl, small_len, rfl, q0, by omega, h⟩
    show (tlLst (tlCons (tlV 5) (tlCons (tlV 6) (tlCons (tlV 7) (tlCons (tlLc (tlSeq (tlV 7)) (.nm 9) tlYes (tlCall [false, true] S_led (tlCons (tlV 5) (tlCons (tlCall [true, true] S_shuffled (tlCons (tlV 0) (tlCons (tlV 9) tlNil))) tlNil))) [9]) tlNil))))) [some (.bor .purse), some (.val (.int m)), some (.bor (.int k)), some (.val (dS xs)), some (.new nd), some (.val (dW xs home)), some (.val (dL ts)), some (.val (.lst (lots.map dL))), none, none] q fun r n1 => sto r = true ∧ (ends R).rt r n1
    refine ⟨by rw [List.length_map]; omega, ?_⟩
    show lcF _ _ _ [some (.bor .purse), some (.val (.int m)), some (.bor (.int k)), some (.val (dS xs)), some (.bor nd), some (.val (dW xs home)), some (.val (dL ts)), some (.val (.lst (lots.map dL))), none, none] _ _ _ _
    refine lcF_go (j := 0) (fun j acc q' => q ≤ q' + 100 * j ∧ acc = (lots.take j).map fun L => dW xs (led home L)) ⟨Nat.le_refl _, rfl⟩ ?_ ?_
    · rintro i d acc q' hd ⟨hq', rfl⟩
      rw [Nat.zero_add] at hq' ⊢
      rw [List.getElem?_map] at hd
      cases hs : lots[i]? with
      | none => rw [hs] at hd; cases hd
      | some L =>
        rw [hs] at hd
        obtain rfl := Option.some.inj hd
        have li : i < lots.length := (List.getElem?_eq_some_iff.1 hs).1
        obtain ⟨lot, few12, _⟩ := hL L (List.mem_of_getElem? hs)
        refine ⟨_, rfl, fun k' hk' => ?_⟩
        refine ⟨rfl, L.map tS, rfl, by rw [List.length_map]; omega, by rw [List.length_map]; omega, fun us pus => ?_⟩
        obtain ⟨M, rfl, pM⟩ := perm_enc tS pus
        have sub : ∀ t ∈ M, t ∈ L := fun t ht => pM.mem_iff.1 ht
        refine ⟨rfl, xs, home, L, M, rfl, lot, sub, by rw [row.2.2]; omega, fun r er st => ⟨st, hk' _ _ ⟨?_, ?_⟩⟩⟩
        · rw [List.length_map]
          omega
        · rw [er, List.take_succ, hs, lot.order pM sub]
          simp
    · rintro acc q' ⟨hq', rfl⟩
      rw [Nat.zero_add, List.length_map] at hq' ⊢
      rw [List.take_length]
      exact fin q' hq'
theorem tree_w_class : ∀ ds n R, S_class ds n R → B_w_class S_cat S_nodes S_home S_turnables S_drawn_lot S_led S_shuffled (ends R) (slots [true, false, true] ds 7) n := by
  rintro _ n R ⟨m, k, rfl, m1, m12, k3, hn, h⟩
  refine ⟨rfl, m, rfl, m1, by omega, by omega, fun xs cat lx => ?_⟩
  refine ⟨rfl, m, rfl, m1, by omega, by omega, fun ns ok few => ?_⟩
  have ok' : Ok xs.length ns.length ns := by rw [lx]; exact ok
  have pmh : ((lv ns 0).map (wd xs)).Perm xs := by
    obtain ⟨n0, hn0, hs0, hm0⟩ := ok'.root
    have pos : 0 < ns.length := (List.getElem?_eq_some_iff.1 hn0).1
    have := lv_perm ok' ns.length 0 (by omega) n0 hn0
    rw [hs0, hm0, ← List.range_eq_range'] at this
    exact wd_perm this
  refine ⟨rfl, ns, xs, rfl, ok', by omega, few, ?_⟩
  refine ⟨rfl, small_len, ?_⟩
  refine ⟨rfl, ns, xs, rfl, ok', by omega, few, cat.2.2.2, fun ts hts fts => ?_⟩
  have row : Row xs ((lv ns 0).map (wd xs)) := ⟨fun y hy => pmh.mem_iff.1 hy, pmh.nodup_iff.2 cat.2.2.2, pmh.length_eq⟩
  refine cls_tail cat row (by omega) hts fts k3 (by omega) fun lots c ll => ⟨_, ?_, h xs _ ts lots c lx ll⟩
  omega
/-! ### worlds -/
def S_world : ST := fun ds n R => ∃ m : Nat, ds = [.purse, .int m] ∧ 1 ≤ m ∧ m ≤ 12 ∧ 2000000 ≤ n ∧ ∀ xs ys : List Str, Cat xs → Row xs ys → xs.length = m → ∀ r : Rv, r.d = dW xs ys → sto r = true → R r (n - 2000000)
theorem tree_w_world : ∀ ds n R, S_world ds n R → B_w_world S_draw S_free S_class (ends R) (slots [true, false] ds 0) n := by
  rintro _ n R ⟨m, rfl, m1, m12, hn, h⟩
  refine ⟨rfl, 4, rfl, by omega, by omega, by omega, fun r hr => ?_⟩
  show (if decide ((r : Int) = 0) = true then _ else _)
  cases decide ((r : Int) = 0) with
  | true =>
    refine ⟨rfl, m, rfl, m1, by omega, by omega, fun xs ys cat row lx => ⟨rfl, n - 2000000, by omega, h xs ys cat row lx _ rfl rfl⟩⟩
  | false =>
    refine ⟨rfl, m, 1, rfl, m1, m12, by omega, by omega, fun xs home ts lots c lx ll => ?_⟩
    refine ⟨_, atI_nat (j := 3) rfl, ?_⟩
    cases lots with
    | nil => cases ll
    | cons L r =>
      have lot := (c.lot L List.mem_cons_self).1
      have pm := lot.perm (M := L) fun _ h => h
      have row := c.row
      refine ⟨dW xs (led home L), atI_nat (j := 0) rfl, rfl, n - 2000000, by omega, h xs _ c.cat ⟨fun y hy => row.1 y (pm.mem_iff.1 hy), pm.nodup_iff.2 row.2.1, by rw [pm.length_eq]; exact row.2.2⟩ lx _ rfl rfl⟩
end TL

-- T24
set_option Elab.async false
set_option linter.all false
set_option maxRecDepth 100000
set_option maxHeartbeats 400000
/-! T24: what the law asks of a shelf behind a turn -/
namespace TL
open L2 PyProof.Rows PySem PySem.Spec TS RZ
/-! ### sorted texts -/
theorem ncps_trans : ∀ (a b c : List Nat), ltCps b a = false → ltCps c b = false → ltCps c a = false
  | [], _, [], _, _ => rfl
  | [], _, _ :: _, _, _ => rfl
  | _ :: _, [], _, h, _ => by cases h
  | _ :: _, _ :: _, [], _, h => by cases h
  | x :: a, y :: b, z :: c, h1, h2 => by
    have ih := ncps_trans a b c
    simp only [ltCps, Bool.or_eq_false_iff, decide_eq_false_iff_not, Bool.and_eq_false_iff, beq_eq_false_iff_ne, Nat.not_lt] at h1 h2 ⊢
    refine ⟨Nat.le_trans h1.1 h2.1, ?_⟩
    by_cases e : z = x
    · refine .inr (ih ?_ ?_)
      · exact h1.2.resolve_left (by omega)
      · exact h2.2.resolve_left (by omega)
    · exact .inl e
theorem ncps_anti : ∀ (a b : List Nat), ltCps b a = false → ltCps a b = false → a = b
  | [], [], _, _ => rfl
  | [], _ :: _, _, h => by cases h
  | _ :: _, [], h, _ => by cases h
  | x :: a, y :: b, h1, h2 => by
    simp only [ltCps, Bool.or_eq_false_iff, decide_eq_false_iff_not, Bool.and_eq_false_iff, beq_eq_false_iff_ne, Nat.not_lt] at h1 h2
    have e : x = y := by omega
    subst e
    rw [ncps_anti a b (h1.2.resolve_left fun z => z rfl) (h2.2.resolve_left fun z => z rfl)]
theorem str_cps {x y : Str} (h : x.cps.toList = y.cps.toList) : x = y := by
  cases x; cases y
  congr 1
  exact Array.toList_inj.1 h
theorem rising_all : ∀ {p : Str} {l : List Str}, risingS p l = true → (p :: l).Pairwise fun a b => ltCps b.cps.toList a.cps.toList = false
  | p, [], _ => by simp
  | p, x :: r, h => by
    have h : (!ltCps x.cps.toList p.cps.toList && risingS x r) = true := h
    rw [Bool.and_eq_true, Bool.not_eq_true'] at h
    have ih := rising_all h.2
    refine List.pairwise_cons.2 ⟨fun y hy => ?_, ih⟩
    rcases List.mem_cons.1 hy with e | hy
    · rw [e]
      exact h.1
    · exact ncps_trans _ _ _ h.1 ((List.pairwise_cons.1 ih).1 y hy)
theorem sortedS_all {l : List Str} (h : sortedS l = true) : l.Pairwise fun a b => ltCps b.cps.toList a.cps.toList = false := by
  cases l with
  | nil => exact List.Pairwise.nil
  | cons x r => exact rising_all h
theorem sortS_uniq : ∀ {l m : List Str}, l.Pairwise (fun a b => ltCps b.cps.toList a.cps.toList = false) → m.Pairwise (fun a b => ltCps b.cps.toList a.cps.toList = false) → l.Perm m → l = m
  | [], m, _, _, p => by rw [p.nil_eq]
  | x :: l, [], _, _, p => by have := p.length_eq; simp at this
  | x :: l, y :: m, h1, h2, p => by
    rw [List.pairwise_cons] at h1 h2
    have e : x = y := by
      by_cases q : x = y
      · exact q
      · have hx : x ∈ m := (List.mem_cons.1 (p.mem_iff.1 List.mem_cons_self)).resolve_left q
        have hy : y ∈ l := (List.mem_cons.1 (p.mem_iff.2 List.mem_cons_self)).resolve_left fun z => q z.symm
        exact str_cps (ncps_anti _ _ (h1.1 y hy) (h2.1 x hx))
    subst e
    rw [sortS_uniq h1.2 h2.2 ((List.perm_cons x).1 p)]
/-! ### the same data -/
theorem eqv_lst (a b : List Str) : PyData.eqv (toP (dS a)) (toP (dS b)) = decide (a = b) := by
  show PyData.eqv (.list (toPs (a.map D.str))) (.list (toPs (b.map D.str))) = _
  unfold PyData.eqv
  exact eqv_txts a b
theorem dep_dS (a b : List Str) : min (dep (dS a)) (dep (dS b)) ≤ 60 := by
  simp only [dep, deps_str]
  omega
theorem xd_str (k : Nat) (z : Str) : xd k (.str z) := by cases k <;> rfl
theorem xd_bl (k : Nat) (b : Bool) : xd k (.bl b) := by cases k <;> rfl
theorem xd_dS {k : Nat} {xs : List Str} (few : xs.length ≤ 100000) : xd (k + 1) (dS xs) := ⟨by rw [List.length_map]; exact few, fun d hd => by
  obtain ⟨z, _, rfl⟩ := List.mem_map.1 hd
  exact xd_str k z⟩
theorem xd_tS {k : Nat} {xs : List Str} (few : xs.length ≤ 100000) : xd (k + 1) (tS xs) := ⟨by rw [List.length_map]; exact few, fun d hd => by
  obtain ⟨z, _, rfl⟩ := List.mem_map.1 hd
  exact xd_str k z⟩
theorem xd_dW {k : Nat} {xs ys : List Str} (f1 : xs.length ≤ 100000) (f2 : ys.length ≤ 100000) : xd (k + 2) (dW xs ys) := ⟨Nat.le_trans small_len (by decide : 1000 ≤ 100000), fun d hd => by
  rcases List.mem_cons.1 hd with rfl | hd
  · exact xd_dS f1
  · rw [List.mem_singleton.1 hd]
    exact xd_dS f2⟩
theorem xd_dL {k : Nat} {rs : List (List Str)} (few : rs.length ≤ 100000) (f : ∀ r ∈ rs, r.length ≤ 100000) : xd (k + 2) (dL rs) := ⟨by rw [List.length_map]; exact few, fun d hd => by
  obtain ⟨z, hz, rfl⟩ := List.mem_map.1 hd
  exact xd_tS (f z hz)⟩
theorem row_words {xs ys : List Str} (cat : Cat xs) (row : Row xs ys) : wrds ys := fun y hy => cat.2.2.1 y (row.1 y hy)
theorem same_both (xs ys : List Str) : (decide (xs = xs) && decide (ys = ys)) = true := by simp
theorem eq_self {xs ys : List Str} (cat : Cat xs) (row : Row xs ys) {R : Rv → Prop} (h : R (.val (.bl true))) : dEqA (.sh xs ys) (.sh xs ys) R :=
  ⟨cat.2.2.1, row_words cat row, cat.2.2.1, row_words cat row, by rw [same_both]; exact h⟩
theorem ne_self {xs ys : List Str} (cat : Cat xs) (row : Row xs ys) {R : Rv → Prop} (h : R (.val (.bl false))) : dNeA (.sh xs ys) (.sh xs ys) R :=
  ⟨cat.2.2.1, row_words cat row, cat.2.2.1, row_words cat row, by rw [same_both]; exact h⟩
def S_unspoilt : ST := fun ds n R => ∃ xs ys : List Str, ds = [.sh xs ys, dW xs ys] ∧ Cat xs ∧ Row xs ys ∧ R (.val (.bl true)) n
def S_sound : ST := fun ds n R => ∃ xs ys : List Str, ds = [.sh xs ys, dS xs] ∧ Cat xs ∧ Row xs ys ∧ xs.length < 64 ∧ R (.val (.bl true)) n
end TL

-- T25
set_option Elab.async false
set_option linter.all false
set_option maxRecDepth 100000
set_option maxHeartbeats 400000
/-! T25: a turn is right -/
namespace TL
open L2 PyProof.Rows PySem PySem.Spec TS RZ
theorem runs_few {xs ys : List Str} {rs : List (List Str)} (h : IsRuns xs ys rs) : rs.length ≤ ys.length * ys.length := by
  rw [h.perm.length_eq]
  have e : (rk xs ys).length = ys.length := by unfold rk; rw [List.length_map]
  unfold raw
  rw [e]
  refine flat_len _ _ (fun b => ?_) _
  refine Nat.le_trans (List.length_filterMap_le _ _) ?_
  rw [List.length_range]
  omega
theorem run_sub {xs ys t : List Str} (h : IsRun xs ys t) : ∀ y ∈ t, y ∈ xs := fun y hy => by
  obtain ⟨a, b, e⟩ := h.cat
  rw [e]
  exact List.mem_append_left _ (List.mem_append_right _ hy)
theorem trn_ne {t ys : List Str} (nd : ys.Nodup) (f : Fits t ys) (two : 2 ≤ t.length) (sub : ∀ y ∈ t, y ∈ ys) (ndt : t.Nodup) : trn t ys ≠ ys := by
  obtain ⟨l, m, r, rfl, st⟩ := f
  rw [st.trn]
  intro e
  have inm : ∀ y ∈ t, y ∈ m := fun y hy => by
    rcases List.mem_append.1 (sub y hy) with h | h
    · rcases List.mem_append.1 h with h | h
      · exact absurd hy (st.hl y h)
      · exact h
    · exact absurd hy (st.hr y h)
  have lm : t.length ≤ m.length := nodup_le t m ndt inm
  have em : m.reverse = m := by
    rw [List.append_assoc, List.append_assoc] at e
    have e := List.append_cancel_left e
    exact (List.append_inj e (by simp)).1
  have ndm : m.Nodup := (List.nodup_append.1 (List.nodup_append.1 nd).1).2.1
  match m, em, ndm, lm with
  | [], _, _, lm => exact absurd (Nat.le_trans two lm) (by simp)
  | [a], _, _, lm => exact absurd (Nat.le_trans two lm) (by simp)
  | a :: b :: q, em, ndm, _ =>
    have h0 : (a :: b :: q).reverse[0]? = (a :: b :: q)[0]? := by rw [em]
    rw [List.getElem?_reverse (by simp)] at h0
    have ll : (a :: b :: q).length - 1 - 0 = q.length + 1 := by simp
    rw [ll] at h0
    have inq : a ∈ b :: q := by
      have : (a :: b :: q)[q.length + 1]? = (b :: q)[q.length]? := by simp
      rw [this] at h0
      exact List.mem_of_getElem? h0
    exact (List.nodup_cons.1 ndm).1 inq
def S_turn_right : ST := fun ds n R => ∃ (xs ys t : List Str) (rs : List (List Str)), ds = [dW xs ys, .sh xs ys, tS t, dL rs] ∧ Cat xs ∧ Row xs ys ∧ xs.length ≤ 20 ∧ IsRun xs ys t ∧ IsRuns xs ys rs ∧ R (.val (.bl true)) n
theorem lost_list {xs ys t : List Str} {rs rs' : List (List Str)} (cat : Cat xs) (row : Row xs ys) (run : IsRun xs ys t) (h : IsRuns xs ys rs) (h' : IsRuns xs (trn t ys) rs') : (rs.filter fun o => !decide (o ∈ rs')) = rs.filter fun o => ovl t o := by
  have pm := row_perm cat row
  have row' := row.perm run.fits.perm
  have pm' := row_perm cat row'
  refine List.filter_congr fun o ho => ?_
  have io := (h.mem cat.2.2.2 pm).1 ho
  have l := lost (run_nd cat.2.2.2 run) (run_nd cat.2.2.2 io) (fun y hy => pm.mem_iff.2 (run_sub run y hy)) (fun y hy => pm.mem_iff.2 (run_sub io y hy)) run.fits io.fits
  by_cases q : o ∈ rs'
  · have := l.1 ((h'.mem cat.2.2.2 pm').1 q).fits
    rw [decide_eq_true q, this]
    rfl
  · rw [decide_eq_false q]
    cases e : ovl t o with
    | true => rfl
    | false => exact absurd ((h'.mem cat.2.2.2 pm').2 ⟨io.two, io.cat, l.2 e⟩) q
abbrev trT : TSt := (tlRet (tlCall [true, true] (S_exact 4) (tlCons (tlLc (tlSeq (tlV 3)) (.nm 8) (tlT (tlOp dNin (tlV 8) (tlV 7))) (tlV 8) [8]) (tlCons (tlLc (tlSeq (tlV 3)) (.nm 8) (tlT (tlCall [true, true] S_overlap (tlCons (tlV 2) (tlCons (tlV 8) tlNil)))) (tlV 8) [8]) tlNil))))
theorem tr_tail {n : Nat} {R : Rv → Nat → Prop} {xs ys t : List Str} {rs rs' : List (List Str)} {d4 d5 d6 : D} (cat : Cat xs) (row : Row xs ys) (few : xs.length ≤ 20) (run : IsRun xs ys t) (h : IsRuns xs ys rs) (h' : IsRuns xs (trn t ys) rs') (q : R (.val (.bl true)) n) :
    trT (ends R) [some (.bor (dW xs ys)), some (.bor (.sh xs ys)), some (.bor (tS t)), some (.bor (dL rs)), some (.new d4), some (.new d5), some (.new d6), some (.val (dL rs')), none] n := by
  have pm := row_perm cat row
  have fr := runs_few h
  have ly := row.2.2
  have sq : ys.length * ys.length ≤ 400 := Nat.mul_le_mul (by omega : ys.length ≤ 20) (by omega : ys.length ≤ 20)
  have len : ∀ o ∈ rs, o.length ≤ 20 := fun o ho => Nat.le_trans (run_few ((h.mem cat.2.2.2 pm).1 ho)) few
  have lt := run_few run
  refine ⟨by rw [List.length_map]; omega, ?_⟩
  show lcF _ _ _ [some (.bor (dW xs ys)), some (.bor (.sh xs ys)), some (.bor (tS t)), some (.bor (dL rs)), some (.bor d4), some (.bor d5), some (.bor d6), some (.val (dL rs')), none] (rs.map tS) _ _ _
  refine lcF_filter (f := tS) (b := fun o => !decide (o ∈ rs')) (fun o ho n R hR => ?_) (fun o _ _ n R hR => hR (.val (tS o)) rfl rfl) ?_
  · refine ⟨plns_str o, plns_tup rs', dep_tup rs', ?_⟩
    have hR' : R (!decide (o ∈ rs')) n := hR
    rw [← any_tup] at hR'
    exact hR'
  · rw [List.nil_append]
    refine ⟨by rw [List.length_map]; omega, ?_⟩
    show lcF _ _ _ [some (.bor (dW xs ys)), some (.bor (.sh xs ys)), some (.bor (tS t)), some (.bor (dL rs)), some (.bor d4), some (.bor d5), some (.bor d6), some (.val (dL rs')), none] (rs.map tS) _ _ _
    refine lcF_filter (f := tS) (b := fun o => ovl t o) (fun o ho n R hR => ?_) (fun o _ _ n R hR => hR (.val (tS o)) rfl rfl) ?_
    · exact ⟨rfl, t, o, rfl, by omega, by have := len o ho; omega, hR⟩
    · rw [List.nil_append, lost_list cat row run h h']
      refine ⟨rfl, dL (rs.filter fun o => ovl t o), rfl, ?_, rfl, dn_of q⟩
      refine xd_dL (k := 2) (Nat.le_trans (List.length_filter_le _ _) (by omega)) fun o ho => ?_
      have := len o (List.mem_filter.1 ho).1
      omega
end TL

-- T30
set_option Elab.async false
set_option linter.all false
set_option maxRecDepth 100000
set_option maxHeartbeats 400000
/-! T30: least runs -/
namespace TL
open L2 PyProof.Rows PySem PySem.Spec TS RZ
/-- r has all of bs -/
def has (bs r : List Str) : Bool := bs.all fun b => decide (b ∈ r)
theorem has_iff {bs r : List Str} : has bs r = true ↔ ∀ b ∈ bs, b ∈ r := by simp [has]
theorem has_perm {bs cs : List Str} (p : cs.Perm bs) : has cs = has bs := by
  funext r
  refine Bool.eq_iff_iff.2 ?_
  rw [has_iff, has_iff]
  exact ⟨fun h b hb => h b (p.mem_iff.2 hb), fun h b hb => h b (p.mem_iff.1 hb)⟩
section
variable {α : Type}
theorem Shortest.uniq {xss : List (List α)} {t u : List α} (h : Shortest xss t) (h' : Shortest xss u) : t = u := by
  obtain ⟨i, hi, a⟩ := h
  obtain ⟨j, hj, b⟩ := h'
  have e : i = j := by
    rcases Nat.lt_trichotomy i j with l | l | l
    · have h1 := (a j u hj).1
      have h2 := (b i t hi).2 l
      omega
    · exact l
    · have h1 := (b i t hi).1
      have h2 := (a j u hj).2 l
      omega
  subst e
  exact Option.some.inj (hi.symm.trans hj)
theorem Shortest.mem {xss : List (List α)} {t : List α} (h : Shortest xss t) : t ∈ xss := by
  obtain ⟨i, hi, _⟩ := h
  exact List.mem_of_getElem? hi
theorem Shortest.le {xss : List (List α)} {t u : List α} (h : Shortest xss t) (hu : u ∈ xss) : t.length ≤ u.length := by
  obtain ⟨i, hi, a⟩ := h
  obtain ⟨j, lj, rfl⟩ := List.getElem_of_mem hu
  exact (a j _ (List.getElem?_eq_getElem lj)).1
theorem Shortest.one (t : List α) : Shortest [t] t := ⟨0, rfl, fun j u h => by
  match j, h with
  | 0, h =>
    obtain rfl := Option.some.inj h
    exact ⟨Nat.le_refl _, fun l => absurd l (Nat.lt_irrefl _)⟩⟩
theorem Shortest.keep {xss : List (List α)} {t r : List α} (h : Shortest xss t) (l : t.length ≤ r.length) : Shortest (xss ++ [r]) t := by
  obtain ⟨i, hi, a⟩ := h
  have li := (List.getElem?_eq_some_iff.1 hi).1
  refine ⟨i, by rw [List.getElem?_append_left li]; exact hi, fun j u hu => ?_⟩
  by_cases lj : j < xss.length
  · rw [List.getElem?_append_left lj] at hu
    exact a j u hu
  · rw [List.getElem?_append_right (by omega)] at hu
    have e : j - xss.length = 0 := by
      have := (List.getElem?_eq_some_iff.1 hu).1
      rw [List.length_singleton] at this
      omega
    rw [e] at hu
    obtain rfl := Option.some.inj hu
    exact ⟨l, fun z => by omega⟩
theorem Shortest.next {xss : List (List α)} {t r : List α} (h : Shortest xss t) (l : r.length < t.length) : Shortest (xss ++ [r]) r := by
  obtain ⟨i, hi, a⟩ := h
  refine ⟨xss.length, by rw [List.getElem?_append_right (Nat.le_refl _), Nat.sub_self]; rfl, fun j u hu => ?_⟩
  by_cases lj : j < xss.length
  · rw [List.getElem?_append_left lj] at hu
    have := (a j u hu).1
    exact ⟨by omega, fun _ => by omega⟩
  · rw [List.getElem?_append_right (by omega)] at hu
    have e : j - xss.length = 0 := by
      have := (List.getElem?_eq_some_iff.1 hu).1
      rw [List.length_singleton] at this
      omega
    rw [e] at hu
    obtain rfl := Option.some.inj hu
    exact ⟨Nat.le_refl _, fun z => by omega⟩
theorem Shortest.of_map {xss : List (List α)} {f : α → D} {t' : List D} (h : Shortest (xss.map (List.map f)) t') : ∃ t, t' = t.map f ∧ Shortest xss t := by
  obtain ⟨i, hi, a⟩ := h
  rw [List.getElem?_map] at hi
  obtain ⟨t, ht, rfl⟩ := Option.map_eq_some_iff.1 hi
  refine ⟨t, rfl, i, ht, fun j u hu => ?_⟩
  have := a j (u.map f) (by rw [List.getElem?_map, hu]; rfl)
  rw [List.length_map, List.length_map] at this
  exact this
theorem Shortest.ex : ∀ {xss : List (List α)}, xss ≠ [] → ∃ t, Shortest xss t := by
  intro xss
  generalize hn : xss.length = n
  induction n generalizing xss with
  | zero => intro h; exact absurd (List.length_eq_zero_iff.1 hn) h
  | succ n ih =>
    intro h
    obtain ⟨ys, r, rfl⟩ : ∃ ys r, xss = ys ++ [r] := ⟨xss.dropLast, xss.getLast h, (List.dropLast_concat_getLast h).symm⟩
    rw [List.length_append, List.length_singleton] at hn
    by_cases e : ys = []
    · subst e
      exact ⟨r, .one r⟩
    · obtain ⟨t, ht⟩ := ih (by omega) e
      by_cases l : r.length < t.length
      · exact ⟨r, ht.next l⟩
      · exact ⟨t, ht.keep (by omega)⟩
end
def S_shared : ST := fun ds n R => ∃ a b : List Str, (ds = [dS a, tS b] ∨ ds = [tS a, tS b]) ∧ a.length ≤ 1000 ∧ R (.new (dS (a.filter fun y => decide (y ∈ b)))) n
theorem filter_has {bs r : List Str} : (bs.filter fun y => decide (y ∈ r)).length = bs.length ↔ has bs r = true := by
  rw [List.length_filter_eq_length_iff, has_iff]
  simp
def S_least_run : ST := fun ds n R => ∃ xs ys bs : List Str, ds = [.sh xs ys, dS bs] ∧ Cat xs ∧ Row xs ys ∧ (∀ b ∈ bs, b ∈ xs) ∧ bs.Nodup ∧ 2 ≤ bs.length ∧
  ∀ rs t, IsRuns xs ys rs → Shortest (rs.filter (has bs)) t → R (.val (tS t)) n
/-- the law's own -/
def S_wleast : ST := fun ds n R => ∃ (rs : List (List Str)) (bs : List Str), ds = [dL rs, dS bs] ∧ rs.length ≤ 100000 ∧ bs.length ≤ 1000 ∧ (∀ r ∈ rs, r.length ≤ 1000) ∧ rs.filter (has bs) ≠ [] ∧ ∀ t, Shortest (rs.filter (has bs)) t → R (.val (tS t)) n
theorem dall_of {bs : List Bool} {R : Rv → Prop} (h : R (.val (.bl (bs.all id)))) : dAll [.lst (bs.map D.bl)] R := ⟨bs, rfl, h⟩
end TL

-- T31
set_option Elab.async false
set_option linter.all false
set_option maxRecDepth 100000
set_option maxHeartbeats 400000
/-! T31: stretches as segments; runs cut, joined, parted -/
namespace TL
open L2 PyProof.Rows PySem PySem.Spec TS RZ
/-- just the places from s on below e are in S -/
def Seg (L S : List Str) : Prop := ∃ s e, s < e ∧ e ≤ L.length ∧ ∀ i x, L[i]? = some x → (x ∈ S ↔ s ≤ i ∧ i < e)
theorem Fits.seg {L S : List Str} (h : Fits S L) : Seg L S := by
  obtain ⟨l, m, r, rfl, st⟩ := h
  have lm : 0 < m.length := List.length_pos_iff.2 st.ne
  refine ⟨l.length, l.length + m.length, by omega, by rw [List.length_append, List.length_append]; omega, fun i x hx => ?_⟩
  rw [List.append_assoc] at hx
  by_cases h1 : i < l.length
  · rw [List.getElem?_append_left h1] at hx
    exact ⟨fun h => absurd h (st.hl x (List.mem_of_getElem? hx)), fun h => by omega⟩
  · rw [List.getElem?_append_right (by omega)] at hx
    by_cases h2 : i - l.length < m.length
    · rw [List.getElem?_append_left h2] at hx
      exact ⟨fun _ => by omega, fun _ => st.hm x (List.mem_of_getElem? hx)⟩
    · rw [List.getElem?_append_right (by omega)] at hx
      exact ⟨fun h => absurd h (st.hr x (List.mem_of_getElem? hx)), fun h => by omega⟩
theorem cut3 {α : Type} {L : List α} {s e : Nat} (h : s ≤ e) : L = L.take s ++ (L.drop s).take (e - s) ++ L.drop e := by
  have h1 : L.drop e = (L.drop s).drop (e - s) := by rw [List.drop_drop, show s + (e - s) = e by omega]
  rw [h1, List.append_assoc, List.take_append_drop, List.take_append_drop]
theorem Seg.parts {L S : List Str} {s e : Nat} (h : ∀ i x, L[i]? = some x → (x ∈ S ↔ s ≤ i ∧ i < e)) : (∀ y ∈ L.take s, y ∉ S) ∧ (∀ y ∈ (L.drop s).take (e - s), y ∈ S) ∧ ∀ y ∈ L.drop e, y ∉ S := by
  refine ⟨fun y hy hs => ?_, fun y hy => ?_, fun y hy hs => ?_⟩
  · obtain ⟨i, hi⟩ := List.mem_iff_getElem?.1 hy
    have li := (List.getElem?_eq_some_iff.1 hi).1
    rw [List.length_take] at li
    rw [List.getElem?_take_of_lt (by omega)] at hi
    have := (h i y hi).1 hs
    omega
  · obtain ⟨i, hi⟩ := List.mem_iff_getElem?.1 hy
    have li := (List.getElem?_eq_some_iff.1 hi).1
    rw [List.length_take] at li
    rw [List.getElem?_take_of_lt (by omega), List.getElem?_drop] at hi
    exact (h _ y hi).2 (by omega)
  · obtain ⟨i, hi⟩ := List.mem_iff_getElem?.1 hy
    rw [List.getElem?_drop] at hi
    have := (h _ y hi).1 hs
    omega
theorem Seg.fits {L S : List Str} (h : Seg L S) : Fits S L := by
  obtain ⟨s, e, h1, h2, h3⟩ := h
  obtain ⟨p1, p2, p3⟩ := Seg.parts h3
  refine ⟨_, _, _, cut3 (Nat.le_of_lt h1), ⟨fun z => ?_, p1, p2, p3⟩⟩
  have := congrArg List.length z
  rw [List.length_take, List.length_drop, List.length_nil] at this
  omega
theorem filter_all {α : Type} {p : α → Bool} {l : List α} (h : ∀ y ∈ l, p y = true) : l.filter p = l := List.filter_eq_self.2 h
theorem filter_none {α : Type} {p : α → Bool} {l : List α} (h : ∀ y ∈ l, p y = false) : l.filter p = [] := List.filter_eq_nil_iff.2 fun y hy => by simp [h y hy]
theorem filter_mid {a t b S : List Str} (h1 : ∀ y ∈ a, y ∉ S) (h2 : ∀ y ∈ t, y ∈ S) (h3 : ∀ y ∈ b, y ∉ S) : (a ++ t ++ b).filter (fun y => decide (y ∈ S)) = t := by
  rw [List.filter_append, List.filter_append, filter_none fun y hy => decide_eq_false (h1 y hy), filter_all fun y hy => decide_eq_true (h2 y hy), filter_none fun y hy => decide_eq_false (h3 y hy), List.nil_append, List.append_nil]
theorem Seg.cat {L S : List Str} (h : Seg L S) : ∃ a b, L = a ++ L.filter (fun y => decide (y ∈ S)) ++ b := by
  obtain ⟨l, m, r, e, st⟩ := h.fits
  exact ⟨l, r, by rw [e, filter_mid st.hl st.hm st.hr]⟩
theorem Seg.and {L S T U : List Str} (h1 : Seg L S) (h2 : Seg L T) {x : Str} (hx : x ∈ L) (xS : x ∈ S) (xT : x ∈ T) (hU : ∀ y ∈ L, y ∈ U ↔ y ∈ S ∧ y ∈ T) : Seg L U := by
  obtain ⟨s, e, a1, a2, a3⟩ := h1
  obtain ⟨s', e', b1, b2, b3⟩ := h2
  obtain ⟨i, hi⟩ := List.mem_iff_getElem?.1 hx
  have c1 := (a3 i x hi).1 xS
  have c2 := (b3 i x hi).1 xT
  refine ⟨max s s', min e e', by omega, by omega, fun j y hj => ?_⟩
  rw [hU y (List.mem_of_getElem? hj), a3 j y hj, b3 j y hj]
  omega
theorem Seg.or {L S T U : List Str} (h1 : Seg L S) (h2 : Seg L T) {x : Str} (hx : x ∈ L) (xS : x ∈ S) (xT : x ∈ T) (hU : ∀ y ∈ L, y ∈ U ↔ y ∈ S ∨ y ∈ T) : Seg L U := by
  obtain ⟨s, e, a1, a2, a3⟩ := h1
  obtain ⟨s', e', b1, b2, b3⟩ := h2
  obtain ⟨i, hi⟩ := List.mem_iff_getElem?.1 hx
  have c1 := (a3 i x hi).1 xS
  have c2 := (b3 i x hi).1 xT
  refine ⟨min s s', max e e', by omega, by omega, fun j y hj => ?_⟩
  rw [hU y (List.mem_of_getElem? hj), a3 j y hj, b3 j y hj]
  omega
theorem Seg.sub {L S T U : List Str} (h1 : Seg L S) (h2 : Seg L T) {x y z : Str} (hx : x ∈ L) (xS : x ∈ S) (xT : x ∈ T) (hy : y ∈ L) (yS : y ∈ S) (yT : y ∉ T) (hz : z ∈ L) (zT : z ∈ T) (zS : z ∉ S) (hU : ∀ y ∈ L, y ∈ U ↔ y ∈ S ∧ y ∉ T) : Seg L U := by
  obtain ⟨s, e, a1, a2, a3⟩ := h1
  obtain ⟨s', e', b1, b2, b3⟩ := h2
  obtain ⟨i, hi⟩ := List.mem_iff_getElem?.1 hx
  obtain ⟨j, hj⟩ := List.mem_iff_getElem?.1 hy
  obtain ⟨k, hk⟩ := List.mem_iff_getElem?.1 hz
  have c1 := (a3 i x hi).1 xS
  have c2 := (b3 i x hi).1 xT
  have d1 := (a3 j y hj).1 yS
  have d2 : ¬ (s' ≤ j ∧ j < e') := fun h => yT ((b3 j y hj).2 h)
  have f1 := (b3 k z hk).1 zT
  have f2 : ¬ (s ≤ k ∧ k < e) := fun h => zS ((a3 k z hk).2 h)
  by_cases q : s < s'
  · refine ⟨s, s', by omega, by omega, fun m w hm => ?_⟩
    rw [hU w (List.mem_of_getElem? hm), a3 m w hm, b3 m w hm]
    omega
  · refine ⟨e', e, by omega, by omega, fun m w hm => ?_⟩
    rw [hU w (List.mem_of_getElem? hm), a3 m w hm, b3 m w hm]
    omega
theorem cat_filter {xs t : List Str} (nd : xs.Nodup) (h : ∃ a b, xs = a ++ t ++ b) : xs.filter (fun y => decide (y ∈ t)) = t := by
  obtain ⟨a, b, rfl⟩ := h
  obtain ⟨h1, h2⟩ := nodup_mid nd
  exact filter_mid h1 (fun y hy => hy) h2
theorem cat_seg {xs t : List Str} (nd : xs.Nodup) (ne : t ≠ []) (h : ∃ a b, xs = a ++ t ++ b) : Seg xs t := by
  obtain ⟨a, b, rfl⟩ := h
  obtain ⟨h1, h2⟩ := nodup_mid nd
  exact Fits.seg ⟨a, t, b, rfl, ⟨ne, h1, fun y hy => hy, h2⟩⟩
theorem IsRun.ne {xs ys t : List Str} (h : IsRun xs ys t) : t ≠ [] := fun e => by have := h.two; rw [e] at this; exact absurd this (by decide)
theorem IsRun.segX {xs ys t : List Str} (h : IsRun xs ys t) (nd : xs.Nodup) : Seg xs t := cat_seg nd h.ne h.cat
theorem IsRun.segY {xs ys t : List Str} (h : IsRun xs ys t) : Seg ys t := h.fits.seg
theorem IsRun.filt {xs ys t : List Str} (h : IsRun xs ys t) (nd : xs.Nodup) : xs.filter (fun y => decide (y ∈ t)) = t := cat_filter nd h.cat
theorem filt_filt {xs : List Str} {p : Str → Bool} : xs.filter (fun y => decide (y ∈ xs.filter p)) = xs.filter p := List.filter_congr fun y hy => by
  rw [show decide (y ∈ xs.filter p) = p y from Bool.eq_iff_iff.2 (by rw [decide_eq_true_eq, List.mem_filter]; exact ⟨fun h => h.2, fun h => ⟨hy, h⟩⟩)]
theorem isRun_of {xs ys : List Str} {p : Str → Bool} (two : 2 ≤ (xs.filter p).length) (h1 : Seg xs (xs.filter p)) (h2 : Seg ys (xs.filter p)) : IsRun xs ys (xs.filter p) :=
  ⟨two, by obtain ⟨a, b, e⟩ := h1.cat; rw [filt_filt] at e; exact ⟨a, b, e⟩, h2.fits⟩
/-- what two runs have alike -/
theorem IsRun.meet {xs ys t r : List Str} (cat : Cat xs) (pm : ys.Perm xs) (ht : IsRun xs ys t) (hr : IsRun xs ys r) (two : 2 ≤ (t.filter fun y => decide (y ∈ r)).length) : IsRun xs ys (t.filter fun y => decide (y ∈ r)) := by
  have nd := cat.2.2.2
  obtain ⟨x, hx⟩ := List.exists_mem_of_ne_nil _ (fun e : (t.filter fun y => decide (y ∈ r)) = [] => by rw [e] at two; exact absurd two (by decide))
  obtain ⟨xt, xr⟩ := List.mem_filter.1 hx
  have xr := of_decide_eq_true xr
  have xx := run_sub ht x xt
  have e : (t.filter fun y => decide (y ∈ r)) = xs.filter fun y => decide (y ∈ t) && decide (y ∈ r) := by
    conv => lhs; rw [← ht.filt nd]
    rw [List.filter_filter]
    exact List.filter_congr fun y _ => Bool.and_comm _ _
  have hU : ∀ y ∈ xs, (y ∈ xs.filter fun y => decide (y ∈ t) && decide (y ∈ r)) ↔ y ∈ t ∧ y ∈ r := fun y hy => by simp [hy]
  rw [e] at two ⊢
  exact isRun_of two ((ht.segX nd).and (hr.segX nd) xx xt xr hU) (ht.segY.and hr.segY (pm.mem_iff.2 xx) xt xr fun y hy => hU y (pm.mem_iff.1 hy))
/-- the least run with some books lies in each one that has them -/
theorem least_in {xs ys bs t r : List Str} {rs : List (List Str)} (cat : Cat xs) (pm : ys.Perm xs) (hrs : IsRuns xs ys rs) (nb : bs.Nodup) (two : 2 ≤ bs.length) (ht : Shortest (rs.filter (has bs)) t) (hr : r ∈ rs) (hb : has bs r = true) : has t r = true := by
  have nd := cat.2.2.2
  obtain ⟨t1, t2⟩ := List.mem_filter.1 ht.mem
  have rt := (hrs.mem nd pm).1 t1
  have rr := (hrs.mem nd pm).1 hr
  have sub : ∀ b ∈ bs, b ∈ t.filter fun y => decide (y ∈ r) := fun b h => List.mem_filter.2 ⟨has_iff.1 t2 b h, decide_eq_true (has_iff.1 hb b h)⟩
  have ru := rt.meet cat pm rr (Nat.le_trans two (nodup_le _ _ nb sub))
  have le := ht.le (List.mem_filter.2 ⟨(hrs.mem nd pm).2 ru, has_iff.2 sub⟩)
  have := List.length_filter_le (fun y => decide (y ∈ r)) t
  have e := List.length_filter_eq_length_iff.1 (Nat.le_antisymm this le)
  exact has_iff.2 fun b h => of_decide_eq_true (e b h)
end TL

-- T29
set_option Elab.async false
set_option linter.all false
set_option maxRecDepth 100000
set_option maxHeartbeats 400000
/-! T29: copies -/
namespace TL
open L2 PyProof.Rows PySem PySem.Spec TS RZ
/-- a copy -/
def sameR : D → Rv
  | .lst ds => .new (.lst ds)
  | .tup ds => .new (.tup ds)
  | d => .val d
theorem sameR_d (d : D) : (sameR d).d = d := by cases d <;> rfl
theorem sameR_sto (d : D) : sto (sameR d) = true := by cases d <;> rfl
def S_same (k : Nat) : ST := fun ds n R => ∃ d, ds = [d] ∧ xd k d ∧ R (sameR d) n
theorem same_scal {S1 : ST} {d : D} (h : scal d = true) {n : Nat} {R : Rv → Nat → Prop} (q : R (sameR d) n) : B_w_same S1 (ends R) (slots [false] [d] 2) n := by
  cases d with
  | non => exact ⟨false, kb _ _ (by decide +kernel), false, kb _ _ (by decide +kernel), false, kb _ _ (by decide +kernel), rfl, dn_of q⟩
  | bl b => exact ⟨false, kb _ _ (by decide +kernel), false, kb _ _ (by decide +kernel), false, kb _ _ (by decide +kernel), rfl, dn_of q⟩
  | int i => exact ⟨false, kb _ _ (by decide +kernel), false, kb _ _ (by decide +kernel), false, kb _ _ (by decide +kernel), rfl, dn_of q⟩
  | str i => exact ⟨false, kb _ _ (by decide +kernel), false, kb _ _ (by decide +kernel), false, kb _ _ (by decide +kernel), rfl, dn_of q⟩
  | _ => cases h
theorem tree_w_same0 {S1 : ST} : ∀ ds n R, S_same 0 ds n R → B_w_same S1 (ends R) (slots [false] ds 2) n := by
  rintro _ n R ⟨d, rfl, h, q⟩
  exact same_scal h q
theorem lc_same {k : Nat} {a b : Option Rv} : ∀ (ds : List D) (acc : List D) (n : Nat) (q : List D → Nat → Prop), (∀ d ∈ ds, xd k d) → q (acc ++ ds) n →
    lcF (.nm 2) tlYes (tlCall [false] (S_same k) (tlCons (tlV 2) tlNil)) [a, b, none] ds acc n q
  | [], acc, n, q, _, h => by
    rw [List.append_nil] at h
    exact h
  | d :: r, acc, n, q, hx, h => by
    refine ⟨rfl, d, rfl, hx d List.mem_cons_self, sameR_sto d, ?_⟩
    rw [sameR_d]
    refine lc_same r _ n q (fun x hx' => hx x (List.mem_cons_of_mem _ hx')) ?_
    rw [List.append_assoc]
    exact h
theorem tree_w_sameS {k : Nat} : ∀ ds n R, S_same (k + 1) ds n R → B_w_same (S_same k) (ends R) (slots [false] ds 2) n := by
  rintro _ n R ⟨d, rfl, h, q⟩
  cases d with
  | lst ds => exact ⟨false, kb _ _ (by decide +kernel), true, kbT _ _ (by decide +kernel), by have := h.1; omega, lc_same ds [] n _ h.2 ⟨rfl, dn_of q⟩⟩
  | tup ds => exact ⟨false, kb _ _ (by decide +kernel), false, kb _ _ (by decide +kernel), true, kbT _ _ (by decide +kernel), by have := h.1; omega, lc_same ds [] n _ h.2 ⟨rfl, dn_of q⟩⟩
  | _ => exact same_scal h q
end TL

-- RC
set_option Elab.async false
set_option linter.all false
set_option maxRecDepth 100000
set_option maxHeartbeats 4100000
namespace LW
open L2 PyProof.Rows PySem PySem.Spec TS TL RZ
section
variable {P : Program} {w : World} {K : PySem.W.Frag} {mg : Str → Option Value} {base : Heap} {C : Addr}
theorem conv_book {k : Nat} {f : Addr} {fd : FuncData} {ps : List Str} (F : FnOk P w K mg base CX0 k f fd ps spIsBook) : FnOk P w K mg base CX0 k f fd ps (spOf C [true] S_is_book) := by
  refine F.imp fun vs H Q E h => ?_
  obtain ⟨p, W, n, ds, R, dom, pw, pa, ar, ⟨z, rfl, hz, hk⟩, q⟩ := h
  obtain ⟨v, rfl, hv⟩ := ar.a1
  rw [hv.str]
  exact ⟨z, rfl, hz, fun H' s => q _ H' (.val (.bl true)) n (.same s) (pa.same s) (rfl : V.bl true = V.bl true) hk⟩
end
end LW

-- T60
set_option Elab.async false
set_option linter.all false
set_option maxRecDepth 100000
set_option maxHeartbeats 400000
/-! T60: changes of a shelf, and what runs become -/
namespace TL
open L2 PyProof.Rows PySem PySem.Spec TS RZ
inductive Chg where
  | put (b : Str) (i j : Nat) | out (b : Str) | move (b : Str) (i : Nat) | list (b : Str) (i : Nat)
@[reducible] def eC : Chg → D
  | .put b i j => .tup [.str "put", .str b, eN i, eN j]
  | .out b => .tup [.str "out", .str b]
  | .move b i => .tup [.str "move", .str b, eN i]
  | .list b i => .tup [.str "list", .str b, eN i]
def Chg.book : Chg → Str
  | .put b _ _ => b
  | .out b => b
  | .move b _ => b
  | .list b _ => b
def rem (xs : List Str) (b : Str) : List Str := xs.filter fun y => !decide (y = b)
def ins (xs : List Str) (b : Str) (i : Nat) : List Str := xs.take i ++ [b] ++ xs.drop i
def nX : Chg → List Str → List Str
  | .put b i _, xs => ins xs b i
  | .out b, xs => rem xs b
  | .move _ _, xs => xs
  | .list b i, xs => ins (rem xs b) b i
def nY : Chg → List Str → List Str
  | .put b _ j, ys => ins ys b j
  | .out b, ys => rem ys b
  | .move b i, ys => ins (rem ys b) b i
  | .list _ _, ys => ys
def Vd (xs ys : List Str) : Chg → Prop
  | .put b i j => isWord b ∧ b ∉ xs ∧ i ≤ xs.length ∧ j ≤ ys.length ∧ xs.length < 60
  | .out b => b ∈ xs ∧ 1 < xs.length
  | .move b i => b ∈ xs ∧ i < xs.length ∧ ys[i]? ≠ some b
  | .list b i => b ∈ xs ∧ i < xs.length ∧ xs[i]? ≠ some b
theorem Vd.word {xs ys : List Str} {c : Chg} (cat : Cat xs) (v : Vd xs ys c) : isWord c.book := by
  cases c with
  | put b i j => exact v.1
  | out b => exact cat.2.2.1 b v.1
  | move b i => exact cat.2.2.1 b v.1
  | list b i => exact cat.2.2.1 b v.1
theorem rem_mem {xs : List Str} {b y : Str} : y ∈ rem xs b ↔ y ∈ xs ∧ y ≠ b := by
  unfold rem
  rw [List.mem_filter, Bool.not_eq_true', decide_eq_false_iff_not]
theorem ins_perm' (xs : List Str) (b : Str) (i : Nat) : (ins xs b i).Perm (b :: xs) := by
  unfold ins
  rw [List.append_assoc]
  refine (List.perm_middle).trans (List.Perm.cons b ?_)
  show (xs.take i ++ xs.drop i).Perm xs
  rw [List.take_append_drop]
theorem ins_len (xs : List Str) (b : Str) (i : Nat) : (ins xs b i).length = xs.length + 1 := by
  rw [(ins_perm' xs b i).length_eq, List.length_cons]
theorem rem_not {xs : List Str} {b : Str} (h : b ∉ xs) : rem xs b = xs := List.filter_eq_self.2 fun y hy => by
  rw [Bool.not_eq_true', decide_eq_false_iff_not]
  exact fun e => h (e ▸ hy)
theorem rem_perm {xs : List Str} {b : Str} (nd : xs.Nodup) (h : b ∈ xs) : (b :: rem xs b).Perm xs := by
  refine List.perm_iff_count.2 fun a => ?_
  have n2 : (b :: rem xs b).Nodup := List.nodup_cons.2 ⟨fun z => (rem_mem.1 z).2 rfl, nd.filter _⟩
  rw [n2.count, nd.count]
  by_cases e : a = b
  · subst e
    rw [if_pos List.mem_cons_self, if_pos h]
  · have : a ∈ b :: rem xs b ↔ a ∈ xs := by
      rw [List.mem_cons, rem_mem]
      exact ⟨fun z => z.elim (fun q => absurd q e) fun q => q.1, fun z => .inr ⟨z, e⟩⟩
    by_cases q : a ∈ xs
    · rw [if_pos (this.2 q), if_pos q]
    · rw [if_neg fun z => q (this.1 z), if_neg q]
theorem rem_len {xs : List Str} {b : Str} (nd : xs.Nodup) (h : b ∈ xs) : (rem xs b).length + 1 = xs.length := by
  have := (rem_perm nd h).length_eq
  rwa [List.length_cons] at this
theorem back_perm {xs : List Str} {b : Str} (i : Nat) (nd : xs.Nodup) (h : b ∈ xs) : (ins (rem xs b) b i).Perm xs := (ins_perm' _ b i).trans (rem_perm nd h)
theorem row_by {xs ys : List Str} (nd : xs.Nodup) (p : ys.Perm xs) : Row xs ys := ⟨fun y h => p.mem_iff.1 h, p.nodup_iff.2 nd, p.length_eq⟩
theorem chg_ok {xs ys : List Str} {c : Chg} (cat : Cat xs) (row : Row xs ys) (v : Vd xs ys c) : Cat (nX c xs) ∧ Row (nX c xs) (nY c ys) := by
  obtain ⟨ne, few, wd, nd⟩ := cat
  have pm := row_perm ⟨ne, few, wd, nd⟩ row
  have ndy := row.2.1
  cases c with
  | put b i j =>
    obtain ⟨v1, v2, v3, v4, v5⟩ := v
    have p := ins_perm' xs b i
    have n1 : (ins xs b i).Nodup := p.nodup_iff.2 (List.nodup_cons.2 ⟨v2, nd⟩)
    exact ⟨⟨fun e => by have := ins_len xs b i; rw [show ins xs b i = [] from e] at this; simp at this, by show (ins xs b i).length ≤ 100; rw [ins_len]; omega, fun y hy => (List.mem_cons.1 (p.mem_iff.1 hy)).elim (fun e => e ▸ v1) (wd y), n1⟩,
      row_by n1 ((ins_perm' ys b j).trans ((List.Perm.cons b pm).trans p.symm))⟩
  | out b =>
    obtain ⟨v1, v2⟩ := v
    have l := rem_len nd v1
    have n1 : (rem xs b).Nodup := nd.filter _
    exact ⟨⟨fun e => by rw [show rem xs b = [] from e] at l; simp at l; omega, by show (rem xs b).length ≤ 100; omega, fun y hy => wd y (rem_mem.1 hy).1, n1⟩, row_by n1 (pm.filter _)⟩
  | move b i =>
    obtain ⟨v1, v2, _⟩ := v
    exact ⟨⟨ne, few, wd, nd⟩, row_by nd ((back_perm i ndy (pm.mem_iff.2 v1)).trans pm)⟩
  | list b i =>
    obtain ⟨v1, v2, _⟩ := v
    have p := back_perm i nd v1
    have n1 : (ins (rem xs b) b i).Nodup := p.nodup_iff.2 nd
    exact ⟨⟨fun e => by have := ins_len (rem xs b) b i; rw [show ins (rem xs b) b i = [] from e] at this; simp at this, by show (ins (rem xs b) b i).length ≤ 100; rw [p.length_eq]; exact few, fun y hy => wd y (p.mem_iff.1 hy), n1⟩, row_by n1 (pm.trans p.symm)⟩
/-! ### sorted -/
def leS (a b : Str) : Bool := !ltCps b.cps.toList a.cps.toList
def srt (l : List Str) : List Str := l.mergeSort leS
theorem leS_trans (a b c : Str) : leS a b = true → leS b c = true → leS a c = true := by
  unfold leS
  simp only [Bool.not_eq_true']
  exact ncps_trans a.cps.toList b.cps.toList c.cps.toList
theorem ltCps_asym : ∀ (a b : List Nat), ltCps a b = true → ltCps b a = false
  | [], [], h => by cases h
  | [], _ :: _, _ => rfl
  | _ :: _, [], h => by cases h
  | x :: a, y :: b, h => by
    have ih := ltCps_asym a b
    simp only [ltCps, Bool.or_eq_true, decide_eq_true_eq, Bool.and_eq_true, beq_iff_eq, Bool.or_eq_false_iff, decide_eq_false_iff_not, Bool.and_eq_false_iff, beq_eq_false_iff_ne, Nat.not_lt] at h ⊢
    rcases h with h | ⟨e, h⟩
    · exact ⟨by omega, .inl (by omega)⟩
    · exact ⟨by omega, .inr (ih h)⟩
theorem leS_total (a b : Str) : (leS a b || leS b a) = true := by
  unfold leS
  cases h : ltCps b.cps.toList a.cps.toList with
  | false => rfl
  | true => rw [ltCps_asym _ _ h]; rfl
theorem srt_perm (l : List Str) : (srt l).Perm l := List.mergeSort_perm l leS
theorem srt_sorted (l : List Str) : (srt l).Pairwise fun a b => ltCps b.cps.toList a.cps.toList = false := by
  have := List.pairwise_mergeSort (le := leS) leS_trans leS_total l
  refine List.Pairwise.imp (fun {a b} h => ?_) this
  unfold leS at h
  exact Bool.not_eq_true' _ ▸ h
theorem srt_of {l m : List Str} (p : m.Perm l) (s : sortedS m = true) : m = srt l := sortS_uniq (sortedS_all s) (srt_sorted l) (p.trans (srt_perm l).symm)
theorem srt_eq {l m : List Str} (p : m.Perm l) : srt m = srt l := sortS_uniq (srt_sorted m) (srt_sorted l) ((srt_perm m).trans (p.trans (srt_perm l).symm))
theorem srt_len (l : List Str) : (srt l).length = l.length := (srt_perm l).length_eq
/-- what a run may have become -/
def forms (c : Chg) (t : List Str) : List (List Str) := match c with
  | .put b _ _ => [srt t, srt (t ++ [b])]
  | .out b => [srt (rem t b)]
  | _ => [srt t]
def kept (c : Chg) (rs rs' : List (List Str)) : List (List Str) := rs.filter fun t => (forms c t).any fun f => decide (f ∈ rs'.map srt)
def lostR (c : Chg) (rs rs' : List (List Str)) : List (List Str) := rs.filter fun t => !decide (t ∈ kept c rs rs')
def newR (c : Chg) (rs rs' : List (List Str)) : List (List Str) := rs'.filter fun t => !decide (srt t ∈ rs.flatMap (forms c))
end TL

-- T61
set_option Elab.async false
set_option linter.all false
set_option maxRecDepth 100000
set_option maxHeartbeats 400000
/-! T61: the program's changes -/
namespace TL
open L2 PyProof.Rows PySem PySem.Spec TS RZ
def S_is_count : ST := fun ds n R => ∃ i : Nat, ds = [eN i] ∧ R (.val (.bl true)) n
theorem tree_is_count : ∀ ds n R, S_is_count ds n R → B_is_count (ends R) (slots [true] ds 0) n := by
  rintro _ n R ⟨i, rfl, h⟩
  refine ⟨true, kbT _ _ (by decide +kernel), false, kb _ _ (by decide +kernel), ?_⟩
  have fin := dn_of h
  rw [← decide_eq_true (p := ((0 : Int) ≤ (i : Int))) (by omega)] at fin
  exact ⟨rfl, fin⟩
theorem tg_put : tGet tab_COUNTS_BEHIND "put" = .int 2 := by unfold tGet; rw [show List.lookup _ tab_COUNTS_BEHIND = some 2 by decide +kernel]
theorem tg_out : tGet tab_COUNTS_BEHIND "out" = .int 0 := by unfold tGet; rw [show List.lookup _ tab_COUNTS_BEHIND = some 0 by decide +kernel]
theorem tg_move : tGet tab_COUNTS_BEHIND "move" = .int 1 := by unfold tGet; rw [show List.lookup _ tab_COUNTS_BEHIND = some 1 by decide +kernel]
theorem tg_list : tGet tab_COUNTS_BEHIND "list" = .int 1 := by unfold tGet; rw [show List.lookup _ tab_COUNTS_BEHIND = some 1 by decide +kernel]
def S_is_change : ST := fun ds n R => ∃ c : Chg, ds = [eC c] ∧ isWord c.book ∧ R (.val (.bl true)) n
abbrev icE : TSt := (tlRel 0 (tlRet (tlB dAll (tlCons (tlLc (tlSeq (tlSl (tlV 0) (some (tlC (.int 2))) none)) (.nm 2) tlYes (tlCall [true] S_is_count (tlCons (tlV 2) tlNil)) [2]) tlNil))))
abbrev icD : TSt := (tlSq (tlIf (tlOrT (tlT (tlOp dIsN (tlV 1) (tlC .non))) (tlOrT (tlT (tlOp dNe (tlB dLen (tlCons (tlV 0) tlNil)) (tlOp dAdd (tlC (.int 2)) (tlV 1)))) (tlNotT (tlT (tlCall [true] S_is_book (tlCons (tlOp dIx (tlV 0) (tlC (.int 1))) tlNil)))))) (tlRet (tlC (.bl false))) tlNx) icE)
theorem ic_lc {g : Gm} {n : Nat} {q : List D → Nat → Prop} {a b : Option Rv} (ks : List Nat) (h : q (ks.map fun _ => D.bl true) n) : lcF (.nm 2) tlYes (tlCall [true] S_is_count (tlCons (tlV 2) tlNil)) [a, b, none] (ks.map eN) [] n q :=
  lcF_map (f := fun _ => D.bl true) (fun k _ n R hR => ⟨rfl, k, rfl, hR (.val (.bl true)) rfl rfl⟩) h
theorem ic_all (ks : List Nat) : (ks.map fun _ => true).all id = true := by rw [List.all_map]; simp
theorem cut_two (a b : D) (r : List D) : cutL (a :: b :: r) (some 2) none = r := cut_suf (l := [a, b]) (r := r)
theorem ic_e {a b : Str} {ks : List Nat} {x : Option Rv} {n : Nat} {R : Rv → Nat → Prop} (fk : ks.length ≤ 10) (h : R (.val (.bl true)) n) :
    icE (ends R) [some (.val (.tup (.str a :: .str b :: ks.map eN))), x, none] n := by
  have fin := dn_of h
  refine ⟨rfl, fun z => ?_, fun _ => ?_⟩
  · have h1 := z.1
    have : HT.sIx (D.str a :: D.str b :: ks.map eN).length 0 (some 2) = min 2 (D.str a :: D.str b :: ks.map eN).length := HT.sIx_nat _ _ 2
    rw [this] at h1
    simp at h1
  · show (cutL (D.str a :: D.str b :: ks.map eN) (some 2) none).length ≤ 1000000 ∧ lcF _ _ _ _ (cutL (D.str a :: D.str b :: ks.map eN) (some 2) none) _ _ _
    rw [cut_two]
    refine ⟨by rw [List.length_map]; omega, ?_⟩
    refine ic_lc (g := []) ks ⟨ks.map fun _ => true, by rw [List.map_map]; rfl, ?_⟩
    rw [ic_all]
    exact ⟨rfl, fin⟩
theorem ic_d {a b : Str} {ks : List Nat} {m : Nat} {n : Nat} {R : Rv → Nat → Prop} (hk : ks.length = m) (fk : ks.length ≤ 10) (hb : isWord b) (h : R (.val (.bl true)) n) :
    icD (ends R) [some (.val (.tup (.str a :: .str b :: ks.map eN))), some (.val (.int (m : Nat))), none] n := by
  show (if (!decide ((((D.str a :: D.str b :: ks.map eN).length : Nat) : Int) = 2 + ((m : Nat) : Int))) = true then _ else _)
  rw [decide_eq_true (by rw [List.length_cons, List.length_cons, List.length_map]; omega)]
  exact ⟨.str b, atI_nat (j := 1) rfl, rfl, b, rfl, hb, ic_e fk h⟩
abbrev icC : TSt := (tlSq (tlSet 1 (tlKGet tab_COUNTS_BEHIND (tlOp dIx (tlV 0) (tlC (.int 0))))) icD)
theorem ic_c {a b : Str} {ks : List Nat} {m : Nat} {n : Nat} {R : Rv → Nat → Prop} (ht : tGet tab_COUNTS_BEHIND a = .int (m : Nat)) (hk : ks.length = m) (fk : ks.length ≤ 10) (hb : isWord b) (h : R (.val (.bl true)) n) :
    icC (ends R) [some (.val (.tup (.str a :: .str b :: ks.map eN))), none, none] n := by
  refine ⟨.str a, atI_nat (j := 0) rfl, ?_⟩
  show icD (ends R) [some (.val (.tup (.str a :: .str b :: ks.map eN))), some (.val (tGet tab_COUNTS_BEHIND a)), none] n
  rw [ht]
  exact ic_d hk fk hb h
abbrev icB (S1 S2 : ST) : TSt := B_is_change S1 S2
theorem ic_b {a b : Str} {ks : List Nat} {m : Nat} {n : Nat} {R : Rv → Nat → Prop} (ht : tGet tab_COUNTS_BEHIND a = .int (m : Nat)) (hk : ks.length = m) (fk : ks.length ≤ 10) (hb : isWord b) (h : R (.val (.bl true)) n) :
    B_is_change S_is_book S_is_count (ends R) (slots [false] [.tup (.str a :: .str b :: ks.map eN)] 2) n := by
  refine ⟨true, kbT _ _ (by decide +kernel), ?_⟩
  show (if decide ((((D.str a :: D.str b :: ks.map eN).length : Nat) : Int) < 2) = true then _ else _)
  rw [decide_eq_false (by rw [List.length_cons, List.length_cons]; omega)]
  exact ⟨.str a, atI_nat (j := 0) rfl, true, kbT _ _ (by decide +kernel), ic_c ht hk fk hb h⟩
theorem tree_is_change : ∀ ds n R, S_is_change ds n R → B_is_change S_is_book S_is_count (ends R) (slots [false] ds 2) n := by
  rintro _ n R ⟨c, rfl, hb, h⟩
  cases c with
  | put b i j => exact ic_b (ks := [i, j]) tg_put rfl (by simp) hb h
  | out b => exact ic_b (ks := []) tg_out rfl (by simp) hb h
  | move b i => exact ic_b (ks := [i]) tg_move rfl (by simp) hb h
  | list b i => exact ic_b (ks := [i]) tg_list rfl (by simp) hb h
end TL

-- T62
set_option Elab.async false
set_option linter.all false
set_option maxRecDepth 100000
set_option maxHeartbeats 400000
/-! T62: books out and in, forms of a run -/
namespace TL
open L2 PyProof.Rows PySem PySem.Spec TS RZ
/-- a list or a tuple of texts -/
def IsT (d : D) (t : List Str) : Prop := d = dS t ∨ d = tS t
def S_bwo : ST := fun ds n R => ∃ (t : List Str) (b : Str) (d : D), ds = [d, .str b] ∧ IsT d t ∧ t.length ≤ 1000 ∧ R (.new (dS (rem t b))) n
theorem bwo_lc {t : List Str} {b : Str} {a : Option Rv} {n : Nat} {q : List D → Nat → Prop} (h : q ((rem t b).map D.str) n) :
    lcF (.nm 2) (tlT (tlOp dNeA (tlV 2) (tlV 1))) (tlV 2) [a, some (.bor (.str b)), none] (t.map D.str) [] n q :=
  lcF_filter (f := fun y : Str => D.str y) (b := fun y => !decide (y = b)) (fun y _ n R hR => hR) (fun y _ _ n R hR => hR (.val (.str y)) rfl rfl) h
theorem tree_books_without : ∀ ds n R, S_bwo ds n R → B_books_without (ends R) (slots [true, true] ds 1) n := by
  rintro _ n R ⟨t, b, d, rfl, hd, few, h⟩
  have fin := dn_of h
  rcases hd with rfl | rfl
  · exact ⟨by rw [List.length_map]; omega, bwo_lc ⟨rfl, fin⟩⟩
  · exact ⟨by rw [List.length_map]; omega, bwo_lc ⟨rfl, fin⟩⟩
theorem cut_to {α : Type} {zs : List α} {e : Nat} (h : e ≤ zs.length) : cutL zs none (some (e : Int)) = zs.take e := by
  have := cut_pre (l := zs.take e) (s := zs.drop e)
  rw [List.take_append_drop, List.length_take, Nat.min_eq_left h] at this
  exact this
theorem cut_from {α : Type} {zs : List α} {e : Nat} (h : e ≤ zs.length) : cutL zs (some (e : Int)) none = zs.drop e := by
  have := cut_suf (l := zs.take e) (r := zs.drop e)
  rw [List.take_append_drop, List.length_take, Nat.min_eq_left h] at this
  exact this
def S_bwa : ST := fun ds n R => ∃ (xs : List Str) (b : Str) (i : Nat), ds = [dS xs, .str b, eN i] ∧ i ≤ xs.length ∧ xs.length ≤ 1000 ∧ R (.new (dS (ins xs b i))) n
theorem tree_books_with_at : ∀ ds n R, S_bwa ds n R → B_books_with_at (ends R) (slots [true, false, true] ds 0) n := by
  rintro _ n R ⟨xs, b, i, rfl, hi, few, h⟩
  have lenD : ((xs.map D.str).length : Nat) = xs.length := List.length_map _
  have c1 : cutL (xs.map D.str) none (some (i : Int)) = (xs.take i).map D.str := by rw [cut_to (by rw [lenD]; omega), List.map_take]
  have c2 : cutL (xs.map D.str) (some (i : Int)) none = (xs.drop i).map D.str := by rw [cut_from (by rw [lenD]; omega), List.map_drop]
  have l1 : (xs.take i).length ≤ 1000 := by rw [List.length_take]; omega
  have l2 : (xs.drop i).length ≤ 1000 := by rw [List.length_drop]; omega
  have fin := dn_of h
  refine ⟨rfl, rfl, small_len, ?_, rfl, ?_, rfl, ?_⟩
  · show (cutL (xs.map D.str) none (some (i : Int))).length + 1 ≤ 1000000
    rw [c1, List.length_map]
    omega
  · show (cutL (xs.map D.str) none (some (i : Int)) ++ [D.str b]).length + (cutL (xs.map D.str) (some (i : Int)) none).length ≤ 1000000
    rw [c1, c2, List.length_append, List.length_map, List.length_map, List.length_singleton]
    omega
  · show dn R (.new (.lst (cutL (xs.map D.str) none (some (i : Int)) ++ [D.str b] ++ cutL (xs.map D.str) (some (i : Int)) none))) n
    rw [c1, c2]
    have e : (xs.take i).map D.str ++ [D.str b] ++ (xs.drop i).map D.str = (ins xs b i).map D.str := by
      unfold ins
      rw [List.map_append, List.map_append]
      rfl
    rw [e]
    exact fin
/-- a word is read -/
theorem str_ne {a b : Str} (h : decide (a = b) = false) : decide (a = b) = false := h
theorem e_pp : decide (("put" : Str) = "put") = true := decide_eq_true rfl
theorem e_op : decide (("out" : Str) = "put") = false := by decide +kernel
theorem e_mp : decide (("move" : Str) = "put") = false := by decide +kernel
theorem e_lp : decide (("list" : Str) = "put") = false := by decide +kernel
theorem e_oo : decide (("out" : Str) = "out") = true := decide_eq_true rfl
theorem e_mo : decide (("move" : Str) = "out") = false := by decide +kernel
theorem e_lo : decide (("list" : Str) = "out") = false := by decide +kernel
theorem e_mm : decide (("move" : Str) = "move") = true := decide_eq_true rfl
theorem e_lm : decide (("list" : Str) = "move") = false := by decide +kernel
/-- sorted, of a list or a tuple -/
theorem sortedT_of {d : D} {t : List Str} {R : Rv → Prop} (hd : IsT d t) (few : t.length < 64) (h : R (.new (dS (srt t)))) : dSortedT [d] R := by
  have key : ∀ ys : List Str, ys.Perm t → sortedS ys = true → R (.new (dS ys)) := fun ys p s => by rw [srt_of p s]; exact h
  rcases hd with rfl | rfl
  · exact .inl ⟨t, rfl, few, key⟩
  · exact ⟨t, rfl, few, key⟩
@[reducible] def dF (fs : List (List Str)) : D := .lst (fs.map dS)
def S_forms : ST := fun ds n R => ∃ (c : Chg) (t : List Str), ds = [tS t, eC c] ∧ t.length ≤ 60 ∧ R (.new (dF (forms c t))) n
theorem tree_u_forms_of : ∀ ds n R, S_forms ds n R → B_u_forms_of S_bwo (ends R) (slots [true, true] ds 2) n := by
  rintro _ n R ⟨c, t, rfl, few, h⟩
  have fin := dn_of h
  cases c with
  | put b i j =>
    refine ⟨.str "put", atI_nat (j := 0) rfl, .str b, atI_nat (j := 1) rfl, ?_⟩
    refine ⟨t, rfl, by omega, fun us p1 s1 => ?_⟩
    obtain rfl := srt_of p1 s1
    refine ⟨rfl, small_len, ?_⟩
    refine ⟨by show (t.map D.str).length + 1 ≤ _; rw [List.length_map]; omega, ?_⟩
    refine .inl ⟨t ++ [b], by show (t.map D.str ++ [D.str b]) = _; rw [List.map_append]; rfl, by rw [List.length_append, List.length_singleton]; omega, fun vs p2 s2 => ?_⟩
    obtain rfl := srt_of p2 s2
    exact ⟨rfl, small_len, rfl, fin⟩
  | out b =>
    refine ⟨.str "out", atI_nat (j := 0) rfl, .str b, atI_nat (j := 1) rfl, ?_⟩
    refine ⟨rfl, t, b, _, rfl, .inr rfl, by omega, ?_⟩
    refine .inl ⟨rem t b, rfl, Nat.lt_of_le_of_lt (List.length_filter_le _ _) (by omega), fun us p1 s1 => ?_⟩
    obtain rfl := srt_of p1 s1
    exact ⟨rfl, small_len, rfl, fin⟩
  | move b i =>
    refine ⟨.str "move", atI_nat (j := 0) rfl, .str b, atI_nat (j := 1) rfl, ?_⟩
    refine ⟨t, rfl, by omega, fun us p1 s1 => ?_⟩
    obtain rfl := srt_of p1 s1
    exact ⟨rfl, small_len, rfl, fin⟩
  | list b i =>
    refine ⟨.str "list", atI_nat (j := 0) rfl, .str b, atI_nat (j := 1) rfl, ?_⟩
    refine ⟨t, rfl, by omega, fun us p1 s1 => ?_⟩
    obtain rfl := srt_of p1 s1
    exact ⟨rfl, small_len, rfl, fin⟩
end TL

-- T63
set_option Elab.async false
set_option linter.all false
set_option maxRecDepth 100000
set_option maxHeartbeats 400000
/-! T63: the program's changed shelf -/
namespace TL
open L2 PyProof.Rows PySem PySem.Spec TS RZ
def S_fits : ST := fun ds n R => ∃ (xs ys : List Str) (c : Chg), ds = [.sh xs ys, eC c] ∧ Cat xs ∧ Row xs ys ∧ Vd xs ys c ∧ R (.val (.bl true)) n
theorem tree_fits : ∀ ds n R, S_fits ds n R → B_fits (ends R) (slots [true, true] ds 4) n := by
  rintro _ n R ⟨xs, ys, c, rfl, cat, row, v, h⟩
  have fin := dn_of h
  have pm := row_perm cat row
  have lenD : ((ys.map D.str).length : Nat) = ys.length := List.length_map _
  have lenX : ((xs.map D.str).length : Nat) = xs.length := List.length_map _
  have ly := row.2.2
  cases c with
  | put b i j =>
    obtain ⟨v1, v2, v3, v4, v5⟩ := v
    refine ⟨.str "put", atI_nat (j := 0) rfl, .str b, atI_nat (j := 1) rfl, rfl, xs, ys, rfl, ?_⟩
    refine ⟨rfl, plns_str ys, dep_ok ys, ?_⟩
    show (if (!((ys.map D.str).any fun z => PyData.eqv (toP z) (toP (.str b)))) = true then _ else _)
    rw [any_str, decide_eq_false fun z => v2 (pm.mem_iff.1 z)]
    refine ⟨eN i, atI_nat (j := 2) rfl, ?_⟩
    show (if decide ((i : Int) ≤ (((ys.map D.str).length : Nat) : Int)) = true then _ else _)
    rw [decide_eq_true (by rw [lenD]; omega)]
    rw [← decide_eq_true (p := ((j : Int) ≤ (((ys.map D.str).length : Nat) : Int))) (by rw [lenD]; omega)] at fin
    exact ⟨eN j, atI_nat (j := 3) rfl, rfl, fin⟩
  | out b =>
    obtain ⟨v1, v2⟩ := v
    refine ⟨.str "out", atI_nat (j := 0) rfl, .str b, atI_nat (j := 1) rfl, rfl, xs, ys, rfl, ?_⟩
    refine ⟨rfl, plns_str ys, dep_ok ys, ?_⟩
    show (if (!((ys.map D.str).any fun z => PyData.eqv (toP z) (toP (.str b)))) = true then _ else _)
    rw [any_str, decide_eq_true (pm.mem_iff.2 v1)]
    rw [← decide_eq_true (p := ((1 : Int) < (((ys.map D.str).length : Nat) : Int))) (by rw [lenD]; omega)] at fin
    exact ⟨rfl, fin⟩
  | move b i =>
    obtain ⟨v1, v2, v3⟩ := v
    refine ⟨.str "move", atI_nat (j := 0) rfl, .str b, atI_nat (j := 1) rfl, rfl, xs, ys, rfl, ?_⟩
    refine ⟨rfl, plns_str ys, dep_ok ys, ?_⟩
    show (if (!((ys.map D.str).any fun z => PyData.eqv (toP z) (toP (.str b)))) = true then _ else _)
    rw [any_str, decide_eq_true (pm.mem_iff.2 v1)]
    refine ⟨eN i, atI_nat (j := 2) rfl, ?_⟩
    show (if decide ((i : Int) < (((ys.map D.str).length : Nat) : Int)) = true then _ else _)
    rw [decide_eq_true (by rw [lenD]; omega)]
    have hz : ys[i]? = some (ys[i]'(by omega)) := List.getElem?_eq_getElem _
    rw [hz] at v3
    have hd : (ys.map D.str)[i]? = some (.str (ys[i]'(by omega))) := by rw [List.getElem?_map, hz]; rfl
    rw [show true = !decide ((ys[i]'(by omega)) = b) by rw [decide_eq_false fun e => v3 (by rw [e])]; rfl] at fin
    exact ⟨eN i, atI_nat (j := 2) rfl, _, atI_nat hd, rfl, fin⟩
  | list b i =>
    obtain ⟨v1, v2, v3⟩ := v
    refine ⟨.str "list", atI_nat (j := 0) rfl, .str b, atI_nat (j := 1) rfl, rfl, xs, ys, rfl, ?_⟩
    refine ⟨rfl, plns_str ys, dep_ok ys, ?_⟩
    show (if (!((ys.map D.str).any fun z => PyData.eqv (toP z) (toP (.str b)))) = true then _ else _)
    rw [any_str, decide_eq_true (pm.mem_iff.2 v1)]
    refine ⟨rfl, xs, ys, rfl, ?_⟩
    refine ⟨eN i, atI_nat (j := 2) rfl, ?_⟩
    show (if decide ((i : Int) < (((xs.map D.str).length : Nat) : Int)) = true then _ else _)
    rw [decide_eq_true (by rw [lenX]; omega)]
    have hz : xs[i]? = some (xs[i]'(by omega)) := List.getElem?_eq_getElem _
    rw [hz] at v3
    have hd : (xs.map D.str)[i]? = some (.str (xs[i]'(by omega))) := by rw [List.getElem?_map, hz]; rfl
    rw [show true = !decide ((xs[i]'(by omega)) = b) by rw [decide_eq_false fun e => v3 (by rw [e])]; rfl] at fin
    exact ⟨eN i, atI_nat (j := 2) rfl, _, atI_nat hd, rfl, fin⟩
def S_made : ST := fun ds n R => ∃ (xs ys : List Str) (c : Chg), ds = [.sh xs ys, eC c] ∧ Cat xs ∧ Row xs ys ∧ Vd xs ys c ∧ R (.new (.sh (nX c xs) (nY c ys))) n
theorem tree_u_made : ∀ ds n R, S_made ds n R → B_u_made S_bwa S_bwo (ends R) (slots [true, true] ds 4) n := by
  rintro _ n R ⟨xs, ys, c, rfl, cat, row, v, h⟩
  have fin := dn_of h
  obtain ⟨cat', row'⟩ := chg_ok cat row v
  have few := cat.2.1
  have ly := row.2.2
  cases c with
  | put b i j =>
    obtain ⟨v1, v2, v3, v4, v5⟩ := v
    refine ⟨.str "put", atI_nat (j := 0) rfl, .str b, atI_nat (j := 1) rfl, rfl, xs, ys, rfl, rfl, xs, ys, rfl, rfl, small_len, rfl, ?_⟩
    refine ⟨eN i, atI_nat (j := 2) rfl, rfl, xs, b, i, rfl, v3, by omega, ?_⟩
    exact ⟨eN j, atI_nat (j := 3) rfl, rfl, ys, b, j, rfl, v4, by omega, ins xs b i, ins ys b j, rfl, rfl, cat', row', rfl, fin⟩
  | out b =>
    refine ⟨.str "out", atI_nat (j := 0) rfl, .str b, atI_nat (j := 1) rfl, rfl, xs, ys, rfl, rfl, xs, ys, rfl, rfl, small_len, rfl, ?_⟩
    refine ⟨rfl, xs, b, _, rfl, .inl rfl, by omega, ?_⟩
    exact ⟨rfl, ys, b, _, rfl, .inl rfl, by omega, rem xs b, rem ys b, rfl, rfl, cat', row', rfl, fin⟩
  | move b i =>
    obtain ⟨v1, v2, v3⟩ := v
    have l := rem_len row.2.1 ((row_perm cat row).mem_iff.2 v1)
    refine ⟨.str "move", atI_nat (j := 0) rfl, .str b, atI_nat (j := 1) rfl, rfl, xs, ys, rfl, rfl, xs, ys, rfl, rfl, small_len, rfl, ?_⟩
    refine ⟨rfl, ys, b, _, rfl, .inl rfl, by omega, ?_⟩
    exact ⟨eN i, atI_nat (j := 2) rfl, rfl, rem ys b, b, i, rfl, by omega, by omega, xs, ins (rem ys b) b i, rfl, rfl, cat', row', rfl, fin⟩
  | list b i =>
    obtain ⟨v1, v2, v3⟩ := v
    have l := rem_len cat.2.2.2 v1
    refine ⟨.str "list", atI_nat (j := 0) rfl, .str b, atI_nat (j := 1) rfl, rfl, xs, ys, rfl, rfl, xs, ys, rfl, rfl, small_len, rfl, ?_⟩
    refine ⟨rfl, xs, b, _, rfl, .inl rfl, by omega, ?_⟩
    exact ⟨eN i, atI_nat (j := 2) rfl, rfl, rem xs b, b, i, rfl, by omega, by omega, ins (rem xs b) b i, ys, rfl, rfl, cat', row', rfl, fin⟩
def S_changed : ST := S_made
theorem tree_changed : ∀ ds n R, S_changed ds n R → B_changed S_check S_is_change S_fits S_made (ends R) (slots [true, false] ds 0) n := by
  rintro _ n R ⟨xs, ys, c, rfl, cat, row, v, h⟩
  exact ⟨rfl, xs, ys, rfl, rfl, c, rfl, v.word cat, rfl, xs, ys, c, rfl, cat, row, v, rfl, xs, ys, c, rfl, cat, row, v, rfl, dn_of h⟩
end TL

-- T64
set_option Elab.async false
set_option linter.all false
set_option maxRecDepth 100000
set_option maxHeartbeats 400000
/-! T64: runs kept, lost, new, by the program -/
namespace TL
open L2 PyProof.Rows PySem PySem.Spec TS RZ
theorem any_lst (t : List Str) : ∀ rs : List (List Str), ((rs.map dS).any fun z => PyData.eqv (toP z) (toP (dS t))) = decide (t ∈ rs)
  | [] => by simp
  | z :: r => by
    rw [List.map_cons, List.any_cons, any_lst t r, eqv_lst]
    by_cases h : z = t
    · subst h
      simp
    · have h' : ¬ t = z := fun q => h q.symm
      simp [h, h']
theorem plns_lst : ∀ rs : List (List Str), plns (rs.map dS) = true
  | [] => rfl
  | z :: r => by
    have := plns_lst r
    simp only [List.map_cons, plns, this, Bool.and_true]
    exact plns_str z
theorem deps_lst : ∀ rs : List (List Str), deps (rs.map dS) ≤ 1
  | [] => by simp
  | z :: r => by
    have := deps_lst r
    have h0 := deps_str z
    simp only [List.map_cons, deps, dep, h0]
    omega
theorem dep_lst (rs : List (List Str)) {k : Nat} : min (deps (rs.map dS)) k ≤ 60 := by
  have := deps_lst rs
  omega
theorem forms_few (c : Chg) (t : List Str) : (forms c t).length ≤ 2 := by cases c <;> simp [forms]
def S_stay : STP := fun ds n R => ∃ (xs ys : List Str) (c : Chg), ds = [.sh xs ys, eC c] ∧ Cat xs ∧ xs.length < 50 ∧ Row xs ys ∧ Vd xs ys c ∧
  ∀ rs rs', IsRuns xs ys rs → IsRuns (nX c xs) (nY c ys) rs' → R (dL (kept c rs rs')) (dL (lostR c rs rs')) n
theorem nX_few {xs ys : List Str} {c : Chg} (cat : Cat xs) (v : Vd xs ys c) : (nX c xs).length ≤ xs.length + 1 := by
  cases c with
  | put b i j => rw [show nX (.put b i j) xs = ins xs b i from rfl, ins_len]; omega
  | out b => exact Nat.le_succ_of_le (List.length_filter_le _ _)
  | move b i => exact Nat.le_succ _
  | list b i => rw [show nX (.list b i) xs = ins (rem xs b) b i from rfl, (back_perm i cat.2.2.2 v.1).length_eq]; omega
theorem runs_sq {xs ys : List Str} {rs : List (List Str)} (cat : Cat xs) (row : Row xs ys) (h : IsRuns xs ys rs) : rs.length ≤ 10000 := by
  have := runs_few h
  have few := cat.2.1
  have ly := row.2.2
  have sq : ys.length * ys.length ≤ 100 * 100 := Nat.mul_le_mul (by omega) (by omega)
  omega
theorem stay_any {c : Chg} {t : List Str} {rs' : List (List Str)} {x0 x4 x5 : Option Rv} {n : Nat} {R : Bool → Nat → Prop} (lt : t.length ≤ 60) (hR : R ((forms c t).any fun f => decide (f ∈ rs'.map srt)) n) :
    (tlT (tlB dAny (tlCons (tlLc (tlSeq (tlCall [true, true] S_forms (tlCons (tlV 3) (tlCons (tlV 1) tlNil)))) (.nm 6) tlYes (tlOp dInA (tlV 6) (tlV 2)) [6]) tlNil))) [x0, some (.val (eC c)), some (.bor (.lst ((rs'.map srt).map dS))), some (.val (tS t)), x4, x5, none] n R := by
  have ff := forms_few c t
  refine ⟨rfl, c, t, rfl, lt, ?_⟩
  refine ⟨by rw [List.length_map]; omega, ?_⟩
  refine lcF_map (f := fun f => D.bl (decide (f ∈ rs'.map srt))) (fun f _ n R hR => ?_) ?_
  · refine ⟨plns_str f, plns_lst _, dep_lst _, hR (.val _) ?_ rfl⟩
    show D.bl (((rs'.map srt).map dS).any fun z => PyData.eqv (toP z) (toP (dS f))) = _
    rw [any_lst]
  · refine ⟨(forms c t).map fun f => decide (f ∈ rs'.map srt), by rw [List.nil_append, List.map_map]; rfl, ?_⟩
    rw [show ((forms c t).map fun f => decide (f ∈ rs'.map srt)).any id = (forms c t).any fun f => decide (f ∈ rs'.map srt) by rw [List.any_map]; rfl]
    exact hR
theorem tree_u_stay : ∀ ds n R, S_stay ds n R → B_u_stay S_all_runs S_changed S_forms { nx := fun Γ n => B_u_stay_end S_all_runs S_changed S_forms R Γ n, rt := fun _ _ => False } (slots [true, false] ds 5) n := by
  rintro _ n R ⟨xs, ys, c, rfl, cat, few, row, v, h⟩
  obtain ⟨cat', row'⟩ := chg_ok cat row v
  have nf := nX_few cat v
  have pm := row_perm cat row
  have pm' := row_perm cat' row'
  refine ⟨rfl, xs, ys, c, rfl, cat, row, v, ?_⟩
  refine ⟨rfl, _, _, rfl, cat', row', fun rs' hrs' => ?_⟩
  have f' := runs_sq cat' row' hrs'
  refine ⟨by rw [List.length_map]; omega, ?_⟩
  refine lcF_map (f := fun t => dS (srt t)) (fun t ht n R hR => ?_) ?_
  · refine ⟨t, rfl, ?_, fun us p1 s1 => ?_⟩
    · have := run_few ((hrs'.mem cat'.2.2.2 pm').1 ht)
      omega
    · obtain rfl := srt_of p1 s1
      exact hR (.new (dS (srt t))) rfl rfl
  · rw [List.nil_append, show rs'.map (fun t => dS (srt t)) = (rs'.map srt).map dS by rw [List.map_map]; rfl]
    refine ⟨rfl, xs, ys, rfl, cat, row, fun rs hrs => ?_⟩
    have f := runs_sq cat row hrs
    have lr : ∀ t ∈ rs, t.length ≤ 60 := fun t ht => by have := run_few ((hrs.mem cat.2.2.2 pm).1 ht); omega
    refine ⟨by rw [List.length_map]; omega, ?_⟩
    refine lcF_filter (f := tS) (b := fun t => (forms c t).any fun f => decide (f ∈ rs'.map srt)) (fun t ht n R hR => stay_any (lr t ht) hR) (fun t _ _ n R hR => hR (.val (tS t)) rfl rfl) ?_
    rw [List.nil_append]
    show (tlRet2 5 (tlLc (tlSeq (tlV 4)) (.nm 3) (tlT (tlOp dNin (tlV 3) (tlV 5))) (tlV 3) [3])) R [some (.bor (.sh xs ys)), some (.val (eC c)), some (.new (.lst ((rs'.map srt).map dS))), none, some (.new (dL rs)), some (.new (dL (kept c rs rs'))), none] n
    have fin := h rs rs' hrs hrs'
    refine ⟨by rw [List.length_map]; omega, ?_⟩
    refine lcF_filter (f := tS) (b := fun t => !decide (t ∈ kept c rs rs')) (fun t ht n R hR => ?_) (fun t _ _ n R hR => hR (.val (tS t)) rfl rfl) fin
    refine ⟨plns_str t, plns_tup _, dep_tup _, ?_⟩
    rw [← any_tup] at hR
    exact hR
def S_kept : ST := fun ds n R => S_stay ds n fun d0 _ n2 => R (.new d0) n2
theorem tree_kept_runs : ∀ ds n R, S_kept ds n R → B_kept_runs S_stay (ends R) (slots [true, false] ds 0) n := by
  rintro _ n R ⟨xs, ys, c, rfl, cat, few, row, v, h⟩
  exact ⟨rfl, xs, ys, c, rfl, cat, few, row, v, fun rs rs' h1 h2 => ⟨rfl, dn_of (h rs rs' h1 h2)⟩⟩
def S_lost : ST := fun ds n R => S_stay ds n fun _ d1 n2 => R (.new d1) n2
theorem tree_lost_runs : ∀ ds n R, S_lost ds n R → B_lost_runs S_stay (ends R) (slots [true, false] ds 0) n := by
  rintro _ n R ⟨xs, ys, c, rfl, cat, few, row, v, h⟩
  exact ⟨rfl, xs, ys, c, rfl, cat, few, row, v, fun rs rs' h1 h2 => ⟨rfl, dn_of (h rs rs' h1 h2)⟩⟩
end TL

-- T65
set_option Elab.async false
set_option linter.all false
set_option maxRecDepth 100000
set_option maxHeartbeats 400000
/-! T65: new runs by the program; which are lost when a book goes, which are new when one comes -/
namespace TL
open L2 PyProof.Rows PySem PySem.Spec TS RZ
def S_new : ST := fun ds n R => ∃ (xs ys : List Str) (c : Chg), ds = [.sh xs ys, eC c] ∧ Cat xs ∧ xs.length < 50 ∧ Row xs ys ∧ Vd xs ys c ∧
  ∀ rs rs', IsRuns xs ys rs → IsRuns (nX c xs) (nY c ys) rs' → R (.new (dL (newR c rs rs'))) n
theorem forms_all (c : Chg) : ∀ rs : List (List Str), (rs.flatMap (forms c)).length ≤ 2 * rs.length
  | [] => by simp
  | t :: r => by
    have := forms_all c r
    have := forms_few c t
    rw [List.flatMap_cons, List.length_append, List.length_cons]
    omega
theorem tree_new_runs : ∀ ds n R, S_new ds n R → B_new_runs S_all_runs S_changed S_forms (ends R) (slots [true, false] ds 4) n := by
  rintro _ n R ⟨xs, ys, c, rfl, cat, few, row, v, h⟩
  obtain ⟨cat', row'⟩ := chg_ok cat row v
  have nf := nX_few cat v
  have pm := row_perm cat row
  have pm' := row_perm cat' row'
  refine ⟨rfl, xs, ys, c, rfl, cat, row, v, ?_⟩
  refine ⟨rfl, _, _, rfl, cat', row', fun rs' hrs' => ?_⟩
  have f' := runs_sq cat' row' hrs'
  refine ⟨rfl, xs, ys, rfl, cat, row, fun rs hrs => ?_⟩
  have f := runs_sq cat row hrs
  have lr : ∀ t ∈ rs, t.length ≤ 60 := fun t ht => by have := run_few ((hrs.mem cat.2.2.2 pm).1 ht); omega
  have fa := forms_all c rs
  refine lcF2_pure (enc := tS) (encb := dS) (g := forms c) (f := fun _ e => dS e) (fun t ht n R hR => ⟨rfl, c, t, rfl, lr t ht, hR⟩) (fun t _ e _ n R hR => hR (.val (dS e)) rfl rfl) (by rw [List.length_nil]; omega) ?_
  rw [List.nil_append, show (rs.flatMap fun t => (forms c t).map dS) = (rs.flatMap (forms c)).map dS by rw [List.map_flatMap]]
  refine ⟨by rw [List.length_map]; omega, ?_⟩
  refine lcF_filter (f := tS) (b := fun t => !decide (srt t ∈ rs.flatMap (forms c))) (fun t ht n R hR => ?_) (fun t _ _ n R hR => hR (.val (tS t)) rfl rfl) ⟨rfl, dn_of (h rs rs' hrs hrs')⟩
  refine ⟨t, rfl, ?_, fun us p1 s1 => ?_⟩
  · have := run_few ((hrs'.mem cat'.2.2.2 pm').1 ht)
    omega
  · obtain rfl := srt_of p1 s1
    refine ⟨plns_str _, plns_lst _, dep_lst _, ?_⟩
    rw [← any_lst] at hR
    exact hR
/-! ### a run less a book -/
theorem rem_app (a c : List Str) (b : Str) : rem (a ++ c) b = rem a b ++ rem c b := List.filter_append ..
theorem fits_rem {L t : List Str} {b : Str} (f : Fits t L) (sub : ∀ y ∈ t, y ∈ L) (ne : rem t b ≠ []) : Fits (rem t b) (rem L b) := by
  obtain ⟨l, m, r, rfl, st⟩ := f
  refine ⟨rem l b, rem m b, rem r b, by rw [rem_app, rem_app], ⟨fun e => ?_, fun y hy h => st.hl y (rem_mem.1 hy).1 (rem_mem.1 h).1, fun y hy => rem_mem.2 ⟨st.hm y (rem_mem.1 hy).1, (rem_mem.1 hy).2⟩, fun y hy h => st.hr y (rem_mem.1 hy).1 (rem_mem.1 h).1⟩⟩
  obtain ⟨y, hy⟩ := List.exists_mem_of_ne_nil _ ne
  obtain ⟨y1, y2⟩ := rem_mem.1 hy
  have ym : y ∈ m := by
    rcases List.mem_append.1 (sub y y1) with h | h
    · rcases List.mem_append.1 h with h | h
      · exact absurd y1 (st.hl y h)
      · exact h
    · exact absurd y1 (st.hr y h)
  have : y ∈ rem m b := rem_mem.2 ⟨ym, y2⟩
  rw [e] at this
  cases this
theorem run_out {xs ys t : List Str} {b : Str} (pm : ys.Perm xs) (run : IsRun xs ys t) (two : 2 ≤ (rem t b).length) : IsRun (rem xs b) (rem ys b) (rem t b) := by
  refine ⟨two, ?_, fits_rem run.fits (fun y hy => pm.mem_iff.2 (run_sub run y hy)) fun e => by rw [e] at two; exact absurd two (by decide)⟩
  obtain ⟨a, e, h⟩ := run.cat
  exact ⟨rem a b, rem e b, by rw [h, rem_app, rem_app]⟩
theorem rem_small {xs ys t : List Str} {b : Str} (nd : xs.Nodup) (run : IsRun xs ys t) (h : ¬ 2 ≤ (rem t b).length) : t.length = 2 ∧ b ∈ t := by
  have two := run.two
  have bt : b ∈ t := Classical.byContradiction fun z => h (by rw [rem_not z]; exact two)
  have := rem_len (run_nd nd run) bt
  exact ⟨by omega, bt⟩
theorem lost_out {xs ys : List Str} {b : Str} {rs rs' : List (List Str)} (cat : Cat xs) (row : Row xs ys) (v : Vd xs ys (.out b)) (h1 : IsRuns xs ys rs) (h2 : IsRuns (nX (.out b) xs) (nY (.out b) ys) rs') :
    lostR (.out b) rs rs' = rs.filter fun t => decide (t.length = 2) && decide (b ∈ t) := by
  obtain ⟨cat', row'⟩ := chg_ok cat row v
  have pm := row_perm cat row
  have pm' := row_perm cat' row'
  refine List.filter_congr fun t ht => ?_
  have run := (h1.mem cat.2.2.2 pm).1 ht
  by_cases two : 2 ≤ (rem t b).length
  · have r' := (h2.mem cat'.2.2.2 pm').2 (run_out (b := b) pm run two)
    have kp : t ∈ kept (.out b) rs rs' := List.mem_filter.2 ⟨ht, by simpa [forms] using ⟨rem t b, r', rfl⟩⟩
    rw [decide_eq_true kp]
    symm
    rw [Bool.not_true, Bool.and_eq_false_iff]
    by_cases bt : b ∈ t
    · refine .inl (decide_eq_false ?_)
      have := rem_len (run_nd cat.2.2.2 run) bt
      omega
    · exact .inr (decide_eq_false bt)
  · obtain ⟨l2, bt⟩ := rem_small cat.2.2.2 run two
    have nk : t ∉ kept (.out b) rs rs' := fun z => by
      obtain ⟨_, z⟩ := List.mem_filter.1 z
      simp only [forms, List.any_cons, List.any_nil, Bool.or_false, decide_eq_true_eq] at z
      obtain ⟨u, hu, e⟩ := List.mem_map.1 z
      have := congrArg List.length e
      rw [srt_len, srt_len] at this
      have := ((h2.mem cat'.2.2.2 pm').1 hu).two
      omega
    rw [decide_eq_false nk, decide_eq_true l2, decide_eq_true bt]
    rfl
theorem rem_ins {xs : List Str} {b : Str} {i : Nat} (h : b ∉ xs) : rem (ins xs b i) b = xs := by
  unfold ins
  rw [rem_app, rem_app, rem_not fun z => h (List.mem_of_mem_take z), rem_not fun z => h (List.mem_of_mem_drop z), show rem [b] b = [] by simp [rem], List.append_nil, List.take_append_drop]
theorem new_put {xs ys : List Str} {b : Str} {i j : Nat} {rs rs' : List (List Str)} (cat : Cat xs) (row : Row xs ys) (v : Vd xs ys (.put b i j)) (h1 : IsRuns xs ys rs) (h2 : IsRuns (nX (.put b i j) xs) (nY (.put b i j) ys) rs') :
    ∀ t ∈ newR (.put b i j) rs rs', t.length = 2 ∧ b ∈ t := fun t ht => by
  obtain ⟨cat', row'⟩ := chg_ok cat row v
  have pm := row_perm cat row
  have pm' := row_perm cat' row'
  have bx := v.2.1
  have bY : b ∉ ys := fun z => bx (pm.mem_iff.1 z)
  obtain ⟨t1, t2⟩ := List.mem_filter.1 ht
  rw [Bool.not_eq_true', decide_eq_false_iff_not] at t2
  have run := (h2.mem cat'.2.2.2 pm').1 t1
  refine rem_small cat'.2.2.2 run fun two => t2 ?_
  have r := run_out (b := b) pm' run two
  rw [show rem (nX (.put b i j) xs) b = xs from rem_ins bx, show rem (nY (.put b i j) ys) b = ys from rem_ins bY] at r
  refine List.mem_flatMap.2 ⟨rem t b, (h1.mem cat.2.2.2 pm).2 r, ?_⟩
  by_cases bt : b ∈ t
  · have e : srt t = srt (rem t b ++ [b]) := srt_eq (((List.perm_append_comm (l₁ := rem t b) (l₂ := [b])).trans (rem_perm (run_nd cat'.2.2.2 run) bt)).symm)
    rw [e]
    exact List.mem_cons_of_mem _ List.mem_cons_self
  · rw [show rem t b = t from rem_not bt]
    exact List.mem_cons_self
end TL

-- T66
set_option Elab.async false
set_option linter.all false
set_option maxRecDepth 100000
set_option maxHeartbeats 400000
/-! T66: the law's own sizes, shelves, lots of runs, changed worlds -/
namespace TL
open L2 PyProof.Rows PySem PySem.Spec TS RZ
def S_sized : ST := fun ds n R => ds = [.purse] ∧ 2 ≤ n ∧ ∀ m : Nat, 1 ≤ m → m ≤ 12 → R (.val (.int m)) (n - 2)
theorem tree_w_sized : ∀ ds n R, S_sized ds n R → B_w_sized S_draw (ends R) (slots [true] ds 0) n := by
  rintro _ n R ⟨rfl, hn, h⟩
  refine ⟨rfl, 4, rfl, by omega, by omega, by omega, fun r hr => ?_⟩
  show (if decide ((r : Int) = 0) = true then _ else _)
  cases decide ((r : Int) = 0) with
  | true => exact ⟨rfl, 12, rfl, by omega, by omega, by omega, fun q hq => ⟨rfl, n - 2, by omega, h (1 + q) (by omega) (by omega)⟩⟩
  | false => exact ⟨rfl, 7, rfl, by omega, by omega, by omega, fun q hq => ⟨rfl, n - 2, by omega, h (2 + q) (by omega) (by omega)⟩⟩
def S_wstays : ST := fun ds n R => ∃ xs ys : List Str, ds = [dW xs ys, .sh xs ys] ∧ Cat xs ∧ Row xs ys ∧ R (.val (.bl true)) n
theorem tree_w_stays : ∀ ds n R, S_wstays ds n R → B_w_stays (S_exact 4) S_shelf (ends R) (slots [true, true] ds 0) n := by
  rintro _ n R ⟨xs, ys, rfl, cat, row, h⟩
  have f1 := cat.2.1
  have f2 := row.2.2
  refine ⟨rfl, xs, ys, rfl, rfl, xs, ys, rfl, rfl, small_len, ?_⟩
  refine ⟨_, atI_nat (j := 0) rfl, _, atI_nat (j := 1) rfl, rfl, small_len, rfl, dW xs ys, rfl, xd_dW (k := 2) (by omega) (by omega), ?_⟩
  refine ⟨rfl, xs, ys, rfl, cat, row, ?_⟩
  exact eq_self cat row ⟨rfl, dn_of h⟩
theorem e_po : decide (("put" : Str) = "out") = false := by decide +kernel
/-! ### lots of a run -/
def S_lots_of : ST := fun ds n R => ∃ (c : Chg) (t : List Str), ds = [tS t, eC c] ∧ t.length ≤ 60 ∧ R (.new (dF (forms c t))) n
theorem tree_w_lots_of_run : ∀ ds n R, S_lots_of ds n R → B_w_lots_of_run (ends R) (slots [true, true] ds 2) n := by
  rintro _ n R ⟨c, t, rfl, few, h⟩
  have fin := dn_of h
  have lenT : ((t.map D.str).length : Nat) ≤ 1000000 := by rw [List.length_map]; omega
  have lc1 : ∀ {w : Str} {r : List D} {n : Nat} {q : List D → Nat → Prop} {g0 : Option Rv}, decide (w = "out") = false → q (t.map D.str) n → lcF (.nm 3) (tlOrT (tlT (tlOp dNe (tlOp dIx (tlV 1) (tlC (.int 0))) (tlC (.str "out")))) (tlT (tlOp dNeA (tlV 3) (tlOp dIx (tlV 1) (tlC (.int 1)))))) (tlV 3) [g0, some (.bor (.tup (.str w :: r))), none, none] (t.map D.str) [] n q := by
    intro w r n q g0 hw h
    refine lcF_filter (f := fun y : Str => D.str y) (b := fun _ => true) (fun y _ n R hR => ⟨.str w, atI_nat (j := 0) rfl, ?_⟩) (fun y _ _ n R hR => hR (.val (.str y)) rfl rfl) ?_
    · show (if (!decide (w = "out")) = true then _ else _)
      rw [hw]
      exact hR
    · rw [show t.filter (fun _ => true) = t from List.filter_eq_self.2 fun _ _ => rfl]
      exact h
  cases c with
  | put b i j =>
    refine ⟨lenT, lc1 e_po ?_⟩
    refine .inl ⟨t, rfl, by omega, fun us p1 s1 => ?_⟩
    obtain rfl := srt_of p1 s1
    refine ⟨rfl, small_len, .str "put", atI_nat (j := 0) rfl, ?_⟩
    refine ⟨.str b, atI_nat (j := 1) rfl, rfl, small_len, ?_⟩
    refine ⟨by show (t.map D.str).length + 1 ≤ _; rw [List.length_map]; omega, ?_⟩
    refine .inl ⟨t ++ [b], by show (t.map D.str ++ [D.str b]) = _; rw [List.map_append]; rfl, by rw [List.length_append, List.length_singleton]; omega, fun vs p2 s2 => ?_⟩
    obtain rfl := srt_of p2 s2
    exact ⟨rfl, small_len, Nat.le_trans (Nat.le_refl 2) (by decide), rfl, fin⟩
  | out b =>
    refine ⟨lenT, ?_⟩
    refine lcF_filter (f := fun y : Str => D.str y) (b := fun y => !decide (y = b)) (fun y _ n R hR => ⟨.str "out", atI_nat (j := 0) rfl, .str b, atI_nat (j := 1) rfl, hR⟩) (fun y _ _ n R hR => hR (.val (.str y)) rfl rfl) ?_
    refine .inl ⟨rem t b, rfl, Nat.lt_of_le_of_lt (List.length_filter_le _ _) (by omega), fun us p1 s1 => ?_⟩
    obtain rfl := srt_of p1 s1
    refine ⟨rfl, small_len, .str "out", atI_nat (j := 0) rfl, ?_⟩
    exact ⟨rfl, small_len, Nat.le_trans (Nat.le_refl 1) (by decide), rfl, fin⟩
  | move b i =>
    refine ⟨lenT, lc1 e_mo ?_⟩
    refine .inl ⟨t, rfl, by omega, fun us p1 s1 => ?_⟩
    obtain rfl := srt_of p1 s1
    refine ⟨rfl, small_len, .str "move", atI_nat (j := 0) rfl, ?_⟩
    exact ⟨rfl, small_len, Nat.le_trans (Nat.le_refl 1) (by decide), rfl, fin⟩
  | list b i =>
    refine ⟨lenT, lc1 e_lo ?_⟩
    refine .inl ⟨t, rfl, by omega, fun us p1 s1 => ?_⟩
    obtain rfl := srt_of p1 s1
    refine ⟨rfl, small_len, .str "list", atI_nat (j := 0) rfl, ?_⟩
    exact ⟨rfl, small_len, Nat.le_trans (Nat.le_refl 1) (by decide), rfl, fin⟩
/-! ### the changed world -/
def S_wchanged : ST := fun ds n R => ∃ (xs ys : List Str) (c : Chg), ds = [dW xs ys, eC c] ∧ Cat xs ∧ Row xs ys ∧ Vd xs ys c ∧ R (.new (dW (nX c xs) (nY c ys))) n
end TL

-- T67
set_option Elab.async false
set_option linter.all false
set_option maxRecDepth 100000
set_option maxHeartbeats 400000
/-! T67: the law's changed world -/
namespace TL
open L2 PyProof.Rows PySem PySem.Spec TS RZ
theorem ins_cut {zs : List Str} {b : Str} {i : Nat} (h : i ≤ zs.length) : D.lst (cutL (zs.map D.str) none (some (i : Int)) ++ [D.str b] ++ cutL (zs.map D.str) (some (i : Int)) none) = dS (ins zs b i) := by
  rw [cut_to (by rw [List.length_map]; exact h), cut_from (by rw [List.length_map]; exact h), ← List.map_take, ← List.map_drop]
  unfold ins
  show D.lst _ = D.lst ((zs.take i ++ [b] ++ zs.drop i).map D.str)
  rw [List.map_append, List.map_append]
  rfl
theorem cutL_few {zs : List Str} (h : zs.length ≤ 1000) (lo hi : Option Int) : (cutL (zs.map D.str) lo hi).length ≤ 1000 := by
  obtain ⟨ys, e, _, l⟩ := cut_few D.str zs lo hi
  rw [e, List.length_map]
  omega
abbrev wcI (k p : Nat) : TX := (tlOp dAdd (tlOp dAdd (tlSl (tlV k) none (some (tlOp dIx (tlV 1) (tlC (.int p))))) (tlLst (tlCons (tlV 3) tlNil))) (tlSl (tlV k) (some (tlOp dIx (tlV 1) (tlC (.int p)))) none))
/-- x[:i] + [b] + x[i:] -/
theorem wc_ins {zs : List Str} {b : Str} {i p : Nat} {x0 : Option Rv} {ds : List D} {k : Nat} {r : Gm} {n : Nat} {R : Rv → Nat → Prop} (Γ : Gm) (h1 : Γ[1]? = some (some (.val (.tup ds)))) (h3 : Γ[3]? = some (some (.val (.str b)))) (hk : Γ[k]? = some (some (.new (dS zs)))) (hp : ds[p]? = some (eN i)) (hi : i ≤ zs.length) (few : zs.length ≤ 1000) (h : R (.new (dS (ins zs b i))) n) : wcI k p Γ n R := by
  have v1 : ∀ {n : Nat} {R : Rv → Nat → Prop}, R (.val (.tup ds)) n → tlV 1 Γ n R := fun {n R} h => by unfold tlV; rw [h1]; exact h
  have v3 : ∀ {n : Nat} {R : Rv → Nat → Prop}, R (.val (.str b)) n → tlV 3 Γ n R := fun {n R} h => by unfold tlV; rw [h3]; exact h
  have vk : ∀ {n : Nat} {R : Rv → Nat → Prop}, R (.tmp (dS zs)) n → tlV k Γ n R := fun {n R} h => by unfold tlV; rw [hk]; exact h
  have c1 := cutL_few few none (some (i : Int))
  have c2 := cutL_few few (some (i : Int)) none
  unfold wcI
  dsimp only [tlOp, tlSl, tlPart, tlLst, tlCons, tlNil]
  refine vk ?_
  refine v1 ?_
  refine ⟨eN i, atI_nat hp, rfl, ?_⟩
  dsimp only [Rv.d, dSl]
  refine v3 ?_
  refine ⟨rfl, small_len, ?_⟩
  refine ⟨by show (cutL (zs.map D.str) none (some (i : Int))).length + 1 ≤ 1000000; omega, ?_⟩
  refine vk ?_
  refine v1 ?_
  refine ⟨eN i, atI_nat hp, rfl, ?_⟩
  refine ⟨by show (cutL (zs.map D.str) none (some (i : Int)) ++ [D.str b]).length + (cutL (zs.map D.str) (some (i : Int)) none).length ≤ 1000000; rw [List.length_append, List.length_singleton]; omega, ?_⟩
  show R (.new (.lst (cutL (zs.map D.str) none (some (i : Int)) ++ [D.str b] ++ cutL (zs.map D.str) (some (i : Int)) none))) n
  rw [ins_cut hi]
  exact h
theorem rem_lc {zs : List Str} {b : Str} {x0 x1 x2 x4 x5 : Option Rv} {n : Nat} {q : List D → Nat → Prop} (h : q ((rem zs b).map D.str) n) :
    lcF (.nm 6) (tlT (tlOp dNeA (tlV 6) (tlV 3))) (tlV 6) [x0, x1, x2, some (.val (.str b)), x4, x5, none] (zs.map D.str) [] n q :=
  lcF_filter (f := fun y : Str => D.str y) (b := fun y => !decide (y = b)) (fun y _ n R hR => hR) (fun y _ _ n R hR => hR (.val (.str y)) rfl rfl) h
theorem cut_pair (a b : D) (r : List D) : cutL (a :: b :: r) none (some 2) = [a, b] := cut_pre (l := [a, b]) (s := r)
theorem not_whole {a b c : D} {r : List D} : ¬ (HT.sIx (a :: b :: c :: r).length 0 none = 0 ∧ HT.sIx (a :: b :: c :: r).length (a :: b :: c :: r).length (some 2) = (a :: b :: c :: r).length) := fun z => by
  have h := z.2
  rw [show HT.sIx (a :: b :: c :: r).length (a :: b :: c :: r).length (some 2) = min 2 (a :: b :: c :: r).length from HT.sIx_nat _ _ 2] at h
  simp only [List.length_cons] at h
  omega
abbrev wcR : TSt := (tlSq (tlIf (tlT (tlOp dEq (tlV 2) (tlC (.str "put")))) (tlRel 3 (tlRet (tlLst (tlCons (wcI 4 2) (tlCons (wcI 5 3) tlNil))))) tlNx) (tlSq (tlIf (tlT (tlOp dEq (tlV 2) (tlC (.str "out")))) (tlRel 5 (tlRel 4 (tlRet (tlLst (tlCons (tlV 4) (tlCons (tlV 5) tlNil)))))) tlNx) (tlSq (tlIf (tlT (tlOp dEq (tlV 2) (tlC (.str "move")))) (tlRel 3 (tlRet (tlLst (tlCons (tlB dList (tlCons (tlOp dIx (tlV 0) (tlC (.int 0))) tlNil)) (tlCons (wcI 5 2) tlNil))))) tlNx) (tlRel 3 (tlRet (tlLst (tlCons (wcI 4 2) (tlCons (tlB dList (tlCons (tlOp dIx (tlV 0) (tlC (.int 1))) tlNil)) tlNil))))))))
abbrev wcG (xs ys : List Str) (c : Chg) (w b : Str) : Gm := [some (.bor (dW xs ys)), some (.val (eC c)), some (.val (.str w)), some (.val (.str b)), some (.new (dS (rem xs b))), some (.new (dS (rem ys b))), none]
theorem wch_tail {xs ys : List Str} {c : Chg} {w b : Str} {r : List D} {n : Nat} {R : Rv → Nat → Prop} (ec : eC c = .tup (.str w :: .str b :: r)) (cat : Cat xs) (row : Row xs ys) (v : Vd xs ys c) (h : R (.new (dW (nX c xs) (nY c ys))) n) :
    wcR (ends R) [some (.bor (dW xs ys)), some (.val (eC c)), some (.val (.str w)), some (.val (.str b)), some (.new (dS (rem xs b))), some (.new (dS (rem ys b))), none] n := by
  have fin := dn_of h
  have few := cat.2.1
  have ly := row.2.2
  have fx : (rem xs b).length ≤ 1000 := by have := List.length_filter_le (fun y => !decide (y = b)) xs; exact Nat.le_trans this (by omega)
  have fy : (rem ys b).length ≤ 1000 := by have := List.length_filter_le (fun y => !decide (y = b)) ys; exact Nat.le_trans this (by omega)
  cases c with
  | put b' i j =>
    injection ec with ec
    injection ec with e1 ec
    injection ec with e2 ec
    injection e1 with e1
    injection e2 with e2
    subst e1 e2
    obtain ⟨v1, v2, v3, v4, v5⟩ := v
    have rx : rem xs b' = xs := rem_not v2
    have ry : rem ys b' = ys := rem_not fun z => v2 (row.1 _ z)
    refine wc_ins (ds := [.str "put", .str b', eN i, eN j]) (k := 4) (p := 2) (i := i) (x0 := none) (r := []) (wcG xs ys (.put b' i j) "put" b') rfl rfl rfl rfl (by rw [rx]; omega) fx ?_
    refine wc_ins (ds := [.str "put", .str b', eN i, eN j]) (k := 5) (p := 3) (i := j) (x0 := none) (r := []) (wcG xs ys (.put b' i j) "put" b') rfl rfl rfl rfl (by rw [ry]; omega) fy ?_
    refine ⟨rfl, small_len, rfl, ?_⟩
    rw [show dW (nX (.put b' i j) xs) (nY (.put b' i j) ys) = .lst [dS (ins (rem xs b') b' i), dS (ins (rem ys b') b' j)] by rw [rx, ry]; rfl] at fin
    exact fin
  | out b' =>
    injection ec with ec
    injection ec with e1 ec
    injection ec with e2 ec
    injection e1 with e1
    injection e2 with e2
    subst e1 e2
    exact ⟨rfl, small_len, rfl, fin⟩
  | move b' i =>
    injection ec with ec
    injection ec with e1 ec
    injection ec with e2 ec
    injection e1 with e1
    injection e2 with e2
    subst e1 e2
    have l := rem_len row.2.1 ((row_perm cat row).mem_iff.2 v.1)
    have vi := v.2.1
    refine ⟨dS xs, atI_nat (j := 0) rfl, ?_⟩
    refine wc_ins (ds := [.str "move", .str b', eN i]) (k := 5) (p := 2) (i := i) (x0 := none) (r := []) (wcG xs ys (.move b' i) "move" b') rfl rfl rfl rfl (by omega) fy ?_
    exact ⟨rfl, small_len, rfl, fin⟩
  | list b' i =>
    injection ec with ec
    injection ec with e1 ec
    injection ec with e2 ec
    injection e1 with e1
    injection e2 with e2
    subst e1 e2
    have l := rem_len cat.2.2.2 v.1
    have vi := v.2.1
    refine wc_ins (ds := [.str "list", .str b', eN i]) (k := 4) (p := 2) (i := i) (x0 := none) (r := []) (wcG xs ys (.list b' i) "list" b') rfl rfl rfl rfl (by omega) fx ?_
    refine ⟨dS ys, atI_nat (j := 1) rfl, ?_⟩
    exact ⟨rfl, small_len, rfl, fin⟩
abbrev wcP : TSt := (tlSq (tlPar 4 5 (tlLc (tlSeq (tlOp dIx (tlV 0) (tlC (.int 0)))) (.nm 6) (tlT (tlOp dNeA (tlV 6) (tlV 3))) (tlV 6) [6]) (tlLc (tlSeq (tlOp dIx (tlV 0) (tlC (.int 1)))) (.nm 6) (tlT (tlOp dNeA (tlV 6) (tlV 3))) (tlV 6) [6])) wcR)
theorem wch_par {xs ys : List Str} {c : Chg} {w b : Str} {r : List D} {n : Nat} {R : Rv → Nat → Prop} (ec : eC c = .tup (.str w :: .str b :: r)) (cat : Cat xs) (row : Row xs ys) (v : Vd xs ys c) (h : R (.new (dW (nX c xs) (nY c ys))) n) :
    wcP (ends R) [some (.bor (dW xs ys)), some (.val (eC c)), some (.val (.str w)), some (.val (.str b)), none, none, none] n := by
  have few := cat.2.1
  have ly := row.2.2
  refine ⟨dS xs, atI_nat (j := 0) rfl, by rw [List.length_map]; omega, rem_lc ?_⟩
  refine ⟨dS ys, atI_nat (j := 1) rfl, by rw [List.length_map]; omega, rem_lc ?_⟩
  exact wch_tail ec cat row v h
theorem tree_w_changed : ∀ ds n R, S_wchanged ds n R → B_w_changed (ends R) (slots [true, false] ds 5) n := by
  rintro _ n R ⟨xs, ys, c, rfl, cat, row, v, h⟩
  cases c with
  | put b i j => exact ⟨rfl, fun z => absurd z not_whole, fun _ => ⟨rfl, wch_par rfl cat row v h⟩⟩
  | out b => exact ⟨rfl, fun _ => ⟨rfl, wch_par rfl cat row v h⟩, fun z => absurd ⟨rfl, rfl⟩ z⟩
  | move b i => exact ⟨rfl, fun z => absurd z not_whole, fun _ => ⟨rfl, wch_par rfl cat row v h⟩⟩
  | list b i => exact ⟨rfl, fun z => absurd z not_whole, fun _ => ⟨rfl, wch_par rfl cat row v h⟩⟩
end TL

-- T68
set_option Elab.async false
set_option linter.all false
set_option maxRecDepth 100000
set_option maxHeartbeats 400000
/-! T68: strange books -/
namespace TL
open L2 PyProof.Rows PySem PySem.Spec TS RZ
abbrev abp : Str := "abcdefghijklmnop"
def W16 : List Str := (signs abp).map fun c => ("zzzzzzz" : Str) ++ c
theorem abp_list : abp.cps.toList = (List.range 16).map fun k => 97 + k := by decide +kernel
theorem W16_ok : W16.length = 16 ∧ W16.Nodup ∧ ∀ y ∈ W16, isWord y := by
  have e : W16 = (List.range 16).map fun k => (⟨#[122, 122, 122, 122, 122, 122, 122, 97 + k]⟩ : Str) := by
    unfold W16 signs
    rw [abp_list, List.map_map, List.map_map]
    refine List.map_congr_left fun k hk => ?_
    rfl
  refine ⟨by rw [e]; rfl, by rw [e]; decide +kernel, fun y hy => ?_⟩
  rw [e] at hy
  obtain ⟨k, hk, rfl⟩ := List.mem_map.1 hy
  have := List.mem_range.1 hk
  refine ⟨Nat.le_of_ble_eq_true rfl, Nat.le_of_ble_eq_true rfl, fun c hc => ?_⟩
  simp at hc
  omega
theorem W16_left {zs : List Str} (few : zs.length < 16) : (W16.filter fun y => !decide (y ∈ zs)) ≠ [] := by
  intro e
  obtain ⟨n, nd, _⟩ := W16_ok
  have sub : ∀ y ∈ W16, y ∈ zs := fun y hy => by
    have := List.filter_eq_nil_iff.1 e y hy
    simpa using this
  have := nodup_le _ _ nd sub
  omega
def S_strange : ST := fun ds n R => ∃ xs ys : List Str, ds = [dW xs ys] ∧ xs.length < 16 ∧ ∀ zs : List Str, zs ≠ [] → zs.length ≤ 16 → (∀ z ∈ zs, isWord z ∧ z ∉ xs) → R (.new (dS zs)) n
theorem tree_w_strange_books : ∀ ds n R, S_strange ds n R → B_w_strange_books (ends R) (slots [true] ds 2) n := by
  rintro _ n R ⟨xs, ys, rfl, few, h⟩
  obtain ⟨len, nd, wd⟩ := W16_ok
  have ls : (signs abp).length = 16 := by have := len; unfold W16 at this; rwa [List.length_map] at this
  refine ⟨by decide +kernel, by rw [List.length_map, ls]; decide, ?_⟩
  refine lcF_map (f := fun c : Str => D.str (("zzzzzzz" : Str) ++ c)) (fun c hc n R hR => ⟨?_, hR (.val (.str _)) rfl rfl⟩) ?_
  · have : c.length = 1 := by
      unfold signs at hc
      obtain ⟨k, _, rfl⟩ := List.mem_map.1 hc
      rfl
    show (("zzzzzzz" : Str)).length + c.length ≤ 1000000
    rw [this]
    decide +kernel
  · rw [List.nil_append, show (signs abp).map (fun c : Str => D.str (("zzzzzzz" : Str) ++ c)) = W16.map D.str by unfold W16; rw [List.map_map]; rfl]
    refine ⟨by rw [List.length_map, len]; decide, ?_⟩
    refine lcF_filter (f := fun y : Str => D.str y) (b := fun y => !decide (y ∈ xs)) (fun y _ n R hR => ⟨dS xs, atI_nat (j := 0) rfl, rfl, plns_str xs, dep_ok xs, by rw [← any_str] at hR; exact hR⟩) (fun y _ _ n R hR => hR (.val (.str y)) rfl rfl) ?_
    rw [List.nil_append]
    refine ⟨rfl, dn_of (h (W16.filter fun y => !decide (y ∈ xs)) (W16_left few) ?_ fun z hz => ?_)⟩
    · have := List.length_filter_le (fun y => !decide (y ∈ xs)) W16
      omega
    · obtain ⟨h1, h2⟩ := List.mem_filter.1 hz
      rw [Bool.not_eq_true', decide_eq_false_iff_not] at h2
      exact ⟨wd z h1, h2⟩
end TL

-- T69
set_option Elab.async false
set_option linter.all false
set_option maxRecDepth 100000
set_option maxHeartbeats 400000
/-! T69: some changes are drawn -/
namespace TL
open L2 PyProof.Rows PySem PySem.Spec TS RZ
abbrev sb4 : TSt := (tlSq (tlRel 11 (tlRel 10 (tlSet 8 (tlOp dAdd (tlV 8) (tlIfx (tlT (tlOp dNe (tlIdx (tlOp dIx (tlV 1) (tlC (.int 1))) (tlV 10)) (tlV 11))) (tlLst (tlCons (tlTup (tlCons (tlC (.str "move")) (tlCons (tlV 10) (tlCons (tlV 11) tlNil)))) tlNil)) (tlLst tlNil)))))) (tlRel 12 (tlRel 10 (tlSet 8 (tlOp dAdd (tlV 8) (tlIfx (tlT (tlOp dNe (tlIdx (tlOp dIx (tlV 1) (tlC (.int 0))) (tlV 10)) (tlV 12))) (tlLst (tlCons (tlTup (tlCons (tlC (.str "list")) (tlCons (tlV 10) (tlCons (tlV 12) tlNil)))) tlNil)) (tlLst tlNil)))))))
abbrev sb3 : TSt := (tlSq (tlPar 11 12 (tlCall [true, true] S_draw (tlCons (tlV 0) (tlCons (tlV 3) tlNil))) (tlCall [true, true] S_draw (tlCons (tlV 0) (tlCons (tlV 3) tlNil)))) sb4)
abbrev sb2 : TSt := (tlSq (tlRel 10 (tlSet 8 (tlOp dAdd (tlV 8) (tlIfx (tlT (tlOp dGt (tlV 3) (tlC (.int 1)))) (tlLst (tlCons (tlTup (tlCons (tlC (.str "out")) (tlCons (tlV 10) tlNil))) tlNil)) (tlLst tlNil))))) sb3)
abbrev sb1 : TSt := (tlSq (tlSet 10 (tlCall [true, true] S_one_of (tlCons (tlV 0) (tlCons (tlV 2) tlNil)))) sb2)
abbrev scB : TSt := sb1
abbrev scR : TSt := (tlRet (tlCall [true, true] S_shuffled (tlCons (tlV 0) (tlCons (tlIfx (tlT (tlOp dLt (tlV 3) (tlC (.int 12)))) (tlV 8) (tlLc (tlSeq (tlV 8)) (.nm 13) (tlT (tlOp dNe (tlOp dIx (tlV 13) (tlC (.int 0))) (tlC (.str "put")))) (tlV 13) [13])) tlNil))))
abbrev sc5 : TSt := (tlSq (tlFor (tlRng1 (tlC (.int 2))) (.nm 9) scB) scR)
abbrev sc4 : TSt := (tlSq (tlSet 8 (tlLc (tlRng1 (tlC (.int 2))) (.nm 9) tlYes (tlTup (tlCons (tlC (.str "put")) (tlCons (tlCall [true, true] S_one_of (tlCons (tlV 0) (tlCons (tlV 7) tlNil))) (tlCons (tlCall [true, true] S_draw (tlCons (tlV 0) (tlCons (tlOp dAdd (tlV 3) (tlC (.int 1))) tlNil))) (tlCons (tlCall [true, true] S_draw (tlCons (tlV 0) (tlCons (tlOp dAdd (tlV 3) (tlC (.int 1))) tlNil))) tlNil))))) [9])) sc5)
abbrev sc3 : TSt := (tlSq (tlSet 7 (tlOp dAdd (tlOp dAdd (tlOp dAdd (tlSl (tlV 4) none (some (tlC (.int 1)))) (tlSl (tlV 5) none (some (tlC (.int 2))))) (tlSl (tlV 5) (some (tlUn dNeg (tlC (.int 2)))) none)) (tlLc (tlSeq (tlCall [true, true] S_words (tlCons (tlV 0) (tlCons (tlC (.int 4)) tlNil)))) (.nm 6) (tlT (tlOp dNin (tlV 6) (tlV 2))) (tlV 6) [6]))) sc4)
abbrev sc2 : TSt := (tlSq (tlSet 5 (tlLc (tlSeq (tlOp dAdd (tlB dList (tlCons (tlC (.str "abcdefghijklmnopqrstuvwxyz")) tlNil)) (tlLst (tlCons (tlC (.str "ab")) (tlCons (tlC (.str "mm")) (tlCons (tlC (.str "aaaaaaaa")) tlNil)))))) (.nm 6) (tlT (tlOp dNin (tlV 6) (tlV 2))) (tlV 6) [6])) sc3)
abbrev sc1 : TSt := (tlSq (tlUnp [2, 3, 4] (tlTup (tlCons (tlB dList (tlCons (tlOp dIx (tlV 1) (tlC (.int 0))) tlNil)) (tlCons (tlB dLen (tlCons (tlOp dIx (tlV 1) (tlC (.int 0))) tlNil)) (tlCons (tlCall [true] S_strange (tlCons (tlV 1) tlNil)) tlNil))))) sc2)
abbrev sg (xs ys st : List Str) (x5 x7 x8 x9 x10 x11 x12 : Option Rv) : Gm := [some (.bor .purse), some (.bor (dW xs ys)), some (.val (dS xs)), some (.val (.int ((xs.length : Nat) : Int))), some (.val (dS st)), x5, none, x7, x8, x9, x10, x11, x12, none]
@[reducible] def dCs (cs : List Chg) : D := .lst (cs.map eC)
def AllV (xs ys : List Str) (cs : List Chg) : Prop := ∀ c ∈ cs, Vd xs ys c
theorem AllV.app {xs ys : List Str} {a b : List Chg} (h : AllV xs ys a) (g : AllV xs ys b) : AllV xs ys (a ++ b) := fun c hc => (List.mem_append.1 hc).elim (h c) (g c)
theorem idx_ne {xs : List Str} {b : Str} {i : Nat} (h : xs.idxOf b ≠ i) (nd : xs.Nodup) : xs[i]? ≠ some b := fun z => h (idx_eq nd z)
abbrev sb5 : TSt := (tlRel 12 (tlRel 10 (tlSet 8 (tlOp dAdd (tlV 8) (tlIfx (tlT (tlOp dNe (tlIdx (tlOp dIx (tlV 1) (tlC (.int 0))) (tlV 10)) (tlV 12))) (tlLst (tlCons (tlTup (tlCons (tlC (.str "list")) (tlCons (tlV 10) (tlCons (tlV 12) tlNil)))) tlNil)) (tlLst tlNil))))))
theorem dCs_snoc (cs : List Chg) (c : Chg) : dCs (cs ++ [c]) = .lst (cs.map eC ++ [eC c]) := congrArg D.lst List.map_append
theorem dCs_nil (cs : List Chg) : dCs cs = .lst (cs.map eC ++ []) := congrArg D.lst (List.append_nil _).symm
theorem sb_5 {xs ys st : List Str} {cs : List Chg} {b : Str} {j : Nat} {x5 x7 x9 x11 : Option Rv} {n : Nat} {E : TEn} (cat : Cat xs) (row : Row xs ys) (av : AllV xs ys cs) (fc : cs.length ≤ 1000) (hb : b ∈ xs) (hj : j < xs.length)
    (h : ∀ (cs' : List Chg), AllV xs ys cs' → cs'.length ≤ cs.length + 1 → E.nx (sg xs ys st x5 x7 (some (.new (dCs cs'))) x9 (some (.val (.str b))) x11 (some (.val (eN j)))) n) :
    sb5 E (sg xs ys st x5 x7 (some (.new (dCs cs))) x9 (some (.val (.str b))) x11 (some (.val (eN j)))) n := by
  refine ⟨dS xs, atI_nat (j := 0) rfl, xs, rfl, hb, ?_⟩
  show (if (!decide (((xs.idxOf b : Nat) : Int) = (j : Int))) = true then _ else _)
  by_cases e : xs.idxOf b = j
  · rw [decide_eq_true (by omega)]
    have hh := h cs av (by omega)
    rw [dCs_nil] at hh
    exact ⟨rfl, small_len, by show (cs.map eC).length + 0 ≤ _; rw [List.length_map]; omega, hh⟩
  · rw [decide_eq_false (by omega)]
    have hh := h (cs ++ [.list b j]) (av.app fun c hc => by rw [List.mem_singleton.1 hc]; exact ⟨hb, hj, idx_ne e cat.2.2.2⟩) (by rw [List.length_append, List.length_singleton]; exact Nat.le_refl _)
    rw [dCs_snoc] at hh
    exact ⟨rfl, small_len, rfl, small_len, by show (cs.map eC).length + 1 ≤ _; rw [List.length_map]; omega, hh⟩
theorem sb_4 {xs ys st : List Str} {cs : List Chg} {b : Str} {i j : Nat} {x5 x7 x9 : Option Rv} {n : Nat} {E : TEn} (cat : Cat xs) (row : Row xs ys) (av : AllV xs ys cs) (fc : cs.length ≤ 900) (hb : b ∈ xs) (hi : i < xs.length) (hj : j < xs.length)
    (h : ∀ (cs' : List Chg), AllV xs ys cs' → cs'.length ≤ cs.length + 2 → E.nx (sg xs ys st x5 x7 (some (.new (dCs cs'))) x9 (some (.val (.str b))) (some (.val (eN i))) (some (.val (eN j)))) n) :
    sb4 E (sg xs ys st x5 x7 (some (.new (dCs cs))) x9 (some (.val (.str b))) (some (.val (eN i))) (some (.val (eN j)))) n := by
  have pm := row_perm cat row
  refine ⟨dS ys, atI_nat (j := 1) rfl, ys, rfl, pm.mem_iff.2 hb, ?_⟩
  show (if (!decide (((ys.idxOf b : Nat) : Int) = (i : Int))) = true then _ else _)
  by_cases e : ys.idxOf b = i
  · rw [decide_eq_true (by omega)]
    have hh := sb_5 (st := st) (x5 := x5) (x7 := x7) (x9 := x9) (x11 := some (.val (eN i))) (n := n) (E := E) cat row av (by omega) hb hj fun cs' a' l => h cs' a' (by omega)
    rw [dCs_nil] at hh
    exact ⟨rfl, small_len, by show (cs.map eC).length + 0 ≤ _; rw [List.length_map]; omega, hh⟩
  · rw [decide_eq_false (by omega)]
    have a1 : AllV xs ys (cs ++ [.move b i]) := av.app fun c hc => by rw [List.mem_singleton.1 hc]; exact ⟨hb, hi, idx_ne e row.2.1⟩
    have l1 : (cs ++ [Chg.move b i]).length = cs.length + 1 := by rw [List.length_append, List.length_singleton]
    have hh := sb_5 (st := st) (x5 := x5) (x7 := x7) (x9 := x9) (x11 := some (.val (eN i))) (n := n) (E := E) cat row a1 (by omega) hb hj fun cs' a' l => h cs' a' (by omega)
    rw [dCs_snoc] at hh
    exact ⟨rfl, small_len, rfl, small_len, by show (cs.map eC).length + 1 ≤ _; rw [List.length_map]; omega, hh⟩
theorem sb_3 {xs ys st : List Str} {cs : List Chg} {b : Str} {x5 x7 x9 x11 x12 : Option Rv} {n : Nat} {E : TEn} (cat : Cat xs) (row : Row xs ys) (few : xs.length ≤ 12) (av : AllV xs ys cs) (fc : cs.length ≤ 900) (hb : b ∈ xs) (hn : 2 ≤ n)
    (h : ∀ (cs' : List Chg) (x10 x11 x12 : Option Rv), AllV xs ys cs' → cs'.length ≤ cs.length + 2 → E.nx (sg xs ys st x5 x7 (some (.new (dCs cs'))) x9 x10 x11 x12) (n - 2)) :
    sb3 E (sg xs ys st x5 x7 (some (.new (dCs cs))) x9 (some (.val (.str b))) x11 x12) n := by
  have lx : 0 < xs.length := List.length_pos_iff.2 cat.1
  refine ⟨rfl, xs.length, rfl, by omega, by omega, by omega, fun i hi => ?_⟩
  refine ⟨rfl, xs.length, rfl, by omega, by omega, by omega, fun j hj => ?_⟩
  exact sb_4 cat row av fc hb hi hj fun cs' a' l => h cs' _ _ _ a' l
theorem sb_2 {xs ys st : List Str} {cs : List Chg} {b : Str} {x5 x7 x9 x11 x12 : Option Rv} {n : Nat} {E : TEn} (cat : Cat xs) (row : Row xs ys) (few : xs.length ≤ 12) (av : AllV xs ys cs) (fc : cs.length ≤ 800) (hb : b ∈ xs) (hn : 2 ≤ n)
    (h : ∀ (cs' : List Chg) (x10 x11 x12 : Option Rv), AllV xs ys cs' → cs'.length ≤ cs.length + 3 → E.nx (sg xs ys st x5 x7 (some (.new (dCs cs'))) x9 x10 x11 x12) (n - 2)) :
    sb2 E (sg xs ys st x5 x7 (some (.new (dCs cs))) x9 (some (.val (.str b))) x11 x12) n := by
  show (if decide ((1 : Int) < ((xs.length : Nat) : Int)) = true then _ else _)
  by_cases e : 1 < xs.length
  · rw [decide_eq_true (by omega)]
    have l1 : (cs ++ [Chg.out b]).length = cs.length + 1 := by rw [List.length_append, List.length_singleton]
    have a1 : AllV xs ys (cs ++ [Chg.out b]) := av.app fun c hc => by rw [List.mem_singleton.1 hc]; exact ⟨hb, e⟩
    have hh := sb_3 (st := st) (x5 := x5) (x7 := x7) (x9 := x9) (x11 := x11) (x12 := x12) (n := n) (E := E) cat row few a1 (by omega) hb hn fun cs' y10 y11 y12 a' l => h cs' y10 y11 y12 a' (by omega)
    rw [dCs_snoc] at hh
    exact ⟨rfl, small_len, rfl, small_len, by show (cs.map eC).length + 1 ≤ _; rw [List.length_map]; omega, hh⟩
  · rw [decide_eq_false (by omega)]
    have hh := sb_3 (st := st) (x5 := x5) (x7 := x7) (x9 := x9) (x11 := x11) (x12 := x12) (n := n) (E := E) cat row few av (by omega) hb hn fun cs' y10 y11 y12 a' l => h cs' y10 y11 y12 a' (by omega)
    rw [dCs_nil] at hh
    exact ⟨rfl, small_len, by show (cs.map eC).length + 0 ≤ _; rw [List.length_map]; omega, hh⟩
theorem sc_b {xs ys st : List Str} {cs : List Chg} {x5 x7 x9 x10 x11 x12 : Option Rv} {n : Nat} {E : TEn} (cat : Cat xs) (row : Row xs ys) (few : xs.length ≤ 12) (av : AllV xs ys cs) (fc : cs.length ≤ 800) (hn : 10 ≤ n)
    (h : ∀ (cs' : List Chg) (x10 x11 x12 : Option Rv), AllV xs ys cs' → cs'.length ≤ cs.length + 3 → E.nx (sg xs ys st x5 x7 (some (.new (dCs cs'))) x9 x10 x11 x12) (n - 1 - 2)) :
    scB E (sg xs ys st x5 x7 (some (.new (dCs cs))) x9 x10 x11 x12) n := by
  refine ⟨rfl, xs.map D.str, rfl, fun e => cat.1 (List.map_eq_nil_iff.1 e), by rw [List.length_map]; omega, by omega, fun d hd => ?_⟩
  obtain ⟨b, hb, rfl⟩ := List.mem_map.1 hd
  exact sb_2 cat row few av fc hb (by omega) h
end TL

-- T70
set_option Elab.async false
set_option linter.all false
set_option maxRecDepth 100000
set_option maxHeartbeats 400000
/-! T70: some changes, the walk and the end -/
namespace TL
open L2 PyProof.Rows PySem PySem.Spec TS RZ
section
variable {xs ys st : List Str} {x5 x7 x9 x10 x11 x12 : Option Rv} {n : Nat} {R : Rv → Nat → Prop}
theorem sc_r {cs : List Chg} (av : AllV xs ys cs) (fc : cs.length ≤ 8) (hn : 10 ≤ n) (h : ∀ cs' : List Chg, AllV xs ys cs' → dn R (.new (dCs cs')) (n - 8)) :
    scR (ends R) (sg xs ys st x5 x7 (some (.new (dCs cs))) x9 x10 x11 x12) n := by
  have sh : ∀ cs1 : List Chg, AllV xs ys cs1 → cs1.length ≤ 8 → S_shuffled [.purse, dCs cs1] n fun r n1 => sto r = true ∧ (ends R).rt r n1 := fun cs1 a1 f1 => by
    refine ⟨cs1.map eC, rfl, by rw [List.length_map]; omega, by rw [List.length_map]; omega, fun us pu => ?_⟩
    obtain ⟨ms, rfl, pm⟩ := perm_enc eC pu
    obtain ⟨m, lm, hm⟩ := h ms fun c hc => a1 c (pm.mem_iff.1 hc)
    exact ⟨rfl, m, by rw [List.length_map]; omega, hm⟩
  show (if decide (((xs.length : Nat) : Int) < 12) = true then _ else _)
  cases decide (((xs.length : Nat) : Int) < 12) with
  | true => exact ⟨rfl, sh cs av fc⟩
  | false =>
    refine ⟨by rw [List.length_map]; omega, ?_⟩
    refine lcF_filter (f := eC) (b := fun c => match c with | .put _ _ _ => false | _ => true) (fun c _ n R hR => ?_) (fun c _ _ n R hR => hR (.val (eC c)) rfl rfl) ?_
    · cases c with
      | put b i j => exact ⟨.str "put", atI_nat (j := 0) rfl, hR⟩
      | out b => exact ⟨.str "out", atI_nat (j := 0) rfl, hR⟩
      | move b i => exact ⟨.str "move", atI_nat (j := 0) rfl, hR⟩
      | list b i => exact ⟨.str "list", atI_nat (j := 0) rfl, hR⟩
    · rw [List.nil_append]
      exact ⟨rfl, sh _ (fun c hc => av c (List.mem_filter.1 hc).1) (Nat.le_trans (List.length_filter_le _ _) fc)⟩
theorem sc_5 {cs : List Chg} (cat : Cat xs) (row : Row xs ys) (few : xs.length ≤ 12) (av : AllV xs ys cs) (fc : cs.length ≤ 2) (hn : 30 ≤ n) (h : ∀ (q : Nat) (cs' : List Chg), n ≤ q + 20 → AllV xs ys cs' → dn R (.new (dCs cs')) q) :
    sc5 (ends R) (sg xs ys st x5 x7 (some (.new (dCs cs))) x9 x10 x11 x12) n := by
  refine ⟨by decide, by decide, Nat.le_succ 1, ?_⟩
  show forF _ _ _ ((rng 0 ((2 : Nat) : Int)).map D.int) _ _
  rw [rng_nat]
  refine forF_inv (j := 0) (fun i Γ k => k + 3 * i = n ∧ ∃ (cs' : List Chg) (y9 y10 y11 y12 : Option Rv), Γ = sg xs ys st x5 x7 (some (.new (dCs cs'))) y9 y10 y11 y12 ∧ AllV xs ys cs' ∧ cs'.length ≤ 2 + 3 * i) ⟨rfl, cs, x9, x10, x11, x12, rfl, av, by omega⟩ ?_ ?_
  · rintro i d Γ k hd ⟨hk, cs', y9, y10, y11, y12, rfl, a', l'⟩
    rw [Nat.zero_add] at hk l' ⊢
    have li : i < 2 := by have := (List.getElem?_eq_some_iff.1 hd).1; rwa [List.length_map, List.length_range] at this
    refine ⟨_, rfl, fun kk hkk => ?_⟩
    exact sc_b cat row few a' (by omega) (by omega) fun cs2 z10 z11 z12 a2 l2 => hkk _ _ ⟨by omega, cs2, some (.val d), z10, z11, z12, rfl, a2, by omega⟩
  · rintro Γ k ⟨hk, cs', y9, y10, y11, y12, rfl, a', l'⟩
    rw [Nat.zero_add, List.length_map, List.length_range] at hk l'
    exact sc_r a' (by omega) (by omega) fun cs2 a2 => h _ cs2 (by omega) a2
end
end TL

-- T71
set_option Elab.async false
set_option linter.all false
set_option maxRecDepth 100000
set_option maxHeartbeats 400000
/-! T71: some changes, whole -/
namespace TL
open L2 PyProof.Rows PySem PySem.Spec TS RZ
def Fresh (xs fr : List Str) : Prop := ∀ z ∈ fr, isWord z ∧ z ∉ xs
section
variable {xs ys st : List Str} {x5 x7 x8 x9 x10 x11 x12 : Option Rv} {n : Nat} {R : Rv → Nat → Prop}
theorem sc_4 {fr : List Str} (cat : Cat xs) (row : Row xs ys) (few : xs.length ≤ 12) (hf : Fresh xs fr) (ne : fr ≠ []) (ff : fr.length ≤ 1000) (hn : 50 ≤ n) (h : ∀ (q : Nat) (cs' : List Chg), n ≤ q + 40 → AllV xs ys cs' → dn R (.new (dCs cs')) q) :
    sc4 (ends R) (sg xs ys st x5 (some (.new (dS fr))) x8 x9 x10 x11 x12) n := by
  have ly := row.2.2
  refine ⟨by decide, by decide, by decide, ?_⟩
  show lcF _ _ _ _ ((rng 0 ((2 : Nat) : Int)).map D.int) _ _ _
  rw [rng_nat]
  refine lcF_go (j := 0) (fun j acc q => q + 3 * j = n ∧ ∃ cs : List Chg, acc = cs.map eC ∧ AllV xs ys cs ∧ cs.length = j) ⟨rfl, [], rfl, (fun _ h => nomatch h), rfl⟩ ?_ ?_
  · rintro i d acc q hd ⟨hq, cs, rfl, av, lc⟩
    rw [Nat.zero_add] at hq lc ⊢
    have li : i < 2 := by have := (List.getElem?_eq_some_iff.1 hd).1; rwa [List.length_map, List.length_range] at this
    refine ⟨_, rfl, fun k' hk' => ?_⟩
    refine ⟨rfl, fr.map D.str, rfl, fun e => ne (List.map_eq_nil_iff.1 e), by rw [List.length_map]; omega, by omega, fun d hd => ?_⟩
    obtain ⟨b, hb, rfl⟩ := List.mem_map.1 hd
    refine ⟨rfl, xs.length + 1, rfl, by omega, by omega, by omega, fun r1 h1 => ?_⟩
    refine ⟨rfl, xs.length + 1, rfl, by omega, by omega, by omega, fun r2 h2 => ?_⟩
    refine ⟨rfl, small_len, rfl, hk' _ _ ⟨by omega, cs ++ [.put b r1 r2], by rw [List.map_append]; rfl, av.app fun c hc => ?_, by rw [List.length_append, lc]; rfl⟩⟩
    rw [List.mem_singleton.1 hc]
    exact ⟨(hf b hb).1, (hf b hb).2, by omega, by omega, by omega⟩
  · rintro acc q ⟨hq, cs, rfl, av, lc⟩
    rw [Nat.zero_add, List.length_map, List.length_range] at hq lc
    exact sc_5 cat row few av (by omega) (by omega) fun q' cs' hq' a' => h q' cs' (by omega) a'
theorem sc_3 {ea : List Str} (cat : Cat xs) (row : Row xs ys) (few : xs.length ≤ 12) (hs : Fresh xs st) (ns : st ≠ []) (fs : st.length ≤ 16) (he : Fresh xs ea) (fe : ea.length ≤ 100) (hn : 1100 ≤ n) (h : ∀ (q : Nat) (cs' : List Chg), n ≤ q + 1040 → AllV xs ys cs' → dn R (.new (dCs cs')) q) :
    sc3 (ends R) (sg xs ys st (some (.new (dS ea))) x7 x8 x9 x10 x11 x12) n := by
  have ls : 0 < st.length := List.length_pos_iff.2 ns
  have c1 : cutL (st.map D.str) none (some 1) = (st.take 1).map D.str := by
    have := cut_to (zs := st.map D.str) (e := 1) (by rw [List.length_map]; omega)
    rw [← List.map_take] at this
    exact this
  obtain ⟨e1, ee1, s1, l1⟩ := cut_few D.str ea none (some 2)
  obtain ⟨e2, ee2, s2, l2⟩ := cut_few D.str ea (some (-2)) none
  have t1 : (st.take 1).length ≤ 16 := by rw [List.length_take]; omega
  refine ⟨rfl, rfl, ?_, rfl, ?_, ?_⟩
  · show (cutL (st.map D.str) none (some 1)).length + (cutL (ea.map D.str) none (some 2)).length ≤ 1000000
    rw [c1, ee1, List.length_map, List.length_map]
    omega
  · show (cutL (st.map D.str) none (some 1) ++ cutL (ea.map D.str) none (some 2)).length + (cutL (ea.map D.str) (some (-2)) none).length ≤ 1000000
    rw [c1, ee1, ee2, List.length_append, List.length_map, List.length_map, List.length_map]
    omega
  · refine ⟨rfl, 4, rfl, by omega, by omega, fun ws lw hw nw => ?_⟩
    refine ⟨by rw [List.length_map]; omega, ?_⟩
    refine lcF_filter (f := fun y : Str => D.str y) (b := fun y => !decide (y ∈ xs)) (fun y _ n R hR => ⟨rfl, plns_str xs, dep_ok xs, by rw [← any_str] at hR; exact hR⟩) (fun y _ _ n R hR => hR (.val (.str y)) rfl rfl) ?_
    have fl := List.length_filter_le (fun y => !decide (y ∈ xs)) ws
    have key : D.lst (cutL (st.map D.str) none (some 1) ++ cutL (ea.map D.str) none (some 2) ++ cutL (ea.map D.str) (some (-2)) none ++ ([] ++ (ws.filter fun y => !decide (y ∈ xs)).map D.str)) = dS (st.take 1 ++ e1 ++ e2 ++ ws.filter fun y => !decide (y ∈ xs)) := by
      rw [c1, ee1, ee2, List.nil_append]
      show D.lst _ = D.lst (List.map _ _)
      rw [List.map_append, List.map_append, List.map_append]
    refine ⟨?_, ?_⟩
    · show (cutL (st.map D.str) none (some 1) ++ cutL (ea.map D.str) none (some 2) ++ cutL (ea.map D.str) (some (-2)) none).length + ([] ++ (ws.filter fun y => !decide (y ∈ xs)).map D.str).length ≤ 1000000
      rw [c1, ee1, ee2, List.nil_append, List.length_append, List.length_append, List.length_map, List.length_map, List.length_map, List.length_map]
      omega
    · show sc4 (ends R) (sg xs ys st (some (.new (dS ea))) (some (.new (.lst (cutL (st.map D.str) none (some 1) ++ cutL (ea.map D.str) none (some 2) ++ cutL (ea.map D.str) (some (-2)) none ++ ([] ++ (ws.filter fun y => !decide (y ∈ xs)).map D.str))))) x8 x9 x10 x11 x12) _
      rw [key]
      refine sc_4 cat row few (fun z hz => ?_) (fun e => ?_) ?_ (by omega) fun q cs' hq a' => h q cs' (by omega) a'
      · rcases List.mem_append.1 hz with hz | hz
        · rcases List.mem_append.1 hz with hz | hz
          · rcases List.mem_append.1 hz with hz | hz
            · exact hs z (List.mem_of_mem_take hz)
            · exact he z (s1 z hz)
          · exact he z (s2 z hz)
        · obtain ⟨h1, h2⟩ := List.mem_filter.1 hz
          rw [Bool.not_eq_true', decide_eq_false_iff_not] at h2
          exact ⟨hw z h1, h2⟩
      · have := congrArg List.length e
        rw [List.length_append, List.length_append, List.length_append, List.length_take, List.length_nil] at this
        omega
      · rw [List.length_append, List.length_append, List.length_append]
        omega
end
end TL

-- T72
set_option Elab.async false
set_option linter.all false
set_option maxRecDepth 100000
set_option maxHeartbeats 400000
/-! T72: some changes, from the start -/
namespace TL
open L2 PyProof.Rows PySem PySem.Spec TS RZ
def early0 : List Str := signs abc ++ [("ab" : Str), "mm", "aaaaaaaa"]
theorem early_ok : early0.length = 29 ∧ ∀ y ∈ early0, isWord y := by
  obtain ⟨l, _, w⟩ := abc_signs
  refine ⟨by unfold early0; rw [List.length_append, l]; rfl, fun y hy => ?_⟩
  rcases List.mem_append.1 hy with hy | hy
  · exact w y hy
  · have : y = "ab" ∨ y = "mm" ∨ y = "aaaaaaaa" := by simpa using hy
    rcases this with rfl | rfl | rfl <;> (unfold isWord; decide +kernel)
section
variable {xs ys st : List Str} {x5 x7 x8 x9 x10 x11 x12 : Option Rv} {n : Nat} {R : Rv → Nat → Prop}
theorem sc_2 (cat : Cat xs) (row : Row xs ys) (few : xs.length ≤ 12) (hs : Fresh xs st) (ns : st ≠ []) (fs : st.length ≤ 16) (hn : 1100 ≤ n) (h : ∀ (q : Nat) (cs' : List Chg), n ≤ q + 1040 → AllV xs ys cs' → dn R (.new (dCs cs')) q) :
    sc2 (ends R) (sg xs ys st x5 x7 x8 x9 x10 x11 x12) n := by
  obtain ⟨l0, w0⟩ := early_ok
  obtain ⟨l1, _, _⟩ := abc_signs
  refine ⟨by decide +kernel, rfl, small_len, ?_⟩
  have ee : (signs abc).map D.str ++ [D.str "ab", .str "mm", .str "aaaaaaaa"] = early0.map D.str := by unfold early0; rw [List.map_append]; rfl
  refine ⟨by show ((signs abc).map D.str).length + 3 ≤ 1000000; rw [List.length_map, l1]; decide, ?_⟩
  show ((signs abc).map D.str ++ [D.str "ab", .str "mm", .str "aaaaaaaa"]).length ≤ 1000000 ∧ lcF _ _ _ _ ((signs abc).map D.str ++ [D.str "ab", .str "mm", .str "aaaaaaaa"]) _ _ _
  rw [ee]
  refine ⟨by rw [List.length_map, l0]; decide, ?_⟩
  refine lcF_filter (f := fun y : Str => D.str y) (b := fun y => !decide (y ∈ xs)) (fun y _ n R hR => ⟨rfl, plns_str xs, dep_ok xs, by rw [← any_str] at hR; exact hR⟩) (fun y _ _ n R hR => hR (.val (.str y)) rfl rfl) ?_
  rw [List.nil_append]
  refine sc_3 (ea := early0.filter fun y => !decide (y ∈ xs)) cat row few hs ns fs (fun z hz => ?_) ?_ hn h
  · obtain ⟨h1, h2⟩ := List.mem_filter.1 hz
    rw [Bool.not_eq_true', decide_eq_false_iff_not] at h2
    exact ⟨w0 z h1, h2⟩
  · have := List.length_filter_le (fun y => !decide (y ∈ xs)) early0
    omega
def S_some : ST := fun ds n R => ∃ xs ys : List Str, ds = [.purse, dW xs ys] ∧ Cat xs ∧ xs.length ≤ 12 ∧ Row xs ys ∧ 1100 ≤ n ∧ ∀ cs : List Chg, AllV xs ys cs → R (.new (dCs cs)) (n - 1100)
theorem tree_w_some_changes : ∀ ds n R, S_some ds n R → B_w_some_changes S_strange S_words S_one_of S_draw S_shuffled (ends R) (slots [true, true] ds 12) n := by
  rintro _ n R ⟨xs, ys, rfl, cat, few, row, hn, h⟩
  refine ⟨dS xs, atI_nat (j := 0) rfl, dS xs, atI_nat (j := 0) rfl, rfl, xs, ys, rfl, by omega, fun st ns fs hs => ?_⟩
  have fin := sc_2 (x5 := none) (x7 := none) (x8 := none) (x9 := none) (x10 := none) (x11 := none) (x12 := none) (n := n) (R := R) cat row few hs ns fs hn fun q cs' hq a' => ⟨n - 1100, by omega, h cs' a'⟩
  have eg : sg xs ys st none none none none none none none = [some (.bor .purse), some (.bor (dW xs ys)), some (.val (dS xs)), some (.val (.int (((xs.map D.str).length : Nat) : Int))), some (.val (dS st)), none, none, none, none, none, none, none, none, none] := by rw [List.length_map]
  rw [eg] at fin
  exact ⟨rfl, small_len, rfl, fin⟩
end
end TL

-- T73
set_option Elab.async false
set_option linter.all false
set_option maxRecDepth 100000
set_option maxHeartbeats 400000
/-! T73: each book taken out -/
namespace TL
open L2 PyProof.Rows PySem PySem.Spec TS RZ
theorem xd_rs {xs ys : List Str} {rs : List (List Str)} {p : List Str → Bool} (cat : Cat xs) (row : Row xs ys) (h : IsRuns xs ys rs) {k : Nat} : xd (k + 2) (dL (rs.filter p)) := by
  have f := runs_sq cat row h
  have l := List.length_filter_le p rs
  refine xd_dL (by omega) fun r hr => ?_
  have := run_few ((h.mem cat.2.2.2 (row_perm cat row)).1 (List.mem_filter.1 hr).1)
  have := cat.2.1
  omega
def S_outs : ST := fun ds n R => ∃ xs ys : List Str, ds = [dW xs ys] ∧ Cat xs ∧ xs.length ≤ 12 ∧ Row xs ys ∧ R (.val (.bl true)) n
abbrev aoB : TSt := (tlSq (tlSet 4 (tlLc (tlSeq (tlV 2)) (.nm 5) (tlAndT (tlT (tlOp dEq (tlB dLen (tlCons (tlV 5) tlNil)) (tlC (.int 2)))) (tlT (tlOp dInA (tlV 3) (tlV 5)))) (tlV 5) [5])) (tlRel 3 (tlIf (tlNotT (tlT (tlCall [true, true] (S_exact 4) (tlCons (tlCall [true, false] S_lost (tlCons (tlV 1) (tlCons (tlTup (tlCons (tlC (.str "out")) (tlCons (tlV 3) tlNil))) tlNil))) (tlCons (tlV 4) tlNil))))) (tlRet (tlC (.bl false))) tlNx)))
theorem ao_b {xs ys : List Str} {rs : List (List Str)} {b : Str} {x4 : Option Rv} {n : Nat} {E : TEn} (cat : Cat xs) (few : xs.length ≤ 12) (row : Row xs ys) (hr : IsRuns xs ys rs) (v : Vd xs ys (.out b))
    (h : ∀ x4 : Option Rv, E.nx [some (.bor (dW xs ys)), some (.new (.sh xs ys)), some (.new (dL rs)), some (.val (.str b)), x4, none] n) :
    aoB E [some (.bor (dW xs ys)), some (.new (.sh xs ys)), some (.new (dL rs)), some (.val (.str b)), x4, none] n := by
  have f := runs_sq cat row hr
  refine ⟨by rw [List.length_map]; omega, ?_⟩
  refine lcF_filter (f := tS) (b := fun t => decide (t.length = 2) && decide (b ∈ t)) (fun t _ n R hR => ?_) (fun t _ _ n R hR => hR (.val (tS t)) rfl rfl) ?_
  · show (if decide ((((t.map D.str).length : Nat) : Int) = 2) = true then _ else _)
    by_cases e : t.length = 2
    · rw [decide_eq_true (p := ((((t.map D.str).length : Nat) : Int) = 2)) (by rw [List.length_map]; omega)]
      rw [decide_eq_true e, Bool.true_and] at hR
      rw [← any_str] at hR
      exact ⟨rfl, plns_str t, dep_ok t, hR⟩
    · rw [decide_eq_false (p := ((((t.map D.str).length : Nat) : Int) = 2)) (by rw [List.length_map]; omega)]
      rw [decide_eq_false e, Bool.false_and] at hR
      exact hR
  · rw [List.nil_append]
    refine ⟨rfl, small_len, rfl, xs, ys, .out b, rfl, cat, by omega, row, v, fun rs1 rs' h1 h2 => ?_⟩
    obtain rfl := hr.uniq h1
    rw [lost_out cat row v hr h2]
    exact ⟨rfl, dL (rs.filter fun t => decide (t.length = 2) && decide (b ∈ t)), rfl, xd_rs cat row hr, h _⟩
theorem tree_w_all_outs : ∀ ds n R, S_outs ds n R → B_w_all_outs S_shelf S_runs (S_exact 4) S_lost (ends R) (slots [true] ds 5) n := by
  rintro _ n R ⟨xs, ys, rfl, cat, few, row, h⟩
  have ly := row.2.2
  have fin := dn_of h
  refine ⟨rfl, xs, ys, rfl, cat, row, rfl, xs, ys, rfl, cat.1, row.1, by omega, by omega, fun rs hr => ?_⟩
  refine ⟨dS xs, atI_nat (j := 0) rfl, ?_⟩
  show (if decide ((1 : Int) < (((xs.map D.str).length : Nat) : Int)) = true then _ else _)
  cases hd : decide ((1 : Int) < (((xs.map D.str).length : Nat) : Int)) with
  | false => exact ⟨rfl, small_len, Nat.le_succ 1, rfl, fin⟩
  | true =>
    have l1 : 1 < xs.length := by have := of_decide_eq_true hd; rw [List.length_map] at this; omega
    refine ⟨dS xs, atI_nat (j := 0) rfl, Nat.le_succ 1, ?_⟩
    refine forF_inv (j := 0) (fun i Γ k => k = n ∧ ∃ x3 x4 : Option Rv, Γ = [some (.bor (dW xs ys)), some (.new (.sh xs ys)), some (.new (dL rs)), x3, x4, none]) ⟨rfl, none, none, rfl⟩ ?_ ?_
    · rintro i d Γ k hd ⟨rfl, x3, x4, rfl⟩
      obtain ⟨b, hb, rfl⟩ := List.mem_map.1 (List.mem_of_getElem? hd)
      refine ⟨_, rfl, fun kk hkk => ?_⟩
      exact ao_b cat few row hr ⟨hb, l1⟩ fun g => hkk _ _ ⟨rfl, some (.val (.str b)), g, rfl⟩
    · rintro Γ k ⟨rfl, x3, x4, rfl⟩
      exact ⟨rfl, fin⟩
end TL

-- T74
set_option Elab.async false
set_option linter.all false
set_option maxRecDepth 100000
set_option maxHeartbeats 400000
/-! T74: one change asked, its last part -/
namespace TL
open L2 PyProof.Rows PySem PySem.Spec TS RZ
abbrev nb19 : TSt := (tlRel 6 (tlIf (tlNotT (tlT (tlCall [true, true] (S_exact 4) (tlCons (tlCall [true] S_all_runs (tlCons (tlCall [true, false] S_changed (tlCons (tlV 2) (tlCons (tlV 6) tlNil))) tlNil)) (tlCons (tlV 9) tlNil))))) (tlRet (tlC (.bl false))) tlNx))
abbrev nb18 : TSt := (tlSq (tlRel 16 (tlRel 15 (tlRel 13 (tlRel 6 (tlIf (tlNotT (tlT (tlCall [true, true] (S_exact 4) (tlCons (tlLst (tlCons (tlCall [true, false] S_kept (tlCons (tlV 2) (tlCons (tlV 6) tlNil))) (tlCons (tlCall [true, false] S_lost (tlCons (tlV 2) (tlCons (tlV 6) tlNil))) (tlCons (tlCall [true, false] S_new (tlCons (tlV 2) (tlCons (tlV 6) tlNil))) tlNil)))) (tlCons (tlLst (tlCons (tlV 13) (tlCons (tlV 15) (tlCons (tlV 16) tlNil)))) tlNil))))) (tlRet (tlC (.bl false))) tlNx))))) nb19)
abbrev nb17 : TNs := (n2End nb18)
abbrev nb16 : TNs := (n2All 17 18 nb17)
abbrev nb15 : TNs := (n1Go nb16)
abbrev nb14 : TNs := (n1If 17 (tlAndT (tlT (tlOp dEq (tlOp dIx (tlV 6) (tlC (.int 0))) (tlC (.str "put")))) (tlNotT (tlT (tlB dAll (tlCons (tlLc (tlSeq (tlV 16)) (.nm 12) tlYes (tlAnd (tlOp dEq (tlB dLen (tlCons (tlV 12) tlNil)) (tlC (.int 2))) (tlOp dInA (tlOp dIx (tlV 6) (tlC (.int 1))) (tlV 12))) [12]) tlNil))))) nb15)
abbrev nb13 : TNs := (n1If 17 (tlAndT (tlT (tlOp dEq (tlOp dIx (tlV 6) (tlC (.int 0))) (tlC (.str "out")))) (tlT (tlOp dNe (tlV 15) (tlLc (tlSeq (tlV 3)) (.nm 12) (tlAndT (tlT (tlOp dEq (tlB dLen (tlCons (tlV 12) tlNil)) (tlC (.int 2)))) (tlT (tlOp dInA (tlOp dIx (tlV 6) (tlC (.int 1))) (tlV 12)))) (tlV 12) [12])))) nb14)
abbrev nb12 : TNs := (n1If 17 (tlNotT (tlT (tlCall [true, true] (S_exact 4) (tlCons (tlV 17) (tlCons (tlLst (tlCons (tlV 13) (tlCons (tlV 15) (tlCons (tlV 16) tlNil)))) tlNil))))) nb13)
abbrev nb11 : TSt := (tlNest 17 (tlCons (tlCall [true, false] S_kept (tlCons (tlV 2) (tlCons (tlV 6) tlNil))) (tlCons (tlCall [true, false] S_lost (tlCons (tlV 2) (tlCons (tlV 6) tlNil))) (tlCons (tlCall [true, false] S_new (tlCons (tlV 2) (tlCons (tlV 6) tlNil))) tlNil))) nb12)
abbrev nb10 : TSt := (tlRel 6 nb11)
abbrev nb9 : TSt := (tlRel 13 nb10)
abbrev nb8 : TSt := (tlRel 15 nb9)
abbrev nb7 : TSt := (tlRel 16 nb8)
abbrev nb6 : TSt := (tlSq (tlPar 15 16 (tlLc (tlSeq (tlV 3)) (.nm 12) (tlT (tlOp dNin (tlV 12) (tlV 13))) (tlV 12) [12]) (tlLc (tlSeq (tlV 9)) (.nm 12) (tlT (tlOp dNin (tlB dSortedT (tlCons (tlV 12) tlNil)) (tlV 11))) (tlV 12) [12])) nb7)
abbrev nb5 : TSt := (tlSq (tlSet 13 (tlLc (tlSeq (tlV 3)) (.nm 12) (tlT (tlB dAny (tlCons (tlLc (tlSeq (tlCall [true, true] S_lots_of (tlCons (tlV 12) (tlCons (tlV 6) tlNil)))) (.nm 14) tlYes (tlOp dInA (tlV 14) (tlV 10)) [14]) tlNil))) (tlV 12) [12])) nb6)
abbrev nb4 : TSt := (tlSq (tlRel 3 (tlFor (tlSeq (tlV 3)) (.nm 12) (tlSet 11 (tlOp dAdd (tlV 11) (tlCall [true, true] S_lots_of (tlCons (tlV 12) (tlCons (tlV 6) tlNil))))))) nb5)
abbrev nb3 : TSt := (tlSq (tlPar 10 11 (tlLc (tlSeq (tlV 9)) (.nm 12) tlYes (tlB dSortedT (tlCons (tlV 12) tlNil)) [12]) (tlLst tlNil)) nb4)
abbrev nb2 : TSt := (tlSq (tlSet 9 (tlCall [true] S_runs (tlCons (tlV 8) tlNil))) nb3)
abbrev nb1 : TSt := (tlSq (tlRel 6 (tlSet 8 (tlCall [true, false] S_wchanged (tlCons (tlV 1) (tlCons (tlV 6) tlNil))))) nb2)
theorem w_test {Γ : Gm} {a w : Str} {r : List D} {n : Nat} {R : Bool → Nat → Prop} (h6 : Γ[6]? = some (some (.val (.tup (.str a :: r))))) (h : R (decide (a = w)) n) : (tlT (tlOp dEq (tlOp dIx (tlV 6) (tlC (.int 0))) (tlC (.str w)))) Γ n R := by
  unfold tlT tlOp tlV
  rw [h6]
  exact ⟨.str a, atI_nat (j := 0) rfl, h⟩
/-- the slots -/
abbrev srg (xs ys : List Str) (x3 x4 x5 x6 x7 x8 x9 x10 x11 x12 x13 x15 x16 x17 x18 : Option Rv) : Gm := [some (.bor .purse), some (.bor (dW xs ys)), some (.new (.sh xs ys)), x3, x4, x5, x6, x7, x8, x9, x10, x11, x12, x13, none, x15, x16, x17, x18]
structure Sit (xs ys : List Str) (rs : List (List Str)) (c : Chg) (rs' : List (List Str)) : Prop where
  cat : Cat xs
  few : xs.length ≤ 12
  row : Row xs ys
  hr : IsRuns xs ys rs
  v : Vd xs ys c
  hr' : IsRuns (nX c xs) (nY c ys) rs'
@[reducible] def tri (c : Chg) (rs rs' : List (List Str)) : D := .lst [dL (kept c rs rs'), dL (lostR c rs rs'), dL (newR c rs rs')]
section
variable {xs ys : List Str} {rs rs' : List (List Str)} {c : Chg} {x3 x4 x5 x7 x8 x9 x10 x11 x12 x13 x15 x16 x17 x18 : Option Rv} {n : Nat} {E : TEn}
theorem xd_tri (s : Sit xs ys rs c rs') {k : Nat} : xd (k + 3) (tri c rs rs') := by
  obtain ⟨cat', row'⟩ := chg_ok s.cat s.row s.v
  refine ⟨Nat.le_trans (small_len (xs := [dL (kept c rs rs'), dL (lostR c rs rs'), dL (newR c rs rs')])) (by decide), fun d hd => ?_⟩
  rcases List.mem_cons.1 hd with rfl | hd
  · exact xd_rs s.cat s.row s.hr
  rcases List.mem_cons.1 hd with rfl | hd
  · exact xd_rs s.cat s.row s.hr
  rw [List.mem_singleton.1 hd]
  exact xd_rs cat' row' s.hr'
theorem xd_all {xs ys : List Str} {rs : List (List Str)} (cat : Cat xs) (row : Row xs ys) (h : IsRuns xs ys rs) {k : Nat} : xd (k + 2) (dL rs) := by
  have := xd_rs (p := fun _ => true) cat row h (k := k)
  rwa [List.filter_eq_self.2 fun _ _ => rfl] at this
theorem nb_19 (s : Sit xs ys rs c rs') (h : E.nx (srg xs ys x3 x4 x5 (some (.val (eC c))) x7 x8 (some (.new (dL rs'))) x10 x11 x12 x13 x15 x16 x17 x18) n) :
    nb19 E (srg xs ys x3 x4 x5 (some (.val (eC c))) x7 x8 (some (.new (dL rs'))) x10 x11 x12 x13 x15 x16 x17 x18) n := by
  obtain ⟨cat', row'⟩ := chg_ok s.cat s.row s.v
  refine ⟨rfl, xs, ys, c, rfl, s.cat, s.row, s.v, ?_⟩
  refine ⟨rfl, _, _, rfl, cat', row', fun r1 h1 => ?_⟩
  obtain rfl := s.hr'.uniq h1
  exact ⟨rfl, dL rs', rfl, xd_all cat' row' s.hr', h⟩
theorem nb_18 (s : Sit xs ys rs c rs') (h : ∀ x16 : Option Rv, E.nx (srg xs ys x3 x4 x5 (some (.val (eC c))) x7 x8 (some (.new (dL rs'))) x10 x11 x12 (some (.val (dL (kept c rs rs')))) (some (.val (dL (lostR c rs rs')))) x16 x17 x18) n) :
    nb18 E (srg xs ys x3 x4 x5 (some (.val (eC c))) x7 x8 (some (.new (dL rs'))) x10 x11 x12 (some (.val (dL (kept c rs rs')))) (some (.val (dL (lostR c rs rs')))) (some (.val (dL (newR c rs rs')))) x17 x18) n := by
  have f50 : xs.length < 50 := by have := s.few; omega
  refine ⟨rfl, xs, ys, c, rfl, s.cat, f50, s.row, s.v, fun r1 r1' h1 h1' => ?_⟩
  obtain rfl := s.hr.uniq h1
  obtain rfl := s.hr'.uniq h1'
  refine ⟨rfl, xs, ys, c, rfl, s.cat, f50, s.row, s.v, fun r2 r2' h2 h2' => ?_⟩
  obtain rfl := s.hr.uniq h2
  obtain rfl := s.hr'.uniq h2'
  refine ⟨rfl, xs, ys, c, rfl, s.cat, f50, s.row, s.v, fun r3 r3' h3 h3' => ?_⟩
  obtain rfl := s.hr.uniq h3
  obtain rfl := s.hr'.uniq h3'
  refine ⟨rfl, small_len, ?_⟩
  refine ⟨rfl, small_len, ?_⟩
  exact ⟨rfl, tri c rs rs', rfl, xd_tri s, nb_19 s (h _)⟩
/-- the three new lists that are told -/
abbrev toldR (c : Chg) (rs rs' : List (List Str)) : List Rv := [.new (dL (kept c rs rs')), .new (dL (lostR c rs rs')), .new (dL (newR c rs rs'))]
abbrev srt_ (xs ys : List Str) (rs : List (List Str)) (c : Chg) (rs' : List (List Str)) (x4 x5 x7 x8 x10 x11 x12 x17 x18 : Option Rv) : Gm := srg xs ys (some (.val (dL rs))) x4 x5 (some (.val (eC c))) x7 x8 (some (.new (dL rs'))) x10 x11 x12 (some (.val (dL (kept c rs rs')))) (some (.val (dL (lostR c rs rs')))) (some (.val (dL (newR c rs rs')))) x17 x18
theorem nb_16 (s : Sit xs ys rs c rs') (h : ∀ x16 : Option Rv, E.nx (srg xs ys (some (.val (dL rs))) x4 x5 (some (.val (eC c))) x7 x8 (some (.new (dL rs'))) x10 x11 x12 (some (.val (dL (kept c rs rs')))) (some (.val (dL (lostR c rs rs')))) x16 none none) n) :
    nb15 0 (toldR c rs rs') E (srt_ xs ys rs c rs' x4 x5 x7 x8 x10 x11 x12 none x18) n := by
  obtain ⟨cat', row'⟩ := chg_ok s.cat s.row s.v
  have f := runs_sq s.cat s.row s.hr
  have f' := runs_sq cat' row' s.hr'
  have k1 : (kept c rs rs').length ≤ rs.length := List.length_filter_le _ _
  have k2 : (lostR c rs rs').length ≤ rs.length := List.length_filter_le _ _
  have k3 : (newR c rs rs').length ≤ rs'.length := List.length_filter_le _ _
  refine ⟨⟨by decide, Nat.le_of_ble_eq_true rfl, fun r hr => ?_, small_len (xs := toldR c rs rs')⟩, nb_18 s h⟩
  rcases List.mem_cons.1 hr with rfl | hr
  · exact ⟨_, rfl, by rw [List.length_map]; omega⟩
  rcases List.mem_cons.1 hr with rfl | hr
  · exact ⟨_, rfl, by rw [List.length_map]; omega⟩
  rw [List.mem_singleton.1 hr]
  exact ⟨_, rfl, by rw [List.length_map]; omega⟩
theorem nb_14 (s : Sit xs ys rs c rs') (h : nb15 0 (toldR c rs rs') E (srt_ xs ys rs c rs' x4 x5 x7 x8 x10 x11 x12 none x18) n) :
    nb14 0 (toldR c rs rs') E (srt_ xs ys rs c rs' x4 x5 x7 x8 x10 x11 x12 none x18) n := by
  obtain ⟨cat', row'⟩ := chg_ok s.cat s.row s.v
  have f' := runs_sq cat' row' s.hr'
  have k3 : (newR c rs rs').length ≤ rs'.length := List.length_filter_le _ _
  cases c with
  | put b i j =>
    refine w_test (a := "put") rfl ?_
    rw [e_pp, if_pos rfl]
    refine ⟨by rw [List.length_map]; omega, ?_⟩
    refine lcF_map (f := fun _ => D.bl true) (fun t ht n R hR => ?_) ?_
    · obtain ⟨t2, tb⟩ := new_put s.cat s.row s.v s.hr s.hr' t ht
      show (if decide ((((t.map D.str).length : Nat) : Int) = 2) = true then _ else _)
      rw [decide_eq_true (p := ((((t.map D.str).length : Nat) : Int) = 2)) (by rw [List.length_map]; omega)]
      refine ⟨.str b, atI_nat (j := 1) rfl, rfl, plns_str t, dep_ok t, hR (.val _) ?_ rfl⟩
      show D.bl ((t.map D.str).any fun z => PyData.eqv (toP z) (toP (.str b))) = _
      rw [any_str, decide_eq_true tb]
    · refine ⟨(newR (.put b i j) rs rs').map fun _ => true, by rw [List.nil_append, List.map_map]; rfl, ?_⟩
      rw [show ((newR (.put b i j) rs rs').map fun _ => true).all id = true by rw [List.all_map]; simp]
      exact ⟨rfl, h⟩
  | out b =>
    refine w_test (a := "out") rfl ?_
    rw [e_op]
    exact ⟨rfl, h⟩
  | move b i =>
    refine w_test (a := "move") rfl ?_
    rw [e_mp]
    exact ⟨rfl, h⟩
  | list b i =>
    refine w_test (a := "list") rfl ?_
    rw [e_lp]
    exact ⟨rfl, h⟩
end
end TL

-- T75
set_option Elab.async false
set_option linter.all false
set_option maxRecDepth 100000
set_option maxHeartbeats 400000
/-! T75: one change asked -/
namespace TL
open L2 PyProof.Rows PySem PySem.Spec TS RZ
theorem eqv_tups : ∀ a : List (List Str), PyData.eqvAll (toPs (a.map tS)) (toPs (a.map tS)) = true
  | [] => by simp [PyData.eqvAll, toPs]
  | t :: r => by
    have ih := eqv_tups r
    have h := eqv_tup t t
    rw [decide_eq_true rfl] at h
    show PyData.eqvAll (toP (tS t) :: toPs (r.map tS)) (toP (tS t) :: toPs (r.map tS)) = true
    unfold PyData.eqvAll
    rw [h, ih]
    rfl
theorem ne_dL {a : List (List Str)} {R : Rv → Prop} (h : R (.val (.bl false))) : dNe (dL a) (dL a) R := by
  refine ⟨plns_tup a, plns_tup a, ?_, ?_⟩
  · have := deps_tup a
    simp only [dep]
    omega
  · show R (.val (.bl (!PyData.eqv (.list (toPs (a.map tS))) (.list (toPs (a.map tS))))))
    unfold PyData.eqv
    rw [eqv_tups]
    exact h
section
variable {xs ys : List Str} {rs rs' : List (List Str)} {c : Chg} {x3 x4 x5 x7 x8 x9 x10 x11 x12 x13 x15 x16 x17 x18 : Option Rv} {n : Nat} {E : TEn}
theorem nb_13 (s : Sit xs ys rs c rs') (h : nb14 0 (toldR c rs rs') E (srt_ xs ys rs c rs' x4 x5 x7 x8 x10 x11 x12 none x18) n) :
    nb13 0 (toldR c rs rs') E (srt_ xs ys rs c rs' x4 x5 x7 x8 x10 x11 x12 none x18) n := by
  have f := runs_sq s.cat s.row s.hr
  cases c with
  | out b =>
    refine w_test (a := "out") rfl ?_
    rw [e_oo, if_pos rfl]
    refine ⟨by rw [List.length_map]; omega, ?_⟩
    refine lcF_filter (f := tS) (b := fun t => decide (t.length = 2) && decide (b ∈ t)) (fun t _ n R hR => ?_) (fun t _ _ n R hR => hR (.val (tS t)) rfl rfl) ?_
    · show (if decide ((((t.map D.str).length : Nat) : Int) = 2) = true then _ else _)
      by_cases e : t.length = 2
      · rw [decide_eq_true (p := ((((t.map D.str).length : Nat) : Int) = 2)) (by rw [List.length_map]; omega)]
        rw [decide_eq_true e, Bool.true_and] at hR
        rw [← any_str] at hR
        exact ⟨.str b, atI_nat (j := 1) rfl, rfl, plns_str t, dep_ok t, hR⟩
      · rw [decide_eq_false (p := ((((t.map D.str).length : Nat) : Int) = 2)) (by rw [List.length_map]; omega)]
        rw [decide_eq_false e, Bool.false_and] at hR
        exact hR
    · rw [List.nil_append, ← lost_out s.cat s.row s.v s.hr s.hr']
      exact ne_dL ⟨rfl, h⟩
  | put b i j =>
    refine w_test (a := "put") rfl ?_
    rw [e_po]
    exact ⟨rfl, h⟩
  | move b i =>
    refine w_test (a := "move") rfl ?_
    rw [e_mo]
    exact ⟨rfl, h⟩
  | list b i =>
    refine w_test (a := "list") rfl ?_
    rw [e_lo]
    exact ⟨rfl, h⟩
theorem nb_12 (s : Sit xs ys rs c rs') (h : nb13 0 (toldR c rs rs') E (srt_ xs ys rs c rs' x4 x5 x7 x8 x10 x11 x12 none x18) n) :
    nb12 0 (toldR c rs rs') E (srt_ xs ys rs c rs' x4 x5 x7 x8 x10 x11 x12 none x18) n := by
  refine ⟨rfl, small_len, ?_⟩
  exact ⟨rfl, tri c rs rs', rfl, xd_tri s, rfl, h⟩
theorem nb_11 (s : Sit xs ys rs c rs') (h : ∀ x16 : Option Rv, E.nx (srg xs ys (some (.val (dL rs))) x4 x5 (some (.val (eC c))) x7 x8 (some (.new (dL rs'))) x10 x11 x12 (some (.val (dL (kept c rs rs')))) (some (.val (dL (lostR c rs rs')))) x16 none none) n) :
    nb11 E (srt_ xs ys rs c rs' x4 x5 x7 x8 x10 x11 x12 x17 x18) n := by
  have f50 : xs.length < 50 := by have := s.few; omega
  refine ⟨Nat.le_of_ble_eq_true rfl, ?_⟩
  refine ⟨rfl, xs, ys, c, rfl, s.cat, f50, s.row, s.v, fun r1 r1' h1 h1' => ?_⟩
  obtain rfl := s.hr.uniq h1
  obtain rfl := s.hr'.uniq h1'
  refine ⟨rfl, xs, ys, c, rfl, s.cat, f50, s.row, s.v, fun r2 r2' h2 h2' => ?_⟩
  obtain rfl := s.hr.uniq h2
  obtain rfl := s.hr'.uniq h2'
  refine ⟨rfl, xs, ys, c, rfl, s.cat, f50, s.row, s.v, fun r3 r3' h3 h3' => ?_⟩
  obtain rfl := s.hr.uniq h3
  obtain rfl := s.hr'.uniq h3'
  exact ⟨rfl, small_len (xs := toldR c rs rs'), nb_12 s (nb_13 s (nb_14 s (nb_16 s h)))⟩
theorem nb_6 (s : Sit xs ys rs c rs') (h : ∀ x16 : Option Rv, E.nx (srg xs ys (some (.val (dL rs))) x4 x5 (some (.val (eC c))) x7 x8 (some (.new (dL rs'))) x10 (some (.new (dF (rs.flatMap (forms c))))) x12 (some (.val (dL (kept c rs rs')))) (some (.val (dL (lostR c rs rs')))) x16 none none) n) :
    nb6 E (srg xs ys (some (.val (dL rs))) x4 x5 (some (.val (eC c))) x7 x8 (some (.new (dL rs'))) x10 (some (.new (dF (rs.flatMap (forms c))))) x12 (some (.new (dL (kept c rs rs')))) x15 x16 x17 x18) n := by
  obtain ⟨cat', row'⟩ := chg_ok s.cat s.row s.v
  have f := runs_sq s.cat s.row s.hr
  have f' := runs_sq cat' row' s.hr'
  have nf := nX_few s.cat s.v
  have few := s.few
  refine ⟨by rw [List.length_map]; omega, ?_⟩
  refine lcF_filter (f := tS) (b := fun t => !decide (t ∈ kept c rs rs')) (fun t ht n R hR => ?_) (fun t _ _ n R hR => hR (.val (tS t)) rfl rfl) ?_
  · refine ⟨plns_str t, plns_tup _, dep_tup _, ?_⟩
    rw [← any_tup] at hR
    exact hR
  rw [List.nil_append]
  refine ⟨by rw [List.length_map]; omega, ?_⟩
  refine lcF_filter (f := tS) (b := fun t => !decide (srt t ∈ rs.flatMap (forms c))) (fun t ht n R hR => ?_) (fun t _ _ n R hR => hR (.val (tS t)) rfl rfl) ?_
  · refine ⟨t, rfl, ?_, fun us p1 s1 => ?_⟩
    · have := run_few ((s.hr'.mem cat'.2.2.2 (row_perm cat' row')).1 ht)
      omega
    · obtain rfl := srt_of p1 s1
      refine ⟨plns_str _, plns_lst _, dep_lst _, ?_⟩
      rw [← any_lst] at hR
      exact hR
  rw [List.nil_append]
  exact nb_11 (x17 := x17) (x18 := x18) s h
theorem nb_5 (s : Sit xs ys rs c rs') (h : ∀ x13 x15 x16 : Option Rv, E.nx (srg xs ys (some (.val (dL rs))) x4 x5 (some (.val (eC c))) x7 x8 (some (.new (dL rs'))) (some (.new (dF (rs'.map srt)))) (some (.new (dF (rs.flatMap (forms c))))) x12 x13 x15 x16 none none) n) :
    nb5 E (srg xs ys (some (.val (dL rs))) x4 x5 (some (.val (eC c))) x7 x8 (some (.new (dL rs'))) (some (.new (dF (rs'.map srt)))) (some (.new (dF (rs.flatMap (forms c))))) x12 x13 x15 x16 x17 x18) n := by
  have f := runs_sq s.cat s.row s.hr
  have few := s.few
  have lr : ∀ t ∈ rs, t.length ≤ 60 := fun t ht => by have := run_few ((s.hr.mem s.cat.2.2.2 (row_perm s.cat s.row)).1 ht); omega
  refine ⟨by rw [List.length_map]; omega, ?_⟩
  refine lcF_filter (f := tS) (b := fun t => (forms c t).any fun f => decide (f ∈ rs'.map srt)) (fun t ht n R hR => ?_) (fun t _ _ n R hR => hR (.val (tS t)) rfl rfl) ?_
  · have ff := forms_few c t
    refine ⟨rfl, c, t, rfl, lr t ht, ?_⟩
    refine ⟨by rw [List.length_map]; omega, ?_⟩
    refine lcF_map (f := fun f => D.bl (decide (f ∈ rs'.map srt))) (fun f _ n R hR => ?_) ?_
    · refine ⟨plns_str f, plns_lst _, dep_lst _, hR (.val _) ?_ rfl⟩
      show D.bl (((rs'.map srt).map dS).any fun z => PyData.eqv (toP z) (toP (dS f))) = _
      rw [any_lst]
    · refine ⟨(forms c t).map fun f => decide (f ∈ rs'.map srt), by rw [List.nil_append, List.map_map]; rfl, ?_⟩
      rw [show ((forms c t).map fun f => decide (f ∈ rs'.map srt)).any id = (forms c t).any fun f => decide (f ∈ rs'.map srt) by rw [List.any_map]; rfl]
      exact hR
  rw [List.nil_append]
  exact nb_6 s fun g => h _ _ g
theorem nb_4 (s : Sit xs ys rs c rs') (hx : x3 = some (.new (dL rs)) ∨ x3 = some (.val (dL rs))) (h : ∀ x10 x11 x12 x13 x15 x16 : Option Rv, E.nx (srg xs ys (some (.val (dL rs))) x4 x5 (some (.val (eC c))) x7 x8 (some (.new (dL rs'))) x10 x11 x12 x13 x15 x16 none none) n) :
    nb4 E (srg xs ys x3 x4 x5 (some (.val (eC c))) x7 x8 (some (.new (dL rs'))) (some (.new (dF (rs'.map srt)))) (some (.new (dF []))) x12 x13 x15 x16 x17 x18) n := by
  have f := runs_sq s.cat s.row s.hr
  have few := s.few
  have lr : ∀ t ∈ rs, t.length ≤ 60 := fun t ht => by have := run_few ((s.hr.mem s.cat.2.2.2 (row_perm s.cat s.row)).1 ht); omega
  have main : (tlSq (tlFor (tlSeq (tlV 3)) (.nm 12) (tlSet 11 (tlOp dAdd (tlV 11) (tlCall [true, true] S_lots_of (tlCons (tlV 12) (tlCons (tlV 6) tlNil)))))) nb5) E (srg xs ys (some (.val (dL rs))) x4 x5 (some (.val (eC c))) x7 x8 (some (.new (dL rs'))) (some (.new (dF (rs'.map srt)))) (some (.new (dF []))) x12 x13 x15 x16 x17 x18) n := by
    refine ⟨Nat.le_succ 1, ?_⟩
    refine forF_inv (j := 0) (fun i Γ k => k = n ∧ ∃ x12 : Option Rv, Γ = srg xs ys (some (.val (dL rs))) x4 x5 (some (.val (eC c))) x7 x8 (some (.new (dL rs'))) (some (.new (dF (rs'.map srt)))) (some (.new (dF ((rs.take i).flatMap (forms c))))) x12 x13 x15 x16 x17 x18) ⟨rfl, x12, rfl⟩ ?_ ?_
    · rintro i d Γ k hd ⟨rfl, x12, rfl⟩
      rw [Nat.zero_add] at *
      have li : i < rs.length := by have := (List.getElem?_eq_some_iff.1 hd).1; rwa [List.length_map] at this
      rw [List.getElem?_map, List.getElem?_eq_getElem li] at hd
      obtain rfl := Option.some.inj hd
      refine ⟨_, rfl, fun kk hkk => ?_⟩
      have ff := forms_all c (rs.take i)
      have f2 := forms_few c rs[i]
      have lt := List.length_take_le i rs
      refine ⟨rfl, c, rs[i], rfl, lr _ (List.getElem_mem li), ?_⟩
      refine ⟨by rw [List.length_map, List.length_map]; omega, ?_⟩
      refine hkk _ _ ⟨rfl, some (.val (tS rs[i])), ?_⟩
      have e : D.lst (((rs.take i).flatMap (forms c)).map dS ++ (forms c rs[i]).map dS) = dF ((rs.take (i + 1)).flatMap (forms c)) := by
        rw [List.take_succ_eq_append_getElem li, List.flatMap_append, List.flatMap_singleton]
        exact congrArg D.lst List.map_append.symm
      rw [← e]
      rfl
    · rintro Γ k ⟨rfl, x12, rfl⟩
      rw [Nat.zero_add, List.length_map, List.take_length]
      exact nb_5 s fun g1 g2 g3 => h _ _ _ g1 g2 g3
  rcases hx with rfl | rfl
  · exact main
  · exact main
theorem nb_1 (cat : Cat xs) (few : xs.length ≤ 12) (row : Row xs ys) (hr : IsRuns xs ys rs) (v : Vd xs ys c) (hx : x3 = some (.new (dL rs)) ∨ x3 = some (.val (dL rs))) (h : ∀ x8 x9 x10 x11 x12 x13 x15 x16 : Option Rv, E.nx (srg xs ys (some (.val (dL rs))) x4 x5 (some (.val (eC c))) x7 x8 x9 x10 x11 x12 x13 x15 x16 none none) n) :
    nb1 E (srg xs ys x3 x4 x5 (some (.val (eC c))) x7 x8 x9 x10 x11 x12 x13 x15 x16 x17 x18) n := by
  obtain ⟨cat', row'⟩ := chg_ok cat row v
  have nf := nX_few cat v
  have ly' := row'.2.2
  refine ⟨rfl, xs, ys, c, rfl, cat, row, v, ?_⟩
  refine ⟨rfl, nX c xs, nY c ys, rfl, cat'.1, row'.1, by omega, by omega, fun rs' hr' => ?_⟩
  have s : Sit xs ys rs c rs' := ⟨cat, few, row, hr, v, hr'⟩
  have f' := runs_sq cat' row' hr'
  refine ⟨by rw [List.length_map]; omega, ?_⟩
  refine lcF_map (f := fun t => dS (srt t)) (fun t ht n R hR => ?_) ?_
  · refine ⟨t, rfl, ?_, fun us p1 s1 => ?_⟩
    · have := run_few ((hr'.mem cat'.2.2.2 (row_perm cat' row')).1 ht)
      omega
    · obtain rfl := srt_of p1 s1
      exact hR (.new (dS (srt t))) rfl rfl
  · rw [List.nil_append, show rs'.map (fun t => dS (srt t)) = (rs'.map srt).map dS by rw [List.map_map]; rfl]
    refine ⟨rfl, small_len, ?_⟩
    exact nb_4 s hx fun g1 g2 g3 g4 g5 g6 => h _ _ g1 g2 g3 g4 g5 g6
end
end TL

-- T76
set_option Elab.async false
set_option linter.all false
set_option maxRecDepth 100000
set_option maxHeartbeats 400000
/-! T76: what stays, whole; the law -/
namespace TL
open L2 PyProof.Rows PySem PySem.Spec TS RZ
theorem cut_take {α : Type} (zs : List α) (k : Nat) : cutL zs none (some ((k : Nat) : Int)) = zs.take k := by
  unfold cutL
  rw [HT.sIx_nat]
  show (zs.drop 0).take (min k zs.length - 0) = _
  rw [List.drop_zero, Nat.sub_zero]
  rcases Nat.le_total k zs.length with h | h
  · rw [Nat.min_eq_left h]
  · rw [Nat.min_eq_right h, List.take_length, List.take_of_length_le h]
abbrev sr7 : TSt := (tlSq (tlRel 4 (tlFor (tlSeq (tlV 4)) (.nm 6) (tlSq (tlRel 6 (tlSet 8 (tlCall [true, false] S_wchanged (tlCons (tlV 1) (tlCons (tlV 6) tlNil))))) (tlSq (tlSet 9 (tlCall [true] S_runs (tlCons (tlV 8) tlNil))) (tlSq (tlPar 10 11 (tlLc (tlSeq (tlV 9)) (.nm 12) tlYes (tlB dSortedT (tlCons (tlV 12) tlNil)) [12]) (tlLst tlNil)) (tlSq (tlRel 3 (tlFor (tlSeq (tlV 3)) (.nm 12) (tlSet 11 (tlOp dAdd (tlV 11) (tlCall [true, true] S_lots_of (tlCons (tlV 12) (tlCons (tlV 6) tlNil))))))) (tlSq (tlSet 13 (tlLc (tlSeq (tlV 3)) (.nm 12) (tlT (tlB dAny (tlCons (tlLc (tlSeq (tlCall [true, true] S_lots_of (tlCons (tlV 12) (tlCons (tlV 6) tlNil)))) (.nm 14) tlYes (tlOp dInA (tlV 14) (tlV 10)) [14]) tlNil))) (tlV 12) [12])) (tlSq (tlPar 15 16 (tlLc (tlSeq (tlV 3)) (.nm 12) (tlT (tlOp dNin (tlV 12) (tlV 13))) (tlV 12) [12]) (tlLc (tlSeq (tlV 9)) (.nm 12) (tlT (tlOp dNin (tlB dSortedT (tlCons (tlV 12) tlNil)) (tlV 11))) (tlV 12) [12])) (tlRel 16 (tlRel 15 (tlRel 13 (tlRel 6 (tlNest 17 (tlCons (tlCall [true, false] S_kept (tlCons (tlV 2) (tlCons (tlV 6) tlNil))) (tlCons (tlCall [true, false] S_lost (tlCons (tlV 2) (tlCons (tlV 6) tlNil))) (tlCons (tlCall [true, false] S_new (tlCons (tlV 2) (tlCons (tlV 6) tlNil))) tlNil))) (n1If 17 (tlNotT (tlT (tlCall [true, true] (S_exact 4) (tlCons (tlV 17) (tlCons (tlLst (tlCons (tlV 13) (tlCons (tlV 15) (tlCons (tlV 16) tlNil)))) tlNil))))) (n1If 17 (tlAndT (tlT (tlOp dEq (tlOp dIx (tlV 6) (tlC (.int 0))) (tlC (.str "out")))) (tlT (tlOp dNe (tlV 15) (tlLc (tlSeq (tlV 3)) (.nm 12) (tlAndT (tlT (tlOp dEq (tlB dLen (tlCons (tlV 12) tlNil)) (tlC (.int 2)))) (tlT (tlOp dInA (tlOp dIx (tlV 6) (tlC (.int 1))) (tlV 12)))) (tlV 12) [12])))) (n1If 17 (tlAndT (tlT (tlOp dEq (tlOp dIx (tlV 6) (tlC (.int 0))) (tlC (.str "put")))) (tlNotT (tlT (tlB dAll (tlCons (tlLc (tlSeq (tlV 16)) (.nm 12) tlYes (tlAnd (tlOp dEq (tlB dLen (tlCons (tlV 12) tlNil)) (tlC (.int 2))) (tlOp dInA (tlOp dIx (tlV 6) (tlC (.int 1))) (tlV 12))) [12]) tlNil))))) (n1Go (n2All 17 18 (n2End (tlSq (tlRel 16 (tlRel 15 (tlRel 13 (tlRel 6 (tlIf (tlNotT (tlT (tlCall [true, true] (S_exact 4) (tlCons (tlLst (tlCons (tlCall [true, false] S_kept (tlCons (tlV 2) (tlCons (tlV 6) tlNil))) (tlCons (tlCall [true, false] S_lost (tlCons (tlV 2) (tlCons (tlV 6) tlNil))) (tlCons (tlCall [true, false] S_new (tlCons (tlV 2) (tlCons (tlV 6) tlNil))) tlNil)))) (tlCons (tlLst (tlCons (tlV 13) (tlCons (tlV 15) (tlCons (tlV 16) tlNil)))) tlNil))))) (tlRet (tlC (.bl false))) tlNx))))) (tlRel 6 (tlIf (tlNotT (tlT (tlCall [true, true] (S_exact 4) (tlCons (tlCall [true] S_all_runs (tlCons (tlCall [true, false] S_changed (tlCons (tlV 2) (tlCons (tlV 6) tlNil))) tlNil)) (tlCons (tlV 9) tlNil))))) (tlRet (tlC (.bl false))) tlNx)))))))))))))))))))))) (tlRet (tlCall [true, true] S_wstays (tlCons (tlV 1) (tlCons (tlV 2) tlNil)))))
abbrev sr6 : TSt := (tlSq (tlIf (tlNotT (tlT (tlCall [true, true] (S_exact 4) (tlCons (tlV 5) (tlCons (tlOp dAdd (tlV 7) (tlRevA (tlV 7))) tlNil))))) (tlRet (tlC (.bl false))) tlNx) sr7)
abbrev sr5 : TSt := (tlSq (tlFor (tlSeq (tlRevA (tlV 4))) (.nm 6) (tlRel 6 (tlSet 5 (tlOp dAdd (tlV 5) (tlLst (tlCons (tlLst (tlCons (tlCall [true, false] S_kept (tlCons (tlV 2) (tlCons (tlV 6) tlNil))) (tlCons (tlCall [true, false] S_lost (tlCons (tlV 2) (tlCons (tlV 6) tlNil))) (tlCons (tlCall [true, false] S_new (tlCons (tlV 2) (tlCons (tlV 6) tlNil))) tlNil)))) tlNil)))))) sr6)
abbrev sr4 : TSt := (tlSq (tlRel 5 (tlSet 7 (tlCall [false] (S_same 4) (tlCons (tlV 5) tlNil)))) sr5)
abbrev sr3 : TSt := (tlSq (tlRel 4 (tlFor (tlSeq (tlV 4)) (.nm 6) (tlRel 6 (tlApp 5 (tlLst (tlCons (tlCall [true, false] S_kept (tlCons (tlV 2) (tlCons (tlV 6) tlNil))) (tlCons (tlCall [true, false] S_lost (tlCons (tlV 2) (tlCons (tlV 6) tlNil))) (tlCons (tlCall [true, false] S_new (tlCons (tlV 2) (tlCons (tlV 6) tlNil))) tlNil)))))))) sr4)
abbrev sr2 : TSt := (tlSq (tlPar 4 5 (tlSl (tlCall [true, true] S_some (tlCons (tlV 0) (tlCons (tlV 1) tlNil))) none (some (tlC (.int 5)))) (tlLst tlNil)) sr3)
abbrev sr1 : TSt := (tlSq (tlPar 2 3 (tlCall [true] S_shelf (tlCons (tlV 1) tlNil)) (tlCall [true] S_runs (tlCons (tlV 1) tlNil))) sr2)
open Classical in
/-- what is told of a change -/
noncomputable def triF (xs ys : List Str) (rs : List (List Str)) (c : Chg) : D := if h : ∃ rs', IsRuns (nX c xs) (nY c ys) rs' then tri c rs h.choose else .non
theorem triF_eq {xs ys : List Str} {rs rs' : List (List Str)} {c : Chg} (h : IsRuns (nX c xs) (nY c ys) rs') : triF xs ys rs c = tri c rs rs' := by
  unfold triF
  have e : ∃ rs', IsRuns (nX c xs) (nY c ys) rs' := ⟨rs', h⟩
  rw [dif_pos e, IsRuns.uniq h e.choose_spec]
section
variable {xs ys : List Str} {rs : List (List Str)} {cs : List Chg} {x3 x4 x5 x6 x7 x8 x9 x10 x11 x12 x13 x15 x16 x17 x18 : Option Rv} {n : Nat} {R : Rv → Nat → Prop}
/-- what stands to be asked -/
structure Ask (xs ys : List Str) (rs : List (List Str)) (cs : List Chg) : Prop where
  cat : Cat xs
  few : xs.length ≤ 12
  row : Row xs ys
  hr : IsRuns xs ys rs
  av : AllV xs ys cs
  fc : cs.length ≤ 5
/-- runs of each changed shelf are known -/
def Kn (xs ys : List Str) (cs : List Chg) : Prop := ∀ c ∈ cs, ∃ rs', IsRuns (nX c xs) (nY c ys) rs'
theorem xd_F (s : Ask xs ys rs cs) (kn : Kn xs ys cs) {es : List Chg} (sub : ∀ c ∈ es, c ∈ cs) (fe : es.length ≤ 1000) : xd 4 (.lst (es.map (triF xs ys rs))) := by
  refine ⟨by rw [List.length_map]; omega, fun d hd => ?_⟩
  obtain ⟨c, hc, rfl⟩ := List.mem_map.1 hd
  obtain ⟨rs', h'⟩ := kn c (sub c hc)
  rw [triF_eq h']
  exact xd_tri (k := 0) ⟨s.cat, s.few, s.row, s.hr, s.av c (sub c hc), h'⟩
theorem sr_7 (s : Ask xs ys rs cs) (hx : x3 = some (.new (dL rs)) ∨ x3 = some (.val (dL rs))) (h : R (.val (.bl true)) n) :
    sr7 (ends R) (srg xs ys x3 (some (.val (dCs cs))) x5 x6 x7 x8 x9 x10 x11 x12 x13 x15 x16 x17 x18) n := by
  refine ⟨Nat.le_succ 1, ?_⟩
  refine forF_inv (j := 0) (fun i Γ k => k = n ∧ ∃ y3 y5 y6 y7 y8 y9 y10 y11 y12 y13 y15 y16 y17 y18 : Option Rv, (y3 = some (.new (dL rs)) ∨ y3 = some (.val (dL rs))) ∧ Γ = srg xs ys y3 (some (.val (dCs cs))) y5 y6 y7 y8 y9 y10 y11 y12 y13 y15 y16 y17 y18) ⟨rfl, _, _, _, _, _, _, _, _, _, _, _, _, _, _, hx, rfl⟩ ?_ ?_
  · rintro i d Γ k hd ⟨rfl, y3, y5, y6, y7, y8, y9, y10, y11, y12, y13, y15, y16, y17, y18, hy, rfl⟩
    obtain ⟨c, hc, rfl⟩ := List.mem_map.1 (List.mem_of_getElem? hd)
    refine ⟨_, rfl, fun kk hkk => ?_⟩
    exact nb_1 s.cat s.few s.row s.hr (s.av c hc) hy fun g1 g2 g3 g4 g5 g6 g7 g8 => hkk _ _ ⟨rfl, _, _, _, _, _, _, _, _, _, _, _, _, _, _, .inr rfl, rfl⟩
  · rintro Γ k ⟨rfl, y3, y5, y6, y7, y8, y9, y10, y11, y12, y13, y15, y16, y17, y18, hy, rfl⟩
    exact ⟨rfl, xs, ys, rfl, s.cat, s.row, rfl, dn_of h⟩
theorem sr_6 (s : Ask xs ys rs cs) (kn : Kn xs ys cs) (hx : x3 = some (.new (dL rs)) ∨ x3 = some (.val (dL rs))) {r5 : Rv} (h5 : r5 = .new (.lst ((cs ++ cs.reverse).map (triF xs ys rs))) ∨ r5 = .val (.lst ((cs ++ cs.reverse).map (triF xs ys rs)))) (h : R (.val (.bl true)) n) :
    sr6 (ends R) (srg xs ys x3 (some (.val (dCs cs))) (some r5) x6 (some (.new (.lst (cs.map (triF xs ys rs))))) x8 x9 x10 x11 x12 x13 x15 x16 x17 x18) n := by
  have fc := s.fc
  have e : D.lst (cs.map (triF xs ys rs) ++ (cs.map (triF xs ys rs)).reverse) = D.lst ((cs ++ cs.reverse).map (triF xs ys rs)) := by rw [List.map_append, List.map_reverse]
  have x := xd_F (es := cs ++ cs.reverse) s kn (fun c hc => (List.mem_append.1 hc).elim id List.mem_reverse.1) (by rw [List.length_append, List.length_reverse]; omega)
  have fl : (cs.map (triF xs ys rs)).length + (cs.map (triF xs ys rs)).reverse.length ≤ 1000000 := by rw [List.length_reverse, List.length_map]; omega
  rcases h5 with rfl | rfl
  · exact ⟨fl, rfl, .lst ((cs ++ cs.reverse).map (triF xs ys rs)), congrArg (fun z => [D.lst ((cs ++ cs.reverse).map (triF xs ys rs)), z]) e, x, sr_7 s hx h⟩
  · exact ⟨fl, rfl, .lst ((cs ++ cs.reverse).map (triF xs ys rs)), congrArg (fun z => [D.lst ((cs ++ cs.reverse).map (triF xs ys rs)), z]) e, x, sr_7 s hx h⟩
theorem sr_5 (s : Ask xs ys rs cs) (kn : Kn xs ys cs) (hx : x3 = some (.new (dL rs)) ∨ x3 = some (.val (dL rs))) (h : R (.val (.bl true)) n) :
    sr5 (ends R) (srg xs ys x3 (some (.val (dCs cs))) (some (.val (.lst (cs.map (triF xs ys rs))))) x6 (some (.new (.lst (cs.map (triF xs ys rs))))) x8 x9 x10 x11 x12 x13 x15 x16 x17 x18) n := by
  have fc := s.fc
  have f50 : xs.length < 50 := by have := s.few; omega
  refine ⟨Nat.le_succ 1, ?_⟩
  rw [show (cs.map eC).reverse = cs.reverse.map eC from List.map_reverse.symm]
  refine forF_inv (j := 0) (fun i Γ k => k = n ∧ ∃ (y6 : Option Rv) (r5 : Rv), (r5 = .new (.lst ((cs ++ cs.reverse.take i).map (triF xs ys rs))) ∨ r5 = .val (.lst ((cs ++ cs.reverse.take i).map (triF xs ys rs)))) ∧ Γ = srg xs ys x3 (some (.val (dCs cs))) (some r5) y6 (some (.new (.lst (cs.map (triF xs ys rs))))) x8 x9 x10 x11 x12 x13 x15 x16 x17 x18) ⟨rfl, x6, _, .inr (by rw [List.take_zero, List.append_nil]), rfl⟩ ?_ ?_
  · rintro i d Γ k hd ⟨rfl, y6, r5, h5, rfl⟩
    rw [Nat.zero_add] at *
    have li : i < cs.reverse.length := by have := (List.getElem?_eq_some_iff.1 hd).1; rwa [List.length_map] at this
    rw [List.getElem?_map, List.getElem?_eq_getElem li] at hd
    obtain rfl := Option.some.inj hd
    have hc : cs.reverse[i] ∈ cs := List.mem_reverse.1 (List.getElem_mem li)
    generalize hcc : cs.reverse[i] = c at *
    have v := s.av c hc
    refine ⟨_, rfl, fun kk hkk => ?_⟩
    have fl : ((cs ++ cs.reverse.take i).map (triF xs ys rs)).length + 1 ≤ 1000000 := by rw [List.length_map, List.length_append, List.length_take, List.length_reverse]; omega
    have step : ∀ rs', IsRuns (nX c xs) (nY c ys) rs' → D.lst ((cs ++ cs.reverse.take i).map (triF xs ys rs) ++ [tri c rs rs']) = D.lst ((cs ++ cs.reverse.take (i + 1)).map (triF xs ys rs)) := fun rs' h' => by
      rw [List.take_succ_eq_append_getElem li, hcc, ← List.append_assoc, List.map_append (l₁ := cs ++ cs.reverse.take i), List.map_singleton, triF_eq h']
    rcases h5 with rfl | rfl
    all_goals
      refine ⟨rfl, xs, ys, c, rfl, s.cat, f50, s.row, v, fun r1 r1' h1 h1' => ?_⟩
      obtain rfl := s.hr.uniq h1
      refine ⟨rfl, xs, ys, c, rfl, s.cat, f50, s.row, v, fun r2 r2' h2 h2' => ?_⟩
      obtain rfl := s.hr.uniq h2
      obtain rfl := h1'.uniq h2'
      refine ⟨rfl, xs, ys, c, rfl, s.cat, f50, s.row, v, fun r3 r3' h3 h3' => ?_⟩
      obtain rfl := s.hr.uniq h3
      obtain rfl := h1'.uniq h3'
      refine ⟨rfl, small_len, rfl, small_len, fl, ?_⟩
      exact hkk _ _ ⟨rfl, _, .new (.lst ((cs ++ cs.reverse.take i).map (triF xs ys rs) ++ [tri c rs r1'])), .inl (congrArg Rv.new (step r1' h1')), rfl⟩
  · rintro Γ k ⟨rfl, y6, r5, h5, rfl⟩
    rw [Nat.zero_add, List.length_map, List.take_length] at h5
    exact sr_6 s kn hx h5 h
theorem sr_3 (s : Ask xs ys rs cs) (hx : x3 = some (.new (dL rs)) ∨ x3 = some (.val (dL rs))) (h4 : x4 = some (.new (dCs cs)) ∨ x4 = some (.val (dCs cs))) (h : R (.val (.bl true)) n) :
    sr3 (ends R) (srg xs ys x3 x4 (some (.new (.lst []))) x6 x7 x8 x9 x10 x11 x12 x13 x15 x16 x17 x18) n := by
  have fc := s.fc
  have f50 : xs.length < 50 := by have := s.few; omega
  have main : (tlSq (tlFor (tlSeq (tlV 4)) (.nm 6) (tlRel 6 (tlApp 5 (tlLst (tlCons (tlCall [true, false] S_kept (tlCons (tlV 2) (tlCons (tlV 6) tlNil))) (tlCons (tlCall [true, false] S_lost (tlCons (tlV 2) (tlCons (tlV 6) tlNil))) (tlCons (tlCall [true, false] S_new (tlCons (tlV 2) (tlCons (tlV 6) tlNil))) tlNil))))))) sr4) (ends R) (srg xs ys x3 (some (.val (dCs cs))) (some (.new (.lst []))) x6 x7 x8 x9 x10 x11 x12 x13 x15 x16 x17 x18) n := by
    refine ⟨Nat.le_succ 1, ?_⟩
    refine forF_inv (j := 0) (fun i Γ k => k = n ∧ Kn xs ys (cs.take i) ∧ ∃ (y6 : Option Rv), Γ = srg xs ys x3 (some (.val (dCs cs))) (some (.new (.lst ((cs.take i).map (triF xs ys rs))))) y6 x7 x8 x9 x10 x11 x12 x13 x15 x16 x17 x18) ⟨rfl, fun c hc => (by rw [List.take_zero] at hc; exact nomatch hc), x6, rfl⟩ ?_ ?_
    · rintro i d Γ k hd ⟨rfl, kn, y6, rfl⟩
      rw [Nat.zero_add] at *
      have li : i < cs.length := by have := (List.getElem?_eq_some_iff.1 hd).1; rwa [List.length_map] at this
      rw [List.getElem?_map, List.getElem?_eq_getElem li] at hd
      obtain rfl := Option.some.inj hd
      have hc : cs[i] ∈ cs := List.getElem_mem li
      generalize hcc : cs[i] = c at *
      have v := s.av c hc
      refine ⟨_, rfl, fun kk hkk => ?_⟩
      have fl : ((cs.take i).map (triF xs ys rs)).length ≤ 1000000 := by rw [List.length_map, List.length_take]; omega
      refine ⟨rfl, xs, ys, c, rfl, s.cat, f50, s.row, v, fun r1 r1' h1 h1' => ?_⟩
      obtain rfl := s.hr.uniq h1
      refine ⟨rfl, xs, ys, c, rfl, s.cat, f50, s.row, v, fun r2 r2' h2 h2' => ?_⟩
      obtain rfl := s.hr.uniq h2
      obtain rfl := h1'.uniq h2'
      refine ⟨rfl, xs, ys, c, rfl, s.cat, f50, s.row, v, fun r3 r3' h3 h3' => ?_⟩
      obtain rfl := s.hr.uniq h3
      obtain rfl := h1'.uniq h3'
      refine ⟨rfl, small_len, rfl, fl, ?_⟩
      have step : (cs.take i).map (triF xs ys rs) ++ [tri c rs r1'] = (cs.take (i + 1)).map (triF xs ys rs) := by
        rw [List.take_succ_eq_append_getElem li, hcc, List.map_append, List.map_singleton, triF_eq h1']
      refine hkk _ _ ⟨rfl, fun c' hc' => ?_, _, by rw [← step]; rfl⟩
      rw [List.take_succ_eq_append_getElem li, hcc] at hc'
      rcases List.mem_append.1 hc' with hc' | hc'
      · exact kn c' hc'
      · rw [List.mem_singleton.1 hc']
        exact ⟨r1', h1'⟩
    · rintro Γ k ⟨rfl, kn, y6, rfl⟩
      rw [Nat.zero_add, List.length_map, List.take_length] at *
      refine ⟨rfl, .lst (cs.map (triF xs ys rs)), rfl, xd_F s kn (fun _ h => h) (by omega), ?_⟩
      exact sr_5 s kn hx h
  rcases h4 with rfl | rfl
  · exact main
  · exact main
end
def S_right : ST := fun ds n R => ∃ xs ys : List Str, ds = [.purse, dW xs ys] ∧ Cat xs ∧ xs.length ≤ 12 ∧ Row xs ys ∧ 1100 ≤ n ∧ R (.val (.bl true)) (n - 1100)
theorem tree_w_stays_right : ∀ ds n R, S_right ds n R → B_w_stays_right S_shelf S_runs S_some S_kept S_lost S_new (S_same 4) (S_exact 4) S_wchanged S_lots_of S_all_runs S_changed S_wstays (ends R) (slots [true, true] ds 17) n := by
  rintro _ n R ⟨xs, ys, rfl, cat, few, row, hn, h⟩
  have ly := row.2.2
  refine ⟨rfl, xs, ys, rfl, cat, row, ?_⟩
  refine ⟨rfl, xs, ys, rfl, cat.1, row.1, by omega, by omega, fun rs hr => ?_⟩
  refine ⟨rfl, xs, ys, rfl, cat, few, row, hn, fun cs av => ?_⟩
  refine ⟨rfl, rfl, small_len, ?_⟩
  have e : cutL (cs.map eC) none (some 5) = (cs.take 5).map eC := (cut_take (cs.map eC) 5).trans List.map_take.symm
  have s : Ask xs ys rs (cs.take 5) := ⟨cat, few, row, hr, fun c hc => av c (List.mem_of_mem_take hc), by rw [List.length_take]; omega⟩
  have fin := sr_3 (x6 := none) (x7 := none) (x8 := none) (x9 := none) (x10 := none) (x11 := none) (x12 := none) (x13 := none) (x15 := none) (x16 := none) (x17 := none) (x18 := none) (n := n - 1100) (R := R) s (.inl rfl) (.inl rfl) h
  unfold dCs at fin
  rw [← e] at fin
  exact fin
theorem tree_lawin : ∀ (E : TEn) (n : Nat), 5000000 ≤ n → (∀ Γ q, Γ.length = 1 + 2 → n ≤ q + 5000000 → E.nx Γ q) → B_lawin S_world S_sized S_right S_outs E (none :: some (.bor .purse) :: List.replicate 1 none) n := fun E n hn h => by
  refine ⟨rfl, rfl, by omega, fun m m1 m12 => ?_⟩
  refine ⟨rfl, m, rfl, m1, m12, by omega, fun xs ys cat row lx r hd hs => ?_⟩
  cases r with
  | val d =>
    obtain rfl : d = dW xs ys := hd
    exact ⟨rfl, xs, ys, rfl, cat, by omega, row, by omega, rfl, xs, ys, rfl, cat, by omega, row, h _ _ rfl (by omega)⟩
  | new d =>
    obtain rfl : d = dW xs ys := hd
    exact ⟨rfl, xs, ys, rfl, cat, by omega, row, by omega, rfl, xs, ys, rfl, cat, by omega, row, h _ _ rfl (by omega)⟩
  | bor d => cases hs
  | tmp d => cases hs
end TL

-- Fa
set_option Elab.async false
set_option linter.all false
set_option maxRecDepth 100000
set_option maxHeartbeats 4100000
/-! ### what the top has written -/
namespace LW
open L2 PyProof.Rows PySem PySem.Spec TS TL
/-- a def of the module's, as the top leaves it -/
def RawN (K : PySem.W.Frag) (x : Str) (st : Stmt) : Prop := ∃ f fd, PySem.W.nsIn K mainGlobals x = some (some (.ref f)) ∧ Fun K x x st f fd
theorem rawN_mk {K : PySem.W.Frag} {x : Str} {st : Stmt} {f : Addr} {oc : Value} {od an : Option Addr} {sl : Array (Option Value)} {kV dc pm cd ct : Value} (a : PySem.W.nsIn K mainGlobals x = some (some (.ref f)))
    (l : K.lookup f = some ⟨oc, od, .func (PySem.W.fnOf x x (defArgs st) (defBody st) (defScope st) .none kV dc pm an cd ct), sl⟩) (c : PySem.W.codeIn K cd x = true) (k : PySem.W.keepIn K (.ref f) = true) : RawN K x st :=
  ⟨f, _, a, fun_mk l c k⟩
/-- a method of the class at C -/
def RawM (K : PySem.W.Frag) (C : Addr) (x q : Str) (st : Stmt) (f : Addr) : Prop := ∃ fd, PySem.W.findIn K (.ref C) x = some (some (.ref f)) ∧ PySem.W.isFn K (.ref f) = true ∧ Fun K x q st f fd
theorem rawM_mk {K : PySem.W.Frag} {C : Addr} {x q : Str} {st : Stmt} {f : Addr} {oc : Value} {od an : Option Addr} {sl : Array (Option Value)} {kV dc pm cd ct : Value} (a : PySem.W.findIn K (.ref C) x = some (some (.ref f))) (i : PySem.W.isFn K (.ref f) = true)
    (l : K.lookup f = some ⟨oc, od, .func (PySem.W.fnOf x q (defArgs st) (defBody st) (defScope st) .none kV dc pm an cd ct), sl⟩) (c : PySem.W.codeIn K cd q = true) (k : PySem.W.keepIn K (.ref f) = true) : RawM K C x q st f :=
  ⟨_, a, i, fun_mk l c k⟩
/-- how the built-in classes and the class of shelves lie to one another -/
def kitOk (K : PySem.W.Frag) (C : Addr) : Bool :=
  (["str", "list", "tuple", "dict", "int", "bool"].all fun t => decide (PySem.W.kitOne K (.ref C) (.type t) = some false)) && (["NoneType", "bool", "int", "str", "list", "tuple", "dict"].all fun t => decide (PySem.W.kitOne K (.type t) (.ref C) = some false))
/-- what is looked up of the class Shelf -/
def clsOk (K : PySem.W.Frag) (C : Addr) : Bool :=
  (PySem.W.plainGet K C Str.empty && PySem.W.hasDictIn K C && PySem.W.plainOver K C && PySem.W.makesIn K C && PySem.W.keepIn K (.ref C)) &&
  (decide (PySem.W.findIn K (.ref C) "__setattr__" = some (some (.builtin "object.__setattr__"))) && decide (PySem.W.findIn K (.ref C) "_catalogue" = some none) && decide (PySem.W.findIn K (.ref C) "_row" = some none)) &&
  (decide (PySem.W.findIn K (.ref C) "__ne__" = some (some (.builtin "object.__ne__"))) && decide (PySem.W.mroIn K C (.type "object") = some true)) &&
  (decide (PySem.W.findIn K (.ref C) "__class__" = some (some (Value.builtin "object.__class__"))) && decide (PySem.W.specialIn K (Value.builtin "object.__class__") "__get__" = some (some (.builtin "getset_descriptor.__get__"))) && decide (PySem.W.takesIn K (Value.builtin "object.__class__") = some true)) &&
  (decide (PySem.W.kitOne K (.ref C) (.ref C) = some true) && kitOk K C)
theorem shC_of {K : PySem.W.Frag} {C fi fq fc fr : Addr} {fdi fdq fdc fdr : FuncData} (h : clsOk K C = true)
    (ai : PySem.W.findIn K (.ref C) "__init__" = some (some (.ref fi))) (ii : PySem.W.isFn K (.ref fi) = true) (aq : PySem.W.findIn K (.ref C) "__eq__" = some (some (.ref fq))) (iq : PySem.W.isFn K (.ref fq) = true)
    (ac : PySem.W.findIn K (.ref C) "catalogue" = some (some (.ref fc))) (ic : PySem.W.isFn K (.ref fc) = true) (kc : PySem.W.keepIn K (.ref fc) = true) (ar : PySem.W.findIn K (.ref C) "row" = some (some (.ref fr))) (ir : PySem.W.isFn K (.ref fr) = true) (kr : PySem.W.keepIn K (.ref fr) = true) :
    ShC K C fi fq fc fr ∧ IsC K C := by
  unfold clsOk at h
  simp only [Bool.and_eq_true, decide_eq_true_eq] at h
  obtain ⟨⟨⟨⟨⟨⟨⟨⟨h1, h2⟩, h3⟩, h4⟩, h5⟩, ⟨h6, h7⟩, h8⟩, h9, h10⟩, ⟨h11, h12⟩, h13⟩, h14, h15⟩ := h
  have T : ShC K C fi fq fc fr := ⟨⟨h4, ai, ii, h5⟩, ⟨h1, h2, h3, h6⟩, h7, h8, ⟨ac, ic, kc⟩, ⟨ar, ir, kr⟩, ⟨aq, h9, iq, h10⟩, h11, h12, h13, h14⟩
  unfold kitOk at h15
  rw [Bool.and_eq_true, List.all_eq_true, List.all_eq_true] at h15
  have k1 := fun t ht => of_decide_eq_true (h15.1 t ht)
  exact ⟨T, fun H a dx fs h => .base (.ins h T.cl T.ha T.hn T.ht T.eq.ob), h14, k1 _ (by decide), k1 _ (by decide), k1 _ (by decide), k1 _ (by decide), k1 _ (by decide), k1 _ (by decide), fun t ht => of_decide_eq_true (h15.2 t ht)⟩
def freeNames : List Str := ["sum", "int", "max", "min", "len", "range", "isinstance", "repr", "all", "ValueError", "set", "str", "list", "tuple", "dict", "bool", "any", "sorted", "zip", "enumerate"]
/-- these names stand for what is built in -/
def freeB (K : PySem.W.Frag) : Bool := freeNames.all fun x => decide (PySem.W.nsIn K mainGlobals x = some none)
theorem all_mk {l : PySem.W.OpenLaw} {w : World} {K : PySem.W.Frag} {h : Heap} {mg : Str → Option Value} {fa C fi fq fc fr : Addr} {t1 t2 : Tok} (X : K.In h) (G : h.Ns mainGlobals mg) (hfa : mg "law" = some (.ref fa))
    (aC : PySem.W.nsIn K mainGlobals "Shelf" = some (some (.ref C))) (aL : PySem.W.nsIn K mainGlobals "LETTERS" = some (some (.str "abcdefghijklmnopqrstuvwxyz" t1))) (aM : PySem.W.nsIn K mainGlobals "MOST_LETTERS" = some (some (.int 8 t2)))
    (ok : clsOk K C = true) (fr_ : freeB K = true) {ca_COUNTS_BEHIND : Addr} (tA_COUNTS_BEHIND : PySem.W.nsIn K mainGlobals "COUNTS_BEHIND" = some (some (.ref ca_COUNTS_BEHIND))) (tK_COUNTS_BEHIND : KDict w K ca_COUNTS_BEHIND tab_COUNTS_BEHIND)
    (r0 : RawN K "is_count" st_is_count)
    (r1 : RawN K "is_book" sIsBook)
    (r2 : RawN K "is_catalogue" sIsCat)
    (r3 : RawN K "are_unlike_of" sUnlike)
    (r4 : RawN K "is_row_of" sRowOf)
    (r5 : RawN K "check_shelf" sCheck)
    (r6 : RawN K "ranks" sRanks)
    (r7 : RawN K "is_change" st_is_change)
    (r8 : RawN K "fits" st_fits)
    (r9 : RawN K "books_without" st_books_without)
    (r10 : RawN K "books_with_at" st_books_with_at)
    (r11 : RawN K "_made" st_u_made)
    (r12 : RawN K "changed" st_changed)
    (r13 : RawN K "are_gapless" st_are_gapless)
    (r14 : RawN K "_run_of_entries" st_u_run_of_entries)
    (r15 : RawN K "all_runs" st_all_runs)
    (r16 : RawN K "_forms_of" st_u_forms_of)
    (r17 : RawN K "_stay" st_u_stay)
    (r18 : RawN K "kept_runs" st_kept_runs)
    (r19 : RawN K "lost_runs" st_lost_runs)
    (r20 : RawN K "new_runs" st_new_runs)
    (r21 : RawN K "_law_purse" sPurse)
    (r22 : RawN K "_law_mixed" sMixed)
    (r23 : RawN K "_law_draw" sDraw)
    (r24 : RawN K "_law_purses" sPurses)
    (r25 : RawN K "_law_one_of" st_w_one_of)
    (r26 : RawN K "_law_shuffled" st_w_shuffled)
    (r27 : RawN K "_law_same" st_w_same)
    (r28 : RawN K "_law_exact" st_w_exact)
    (r29 : RawN K "_law_word" sWord)
    (r30 : RawN K "_law_words" st_w_words)
    (r31 : RawN K "_law_catalogue" st_w_catalogue)
    (r32 : RawN K "_law_sizes" st_w_sizes)
    (r33 : RawN K "_law_crossed_rows" st_w_crossed_rows)
    (r34 : RawN K "_law_heap_sizes" st_w_heap_sizes)
    (r35 : RawN K "_law_nodes" st_w_nodes)
    (r36 : RawN K "_law_home_row" st_w_home_row)
    (r37 : RawN K "_law_turnables" st_w_turnables)
    (r38 : RawN K "_law_overlap" st_w_overlap)
    (r39 : RawN K "_law_drawn_lot" st_w_drawn_lot)
    (r40 : RawN K "_law_turn" st_w_turn)
    (r41 : RawN K "_law_led" st_w_led)
    (r42 : RawN K "_law_class" st_w_class)
    (r43 : RawN K "_law_free" st_w_free)
    (r44 : RawN K "_law_world" st_w_world)
    (r45 : RawN K "_law_shelf" st_w_shelf)
    (r46 : RawN K "_law_ranks" st_w_ranks)
    (r47 : RawN K "_law_runs" st_w_runs)
    (r48 : RawN K "_law_sized" st_w_sized)
    (r49 : RawN K "_law_stays" st_w_stays)
    (r50 : RawN K "_law_strange_books" st_w_strange_books)
    (r51 : RawN K "_law_some_changes" st_w_some_changes)
    (r52 : RawN K "_law_changed" st_w_changed)
    (r53 : RawN K "_law_lots_of_run" st_w_lots_of_run)
    (r54 : RawN K "_law_stays_right" st_w_stays_right)
    (r55 : RawN K "_law_all_outs" st_w_all_outs)
    (r56 : RawN K "law" st_law)
    (n0 : RawM K C "__init__" "Shelf.__init__" sInit fi)
    (n1 : RawM K C "__eq__" "Shelf.__eq__" sEq fq)
    (n2 : RawM K C "catalogue" "Shelf.catalogue" sCats fc)
    (n3 : RawM K C "row" "Shelf.row" sRow fr)
    : ∃ fd : FuncData, (∀ (s : Shared) (v : Value), BindsTo s fd ⟨[v], []⟩ [("_law_script", v)]) ∧ ∀ base : Heap, K.In base → base.Ns mainGlobals mg → FnOk l.prog w K mg base CX0 11 fa fd ["_law_script"] (spLaw K) := by
  have at_ : ∀ {x : Str} {v : Value}, PySem.W.nsIn K mainGlobals x = some (some v) → mg x = some v := fun e => PySem.W.mg_of X G e
  have free : ∀ x ∈ freeNames, mg x = none := fun x hx => PySem.W.mg_none_of X G (of_decide_eq_true (List.all_eq_true.1 fr_ x hx))
  have raw : ∀ {x : Str} {st : Stmt}, RawN K x st → RawF K mg x st := fun ⟨f, fd, a, F⟩ => ⟨f, fd, at_ a, F⟩
  have B : Bl mg := ⟨free _ (by simp [freeNames]), free _ (by simp [freeNames]), free _ (by simp [freeNames]), free _ (by simp [freeNames]), free _ (by simp [freeNames]), free _ (by simp [freeNames]), free _ (by simp [freeNames]), free _ (by simp [freeNames]), free _ (by simp [freeNames]), free _ (by simp [freeNames])⟩
  have M : Md mg := ⟨free _ (by simp [freeNames]), free _ (by simp [freeNames]), free _ (by simp [freeNames]), free _ (by simp [freeNames]), free _ (by simp [freeNames]), free _ (by simp [freeNames]), ⟨_, at_ aL⟩, ⟨_, at_ aM⟩⟩
  have nm : Nm mg := ⟨free _ (by simp [freeNames]), free _ (by simp [freeNames]), free _ (by simp [freeNames]), free _ (by simp [freeNames]), free _ (by simp [freeNames]), free _ (by simp [freeNames]), free _ (by simp [freeNames]), free _ (by simp [freeNames]), free _ (by simp [freeNames]), free _ (by simp [freeNames]), free _ (by simp [freeNames]), free _ (by simp [freeNames]), free _ (by simp [freeNames]), free _ (by simp [freeNames]), free _ (by simp [freeNames]), free _ (by simp [freeNames]), free _ (by simp [freeNames]), free _ (by simp [freeNames])⟩
  have en : mg "enumerate" = none := free _ (by simp [freeNames])
  obtain ⟨f21, d21, a21, F21⟩ := r21
  have B21 := F21.binds (ps := ["_law_script", "_law_at"]) fun _ _ _ _ _ _ us hl => match us, hl with | [_, _], _ => rfl
  obtain ⟨f22, d22, a22, F22⟩ := r22
  have B22 := F22.binds (ps := ["_law_seed", "_law_turn_here", "_law_at"]) fun _ _ _ _ _ _ us hl => match us, hl with | [_, _, _], _ => rfl
  obtain ⟨f23, d23, a23, F23⟩ := r23
  have B23 := F23.binds (ps := ["_law_purse_here", "_law_many"]) fun _ _ _ _ _ _ us hl => match us, hl with | [_, _], _ => rfl
  obtain ⟨f24, d24, a24, F24⟩ := r24
  have B24 := F24.binds (ps := ["_law_script", "_law_few"]) fun _ _ _ _ _ _ us hl => match us, hl with | [_, _], _ => rfl
  obtain ⟨f29, d29, a29, F29⟩ := r29
  have B29 := F29.binds (ps := ["_law_purse_here"]) fun _ _ _ _ _ _ us hl => match us, hl with | [_], _ => rfl
  obtain ⟨f1, d1, a1, F1⟩ := r1
  have B1 := F1.binds (ps := ["value"]) fun _ _ _ _ _ _ us hl => match us, hl with | [_], _ => rfl
  obtain ⟨f2, d2, a2, F2⟩ := r2
  have B2 := F2.binds (ps := ["value"]) fun _ _ _ _ _ _ us hl => match us, hl with | [_], _ => rfl
  obtain ⟨f3, d3, a3, F3⟩ := r3
  have B3 := F3.binds (ps := ["books", "value"]) fun _ _ _ _ _ _ us hl => match us, hl with | [_, _], _ => rfl
  obtain ⟨f4, d4, a4, F4⟩ := r4
  have B4 := F4.binds (ps := ["catalogue", "value"]) fun _ _ _ _ _ _ us hl => match us, hl with | [_, _], _ => rfl
  obtain ⟨f5, d5, a5, F5⟩ := r5
  have B5 := F5.binds (ps := ["shelf"]) fun _ _ _ _ _ _ us hl => match us, hl with | [_], _ => rfl
  obtain ⟨f6, d6, a6, F6⟩ := r6
  have B6 := F6.binds (ps := ["shelf"]) fun _ _ _ _ _ _ us hl => match us, hl with | [_], _ => rfl
  obtain ⟨f56, d56, a56, F56⟩ := r56
  obtain ⟨e0, h0, i0, M0⟩ := n0
  have N0 := M0.binds (ps := ["self", "catalogue", "row"]) fun _ _ _ _ _ _ us hl => match us, hl with | [_, _, _], _ => rfl
  obtain ⟨e1, h1, i1, M1⟩ := n1
  have N1 := M1.binds (ps := ["self", "other"]) fun _ _ _ _ _ _ us hl => match us, hl with | [_, _], _ => rfl
  obtain ⟨e2, h2, i2, M2⟩ := n2
  have N2 := M2.binds (ps := ["self"]) fun _ _ _ _ _ _ us hl => match us, hl with | [_], _ => rfl
  obtain ⟨e3, h3, i3, M3⟩ := n3
  have N3 := M3.binds (ps := ["self"]) fun _ _ _ _ _ _ us hl => match us, hl with | [_], _ => rfl
  obtain ⟨T, I⟩ := shC_of (fdi := e0) (fdq := e1) (fdc := e2) (fdr := e3) ok h0 i0 h1 i1 h2 i2 M2.kp h3 i3 M3.kp
  have e := hfa.symm.trans (at_ a56)
  cases e
  refine ⟨d56, ?_, fun base _ _ => ?_⟩
  · obtain ⟨oc, od, kV, doc, pm, an, cdv, ct, osl, rfl, _⟩ := F56.ex
    exact fun s v => .of_eq rfl
  have gS := at_ aC
  have T_COUNTS_BEHIND : KDs w K mg "COUNTS_BEHIND" tab_COUNTS_BEHIND := ⟨_, at_ tA_COUNTS_BEHIND, tK_COUNTS_BEHIND⟩
  have g_mixed := ok_mixed (P := l.prog) (w := w) (base := base) F22 B
  have g_draw := ok_draw (P := l.prog) (w := w) (base := base) F23 B g_mixed (at_ a22) F22.kp B22
  have g_purse := ok_purse (P := l.prog) (w := w) (base := base) F21 B
  have g_purses := ok_purses (P := l.prog) (w := w) (base := base) F24 B g_purse (at_ a21) F21.kp B21
  have g_word := ok_word (P := l.prog) (w := w) (base := base) F29 B g_draw (at_ a23) F23.kp B23
  have g_book := ok_isBook (P := l.prog) (w := w) (base := base) F1 M
  have g_isCat := ok_isCat (P := l.prog) (w := w) (base := base) F2 M g_book (at_ a1) F1.kp B1
  have g_unlike := ok_unlike (P := l.prog) (w := w) (base := base) F3 M
  have g_rowOf := ok_rowOf (P := l.prog) (w := w) (base := base) F4 M g_unlike (at_ a3) F3.kp B3
  have g_init := ok_init (P := l.prog) (w := w) (base := base) M0 M T g_isCat (at_ a2) F2.kp B2 g_rowOf (at_ a4) F4.kp B4
  have g_eq := ok_eq (P := l.prog) (w := w) (base := base) M1 M gS T
  have g_cats := ok_cats (P := l.prog) (w := w) (base := base) M2 M T
  have g_row := ok_row (P := l.prog) (w := w) (base := base) M3 M T
  have L : ShL l.prog w K mg base C := ⟨⟨fi, fq, fc, fr, e0, e1, e2, e3, T, gS, g_init, N0, g_eq, N1, conv_new g_cats, N2, conv_new g_row, N3, I⟩⟩
  have g_check := ok_check (P := l.prog) (w := w) (base := base) F5 M gS T
  have g_ranks := ok_ranks (P := l.prog) (w := w) (base := base) F6 M T en g_check (at_ a5) F5.kp B5 g_cats N2 g_row N3
  have h_is_book : Has l.prog w K mg base C 1 "is_book" ["value"] [true] S_is_book := ⟨_, _, conv_book g_book, at_ a1, F1.kp, B1⟩
  have h_w_draw : Has l.prog w K mg base C 2 "_law_draw" ["_law_purse_here", "_law_many"] [true, true] S_draw := ⟨_, _, conv_draw g_draw, at_ a23, F23.kp, B23⟩
  have h_w_word : Has l.prog w K mg base C 3 "_law_word" ["_law_purse_here"] [true] S_word := ⟨_, _, conv_word g_word, at_ a29, F29.kp, B29⟩
  have h_ranks : Has l.prog w K mg base C 2 "ranks" ["shelf"] [true] S_ranks := ⟨_, _, conv_ranks g_ranks, at_ a6, F6.kp, B6⟩
  have h_check_shelf : Has l.prog w K mg base C 1 "check_shelf" ["shelf"] [true] S_check := ⟨_, _, conv_check g_check, at_ a5, F5.kp, B5⟩
  have h_is_catalogue : Has l.prog w K mg base C 2 "is_catalogue" ["value"] [true] S_is_catalogue := ⟨_, _, conv_cat g_isCat, at_ a2, F2.kp, B2⟩
  have h_are_unlike_of : Has l.prog w K mg base C 1 "are_unlike_of" ["books", "value"] [true, true] S_are_unlike := ⟨_, _, conv_unlike g_unlike, at_ a3, F3.kp, B3⟩
  have h_is_count := has_is_count (P := l.prog) (w := w) (base := base) (C := C) nm L (raw r0)  tree_is_count
  have h_is_change := has_is_change (P := l.prog) (w := w) (base := base) (C := C) nm L T_COUNTS_BEHIND (raw r7) h_is_book h_is_count tree_is_change
  have h_fits := has_fits (P := l.prog) (w := w) (base := base) (C := C) nm L (raw r8)  tree_fits
  have h_books_without := has_books_without (P := l.prog) (w := w) (base := base) (C := C) nm L (raw r9)  tree_books_without
  have h_books_with_at := has_books_with_at (P := l.prog) (w := w) (base := base) (C := C) nm (raw r10)  tree_books_with_at
  have h_u_made := has_u_made (P := l.prog) (w := w) (base := base) (C := C) nm L (raw r11) h_books_with_at h_books_without tree_u_made
  have h_changed := has_changed (P := l.prog) (w := w) (base := base) (C := C) nm (raw r12) h_check_shelf h_is_change h_fits h_u_made tree_changed
  have h_are_gapless := has_are_gapless (P := l.prog) (w := w) (base := base) (C := C) nm (raw r13)  tree_are_gapless
  have h_u_run_of_entries := has_u_run_of_entries (P := l.prog) (w := w) (base := base) (C := C) nm (raw r14) h_are_gapless tree_u_run_of_entries
  have h_all_runs := has_all_runs (P := l.prog) (w := w) (base := base) (C := C) nm L (raw r15) h_ranks h_u_run_of_entries tree_all_runs
  have h_u_forms_of := has_u_forms_of (P := l.prog) (w := w) (base := base) (C := C) nm (raw r16) h_books_without tree_u_forms_of
  have h_u_stay := has_u_stay (P := l.prog) (w := w) (base := base) (C := C) nm (raw r17) h_all_runs h_changed h_u_forms_of tree_u_stay
  have h_kept_runs := has_kept_runs (P := l.prog) (w := w) (base := base) (C := C) nm (raw r18) h_u_stay tree_kept_runs
  have h_lost_runs := has_lost_runs (P := l.prog) (w := w) (base := base) (C := C) nm (raw r19) h_u_stay tree_lost_runs
  have h_new_runs := has_new_runs (P := l.prog) (w := w) (base := base) (C := C) nm (raw r20) h_all_runs h_changed h_u_forms_of tree_new_runs
  have h_w_one_of := has_w_one_of (P := l.prog) (w := w) (base := base) (C := C) nm (raw r25) h_w_draw tree_w_one_of
  have h_w_shuffled := has_w_shuffled (P := l.prog) (w := w) (base := base) (C := C) nm (raw r26) h_w_draw tree_w_shuffled
  have x0 : Has l.prog w K mg base C 1 "_law_same" ["_law_thing"] [false] _ := has_no (N := []) (raw r27) fun F => F.binds fun _ _ _ _ _ _ us hl => match us, hl with | [_], _ => rfl
  have x1 := has_w_same (P := l.prog) (w := w) (base := base) (C := C) (k := 0) nm L (raw r27) x0 tree_w_same0
  have x2 := has_w_same (P := l.prog) (w := w) (base := base) (C := C) (k := 1) nm L (raw r27) x1 (tree_w_sameS (k := 0))
  have x3 := has_w_same (P := l.prog) (w := w) (base := base) (C := C) (k := 2) nm L (raw r27) x2 (tree_w_sameS (k := 1))
  have x4 := has_w_same (P := l.prog) (w := w) (base := base) (C := C) (k := 3) nm L (raw r27) x3 (tree_w_sameS (k := 2))
  have x5 := has_w_same (P := l.prog) (w := w) (base := base) (C := C) (k := 4) nm L (raw r27) x4 (tree_w_sameS (k := 3))
  have h_w_same := x5
  have x0 : Has l.prog w K mg base C 1 "_law_exact" ["_law_mine", "_law_theirs"] [true, true] _ := has_no (N := []) (raw r28) fun F => F.binds fun _ _ _ _ _ _ us hl => match us, hl with | [_, _], _ => rfl
  have x1 := has_w_exact (P := l.prog) (w := w) (base := base) (C := C) (k := 0) nm L (raw r28) x0 tree_w_exact0
  have x2 := has_w_exact (P := l.prog) (w := w) (base := base) (C := C) (k := 1) nm L (raw r28) x1 (tree_w_exactS (k := 0))
  have x3 := has_w_exact (P := l.prog) (w := w) (base := base) (C := C) (k := 2) nm L (raw r28) x2 (tree_w_exactS (k := 1))
  have x4 := has_w_exact (P := l.prog) (w := w) (base := base) (C := C) (k := 3) nm L (raw r28) x3 (tree_w_exactS (k := 2))
  have x5 := has_w_exact (P := l.prog) (w := w) (base := base) (C := C) (k := 4) nm L (raw r28) x4 (tree_w_exactS (k := 3))
  have h_w_exact := x5
  have h_w_words := has_w_words (P := l.prog) (w := w) (base := base) (C := C) nm (raw r30) h_w_word h_w_draw tree_w_words
  have h_w_catalogue := has_w_catalogue (P := l.prog) (w := w) (base := base) (C := C) nm (raw r31) h_w_words h_w_draw h_w_shuffled tree_w_catalogue
  have h_w_sizes := has_w_sizes (P := l.prog) (w := w) (base := base) (C := C) nm (raw r32) h_w_draw tree_w_sizes
  have h_w_crossed_rows := has_w_crossed_rows (P := l.prog) (w := w) (base := base) (C := C) nm (raw r33)  tree_w_crossed_rows
  have h_w_heap_sizes := has_w_heap_sizes (P := l.prog) (w := w) (base := base) (C := C) nm (raw r34) h_w_draw tree_w_heap_sizes
  have h_w_nodes := has_w_nodes (P := l.prog) (w := w) (base := base) (C := C) nm (raw r35) h_w_draw h_w_heap_sizes h_w_sizes h_w_one_of h_w_crossed_rows tree_w_nodes
  have h_w_home_row := has_w_home_row (P := l.prog) (w := w) (base := base) (C := C) nm (raw r36)  tree_w_home_row
  have h_w_turnables := has_w_turnables (P := l.prog) (w := w) (base := base) (C := C) nm (raw r37)  tree_w_turnables
  have h_w_overlap := has_w_overlap (P := l.prog) (w := w) (base := base) (C := C) nm (raw r38)  tree_w_overlap
  have h_w_drawn_lot := has_w_drawn_lot (P := l.prog) (w := w) (base := base) (C := C) nm (raw r39) h_w_shuffled h_w_overlap h_w_draw tree_w_drawn_lot
  have h_w_turn := has_w_turn (P := l.prog) (w := w) (base := base) (C := C) nm (raw r40)  tree_w_turn
  have h_w_led := has_w_led (P := l.prog) (w := w) (base := base) (C := C) nm (raw r41) h_w_turn tree_w_led
  have h_w_class := has_w_class (P := l.prog) (w := w) (base := base) (C := C) nm (raw r42) h_w_catalogue h_w_nodes h_w_home_row h_w_turnables h_w_drawn_lot h_w_led h_w_shuffled tree_w_class
  have h_w_free := has_w_free (P := l.prog) (w := w) (base := base) (C := C) nm (raw r43) h_w_catalogue h_w_shuffled tree_w_free
  have h_w_world := has_w_world (P := l.prog) (w := w) (base := base) (C := C) nm (raw r44) h_w_draw h_w_free h_w_class tree_w_world
  have h_w_shelf := has_w_shelf (P := l.prog) (w := w) (base := base) (C := C) nm L (raw r45)  tree_w_shelf
  have h_w_ranks := has_w_ranks (P := l.prog) (w := w) (base := base) (C := C) nm (raw r46)  tree_w_ranks
  have h_w_runs := has_w_runs (P := l.prog) (w := w) (base := base) (C := C) nm (raw r47) h_w_ranks tree_w_runs
  have h_w_sized := has_w_sized (P := l.prog) (w := w) (base := base) (C := C) nm (raw r48) h_w_draw tree_w_sized
  have h_w_stays := has_w_stays (P := l.prog) (w := w) (base := base) (C := C) nm L (raw r49) h_w_exact h_w_shelf tree_w_stays
  have h_w_strange_books := has_w_strange_books (P := l.prog) (w := w) (base := base) (C := C) nm (raw r50)  tree_w_strange_books
  have h_w_some_changes := has_w_some_changes (P := l.prog) (w := w) (base := base) (C := C) nm (raw r51) h_w_strange_books h_w_words h_w_one_of h_w_draw h_w_shuffled tree_w_some_changes
  have h_w_changed := has_w_changed (P := l.prog) (w := w) (base := base) (C := C) nm L (raw r52)  tree_w_changed
  have h_w_lots_of_run := has_w_lots_of_run (P := l.prog) (w := w) (base := base) (C := C) nm L (raw r53)  tree_w_lots_of_run
  have h_w_stays_right := has_w_stays_right (P := l.prog) (w := w) (base := base) (C := C) nm (raw r54) h_w_shelf h_w_runs h_w_some_changes h_kept_runs h_lost_runs h_new_runs h_w_same h_w_exact h_w_changed h_w_lots_of_run h_all_runs h_changed h_w_stays tree_w_stays_right
  have h_w_all_outs := has_w_all_outs (P := l.prog) (w := w) (base := base) (C := C) nm (raw r55) h_w_shelf h_w_runs h_w_exact h_lost_runs tree_w_all_outs
  exact law_fin (C := C) nm F56 ⟨_, _, g_purses, at_ a24, F24.kp, B24⟩ h_w_world h_w_sized h_w_stays_right h_w_all_outs tree_lawin
theorem walk {l : PySem.W.OpenLaw} {qq : Program} {loose : List Str} {XP : (Str → Option Value) → Heap → Prop} {YP : World → Heap → Prop} {d : DefRec} {K : Params → PySem.W.Frag} (hn : l.most = some 63) (hdf : d.params.defaults = [])
    (hY : ∀ (w : World) (h : Heap), YP w h → (K w.params).In h)
    (F : ∀ (w : World) (mg : Str → Option Value) (fa : Addr) (h : Heap), (K w.params).In h → h.Ns mainGlobals mg → mg d.name = some (.ref fa) →
      ∃ fd : FuncData, (∀ (s : Shared) (u : Value), BindsTo s fd ⟨[u], []⟩ [("_law_script", u)]) ∧ ∀ base : Heap, (K w.params).In base → base.Ns mainGlobals mg → FnOk l.prog w (K w.params) mg base CX0 11 fa fd ["_law_script"] (spLaw (K w.params))) :
    PySem.W.WalkO qq loose XP YP l.row.toRowW d [] (fun f vs => PySem.call f vs) :=
  L2.walk_of (n := 63) (k := 11) (x := "_law_script") (CX := fun _ => CX0) (sp := fun w => spLaw (K w.params)) hn (by decide) hdf ⟨rfl, by decide, by decide⟩ hY F (fun _ _ a ns hl _ hS => ⟨a, ns, rfl, hS, hl, fun _ => rfl⟩) fun _ _ _ _ _ z => z
end LW

-- Hd
set_option Elab.async false
set_option maxRecDepth 100000
open PyProof.Rows PySem PySem.W
set_option maxHeartbeats 0 in
open_top lawhd for PySem.Challenge.rw_runturns_k81_whole_runs_that_stay

-- Z
set_option Elab.async false
set_option maxRecDepth 100000
open PyProof.Rows PySem PySem.W
set_option maxHeartbeats 0 in
theorem PySem.Challenge.cw_runturns_k81_whole_runs_that_stay_holds : PySem.Challenge.rw_runturns_k81_whole_runs_that_stay.Holds := by
  refine lawhd ?_
  k_fill
  refine LW.walk (l := PySem.Challenge.rw_runturns_k81_whole_runs_that_stay) rfl rfl (fun w h Y => PySem.W.kIn_of Y) ?F
  case F =>
    intro w mg fa h KX G hmg
    refine' LW.all_mk KX G hmg ?aC ?aL ?aM ?ok ?fr ?tA_COUNTS_BEHIND ?tK_COUNTS_BEHIND ?r0 ?r1 ?r2 ?r3 ?r4 ?r5 ?r6 ?r7 ?r8 ?r9 ?r10 ?r11 ?r12 ?r13 ?r14 ?r15 ?r16 ?r17 ?r18 ?r19 ?r20 ?r21 ?r22 ?r23 ?r24 ?r25 ?r26 ?r27 ?r28 ?r29 ?r30 ?r31 ?r32 ?r33 ?r34 ?r35 ?r36 ?r37 ?r38 ?r39 ?r40 ?r41 ?r42 ?r43 ?r44 ?r45 ?r46 ?r47 ?r48 ?r49 ?r50 ?r51 ?r52 ?r53 ?r54 ?r55 ?r56 ?n0 ?n1 ?n2 ?n3
    (case aC => k_is)
    (case aL => k_is)
    (case aM => k_is)
    (case fr => kernel_rfl)
    (case tA_COUNTS_BEHIND => k_is)
    (case tK_COUNTS_BEHIND => refine' TL.kd_mk ?tl_COUNTS_BEHIND ?tz_COUNTS_BEHIND ?te_COUNTS_BEHIND ?td_COUNTS_BEHIND; (case tl_COUNTS_BEHIND => k_is); (case tz_COUNTS_BEHIND => kernel_rfl); (case te_COUNTS_BEHIND => exact ⟨⟨_, _, rfl⟩, ⟨_, _, rfl⟩, ⟨_, _, rfl⟩, ⟨_, _, rfl⟩, trivial⟩); (case td_COUNTS_BEHIND => decide))
    (case n0 => refine' LW.rawM_mk ?na0 ?ni0 ?nl0 ?nc0 ?nk0; (case na0 => k_is); (case ni0 => k_is); (case nl0 => k_is); (case nc0 => k_is); (case nk0 => k_is))
    (case n1 => refine' LW.rawM_mk ?na1 ?ni1 ?nl1 ?nc1 ?nk1; (case na1 => k_is); (case ni1 => k_is); (case nl1 => k_is); (case nc1 => k_is); (case nk1 => k_is))
    (case n2 => refine' LW.rawM_mk ?na2 ?ni2 ?nl2 ?nc2 ?nk2; (case na2 => k_is); (case ni2 => k_is); (case nl2 => k_is); (case nc2 => k_is); (case nk2 => k_is))
    (case n3 => refine' LW.rawM_mk ?na3 ?ni3 ?nl3 ?nc3 ?nk3; (case na3 => k_is); (case ni3 => k_is); (case nl3 => k_is); (case nc3 => k_is); (case nk3 => k_is))
    (case ok => kernel_rfl)
    (case r0 => refine' LW.rawN_mk ?ra0 ?rl0 ?rc0 ?rk0; (case ra0 => k_is); (case rl0 => k_is); (case rc0 => k_is); (case rk0 => k_is))
    (case r1 => refine' LW.rawN_mk ?ra1 ?rl1 ?rc1 ?rk1; (case ra1 => k_is); (case rl1 => k_is); (case rc1 => k_is); (case rk1 => k_is))
    (case r2 => refine' LW.rawN_mk ?ra2 ?rl2 ?rc2 ?rk2; (case ra2 => k_is); (case rl2 => k_is); (case rc2 => k_is); (case rk2 => k_is))
    (case r3 => refine' LW.rawN_mk ?ra3 ?rl3 ?rc3 ?rk3; (case ra3 => k_is); (case rl3 => k_is); (case rc3 => k_is); (case rk3 => k_is))
    (case r4 => refine' LW.rawN_mk ?ra4 ?rl4 ?rc4 ?rk4; (case ra4 => k_is); (case rl4 => k_is); (case rc4 => k_is); (case rk4 => k_is))
    (case r5 => refine' LW.rawN_mk ?ra5 ?rl5 ?rc5 ?rk5; (case ra5 => k_is); (case rl5 => k_is); (case rc5 => k_is); (case rk5 => k_is))
    (case r6 => refine' LW.rawN_mk ?ra6 ?rl6 ?rc6 ?rk6; (case ra6 => k_is); (case rl6 => k_is); (case rc6 => k_is); (case rk6 => k_is))
    (case r7 => refine' LW.rawN_mk ?ra7 ?rl7 ?rc7 ?rk7; (case ra7 => k_is); (case rl7 => k_is); (case rc7 => k_is); (case rk7 => k_is))
    (case r8 => refine' LW.rawN_mk ?ra8 ?rl8 ?rc8 ?rk8; (case ra8 => k_is); (case rl8 => k_is); (case rc8 => k_is); (case rk8 => k_is))
    (case r9 => refine' LW.rawN_mk ?ra9 ?rl9 ?rc9 ?rk9; (case ra9 => k_is); (case rl9 => k_is); (case rc9 => k_is); (case rk9 => k_is))
    (case r10 => refine' LW.rawN_mk ?ra10 ?rl10 ?rc10 ?rk10; (case ra10 => k_is); (case rl10 => k_is); (case rc10 => k_is); (case rk10 => k_is))
    (case r11 => refine' LW.rawN_mk ?ra11 ?rl11 ?rc11 ?rk11; (case ra11 => k_is); (case rl11 => k_is); (case rc11 => k_is); (case rk11 => k_is))
    (case r12 => refine' LW.rawN_mk ?ra12 ?rl12 ?rc12 ?rk12; (case ra12 => k_is); (case rl12 => k_is); (case rc12 => k_is); (case rk12 => k_is))
    (case r13 => refine' LW.rawN_mk ?ra13 ?rl13 ?rc13 ?rk13; (case ra13 => k_is); (case rl13 => k_is); (case rc13 => k_is); (case rk13 => k_is))
    (case r14 => refine' LW.rawN_mk ?ra14 ?rl14 ?rc14 ?rk14; (case ra14 => k_is); (case rl14 => k_is); (case rc14 => k_is); (case rk14 => k_is))
    (case r15 => refine' LW.rawN_mk ?ra15 ?rl15 ?rc15 ?rk15; (case ra15 => k_is); (case rl15 => k_is); (case rc15 => k_is); (case rk15 => k_is))
    (case r16 => refine' LW.rawN_mk ?ra16 ?rl16 ?rc16 ?rk16; (case ra16 => k_is); (case rl16 => k_is); (case rc16 => k_is); (case rk16 => k_is))
    (case r17 => refine' LW.rawN_mk ?ra17 ?rl17 ?rc17 ?rk17; (case ra17 => k_is); (case rl17 => k_is); (case rc17 => k_is); (case rk17 => k_is))
    (case r18 => refine' LW.rawN_mk ?ra18 ?rl18 ?rc18 ?rk18; (case ra18 => k_is); (case rl18 => k_is); (case rc18 => k_is); (case rk18 => k_is))
    (case r19 => refine' LW.rawN_mk ?ra19 ?rl19 ?rc19 ?rk19; (case ra19 => k_is); (case rl19 => k_is); (case rc19 => k_is); (case rk19 => k_is))
    (case r20 => refine' LW.rawN_mk ?ra20 ?rl20 ?rc20 ?rk20; (case ra20 => k_is); (case rl20 => k_is); (case rc20 => k_is); (case rk20 => k_is))
    (case r21 => refine' LW.rawN_mk ?ra21 ?rl21 ?rc21 ?rk21; (case ra21 => k_is); (case rl21 => k_is); (case rc21 => k_is); (case rk21 => k_is))
    (case r22 => refine' LW.rawN_mk ?ra22 ?rl22 ?rc22 ?rk22; (case ra22 => k_is); (case rl22 => k_is); (case rc22 => k_is); (case rk22 => k_is))
    (case r23 => refine' LW.rawN_mk ?ra23 ?rl23 ?rc23 ?rk23; (case ra23 => k_is); (case rl23 => k_is); (case rc23 => k_is); (case rk23 => k_is))
    (case r24 => refine' LW.rawN_mk ?ra24 ?rl24 ?rc24 ?rk24; (case ra24 => k_is); (case rl24 => k_is); (case rc24 => k_is); (case rk24 => k_is))
    (case r25 => refine' LW.rawN_mk ?ra25 ?rl25 ?rc25 ?rk25; (case ra25 => k_is); (case rl25 => k_is); (case rc25 => k_is); (case rk25 => k_is))
    (case r26 => refine' LW.rawN_mk ?ra26 ?rl26 ?rc26 ?rk26; (case ra26 => k_is); (case rl26 => k_is); (case rc26 => k_is); (case rk26 => k_is))
    (case r27 => refine' LW.rawN_mk ?ra27 ?rl27 ?rc27 ?rk27; (case ra27 => k_is); (case rl27 => k_is); (case rc27 => k_is); (case rk27 => k_is))
    (case r28 => refine' LW.rawN_mk ?ra28 ?rl28 ?rc28 ?rk28; (case ra28 => k_is); (case rl28 => k_is); (case rc28 => k_is); (case rk28 => k_is))
    (case r29 => refine' LW.rawN_mk ?ra29 ?rl29 ?rc29 ?rk29; (case ra29 => k_is); (case rl29 => k_is); (case rc29 => k_is); (case rk29 => k_is))
    (case r30 => refine' LW.rawN_mk ?ra30 ?rl30 ?rc30 ?rk30; (case ra30 => k_is); (case rl30 => k_is); (case rc30 => k_is); (case rk30 => k_is))
    (case r31 => refine' LW.rawN_mk ?ra31 ?rl31 ?rc31 ?rk31; (case ra31 => k_is); (case rl31 => k_is); (case rc31 => k_is); (case rk31 => k_is))
    (case r32 => refine' LW.rawN_mk ?ra32 ?rl32 ?rc32 ?rk32; (case ra32 => k_is); (case rl32 => k_is); (case rc32 => k_is); (case rk32 => k_is))
    (case r33 => refine' LW.rawN_mk ?ra33 ?rl33 ?rc33 ?rk33; (case ra33 => k_is); (case rl33 => k_is); (case rc33 => k_is); (case rk33 => k_is))
    (case r34 => refine' LW.rawN_mk ?ra34 ?rl34 ?rc34 ?rk34; (case ra34 => k_is); (case rl34 => k_is); (case rc34 => k_is); (case rk34 => k_is))
    (case r35 => refine' LW.rawN_mk ?ra35 ?rl35 ?rc35 ?rk35; (case ra35 => k_is); (case rl35 => k_is); (case rc35 => k_is); (case rk35 => k_is))
    (case r36 => refine' LW.rawN_mk ?ra36 ?rl36 ?rc36 ?rk36; (case ra36 => k_is); (case rl36 => k_is); (case rc36 => k_is); (case rk36 => k_is))
    (case r37 => refine' LW.rawN_mk ?ra37 ?rl37 ?rc37 ?rk37; (case ra37 => k_is); (case rl37 => k_is); (case rc37 => k_is); (case rk37 => k_is))
    (case r38 => refine' LW.rawN_mk ?ra38 ?rl38 ?rc38 ?rk38; (case ra38 => k_is); (case rl38 => k_is); (case rc38 => k_is); (case rk38 => k_is))
    (case r39 => refine' LW.rawN_mk ?ra39 ?rl39 ?rc39 ?rk39; (case ra39 => k_is); (case rl39 => k_is); (case rc39 => k_is); (case rk39 => k_is))
    (case r40 => refine' LW.rawN_mk ?ra40 ?rl40 ?rc40 ?rk40; (case ra40 => k_is); (case rl40 => k_is); (case rc40 => k_is); (case rk40 => k_is))
    (case r41 => refine' LW.rawN_mk ?ra41 ?rl41 ?rc41 ?rk41; (case ra41 => k_is); (case rl41 => k_is); (case rc41 => k_is); (case rk41 => k_is))
    (case r42 => refine' LW.rawN_mk ?ra42 ?rl42 ?rc42 ?rk42; (case ra42 => k_is); (case rl42 => k_is); (case rc42 => k_is); (case rk42 => k_is))
    (case r43 => refine' LW.rawN_mk ?ra43 ?rl43 ?rc43 ?rk43; (case ra43 => k_is); (case rl43 => k_is); (case rc43 => k_is); (case rk43 => k_is))
    (case r44 => refine' LW.rawN_mk ?ra44 ?rl44 ?rc44 ?rk44; (case ra44 => k_is); (case rl44 => k_is); (case rc44 => k_is); (case rk44 => k_is))
    (case r45 => refine' LW.rawN_mk ?ra45 ?rl45 ?rc45 ?rk45; (case ra45 => k_is); (case rl45 => k_is); (case rc45 => k_is); (case rk45 => k_is))
    (case r46 => refine' LW.rawN_mk ?ra46 ?rl46 ?rc46 ?rk46; (case ra46 => k_is); (case rl46 => k_is); (case rc46 => k_is); (case rk46 => k_is))
    (case r47 => refine' LW.rawN_mk ?ra47 ?rl47 ?rc47 ?rk47; (case ra47 => k_is); (case rl47 => k_is); (case rc47 => k_is); (case rk47 => k_is))
    (case r48 => refine' LW.rawN_mk ?ra48 ?rl48 ?rc48 ?rk48; (case ra48 => k_is); (case rl48 => k_is); (case rc48 => k_is); (case rk48 => k_is))
    (case r49 => refine' LW.rawN_mk ?ra49 ?rl49 ?rc49 ?rk49; (case ra49 => k_is); (case rl49 => k_is); (case rc49 => k_is); (case rk49 => k_is))
    (case r50 => refine' LW.rawN_mk ?ra50 ?rl50 ?rc50 ?rk50; (case ra50 => k_is); (case rl50 => k_is); (case rc50 => k_is); (case rk50 => k_is))
    (case r51 => refine' LW.rawN_mk ?ra51 ?rl51 ?rc51 ?rk51; (case ra51 => k_is); (case rl51 => k_is); (case rc51 => k_is); (case rk51 => k_is))
    (case r52 => refine' LW.rawN_mk ?ra52 ?rl52 ?rc52 ?rk52; (case ra52 => k_is); (case rl52 => k_is); (case rc52 => k_is); (case rk52 => k_is))
    (case r53 => refine' LW.rawN_mk ?ra53 ?rl53 ?rc53 ?rk53; (case ra53 => k_is); (case rl53 => k_is); (case rc53 => k_is); (case rk53 => k_is))
    (case r54 => refine' LW.rawN_mk ?ra54 ?rl54 ?rc54 ?rk54; (case ra54 => k_is); (case rl54 => k_is); (case rc54 => k_is); (case rk54 => k_is))
    (case r55 => refine' LW.rawN_mk ?ra55 ?rl55 ?rc55 ?rk55; (case ra55 => k_is); (case rl55 => k_is); (case rc55 => k_is); (case rk55 => k_is))
    (case r56 => refine' LW.rawN_mk ?ra56 ?rl56 ?rc56 ?rk56; (case ra56 => k_is); (case rl56 => k_is); (case rc56 => k_is); (case rk56 => k_is))

