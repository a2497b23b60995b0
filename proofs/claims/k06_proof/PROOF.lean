import PyProof.Rows.All
import Wide.All
import OpenK.AllK
import Wide.FinOn
import HandS.ForExc
import HandS.ExcInit
import HandS.ExcField
import HandS.ExcValue
import HandS.ForMost
import HandS.Wide
import HandS.WideBits
import HandS.Flow
import HandS.Text
import HandS.Style
import HandS.IsInst
import HandS.OwnEq
import HandS.Walk
import HandS.Lambda
import HandS.Sort
import HandS.SortOrd
import HandS.SortRule
import KE.KSortTupAny
import HandS.Strs
import HandS.Deep
import HandS.TupAny
import HandS.WordsDict
import KE.DataEq
import HandS.Conv
import PyProof.ListStr
import HandS.Zip
import HandS.NoneIn
import HandS.More
import PyProof.InstEq
import HandS.DictComp
import HandS.SortKw
import KE.DataMinKey
import KE.SortData
import KE.DataMinMax
import HandS.Dict
import HandS.TupLe
import KE.KRevSl
import KE.KSortKeySt
import PyProof.SliceSyntax
import HandS.EndTab
import HandS.TupLen
import PyProof.Rows.TupDisplay
import HandS.SetFor
import KE.KDictZip
import KE.KTurns
import HandS.GenList
import HandS.Iter
import HandS.Call
import PyProof.StrOps2
import HandS.ForDict
import KE.KDictPairs
import HandS.Finally
import HandS.ListItems
import HandS.Small
import KE.KEqNest
import KE.KDictSum
import KE.KDictKeyed
import KE.KDictCopyH
import HandS.TupMul
import PyProof.Conv_int_bool
import KE.DataFind
import HandS.ExcOwn
import HandS.MakeKw
import HandS.Defaults
import KE.KMathGC
import KE.KNestM
import PySem.Challenge.RW_runturns_k06_whole_shelves_numbered
-- EX1
section
set_option Elab.async false
set_option linter.all false
set_option maxRecDepth 100000
set_option maxHeartbeats 4000000
/-! EX1: an own exception that was caught and is kept in a name behind the suite -/
namespace L2
open PySem PySem.Spec PyProof.Rows
/-- an exception object of the class cls with the dict d at a, raised and caught -/
def ErO (cls : Value) (d : Option Addr) (a : Addr) : HO := .ext fun h => ∃ (oe : Obj) (vs : Array Value), h.get? a = some oe ∧ Zc cls d oe ∧ oe.data = .fields vs
theorem erO_ok {P : Program} {w : World} {H : Hp} {h : Heap} {a : Addr} {cls : Value} {d : Option Addr} {oe : Obj} {vs : Array Value} (e : h.get? a = some oe) (z : Zc cls d oe) (hd : oe.data = .fields vs) : ObjOk P w H h a (ErO cls d a) :=
  ⟨⟨oe, vs, e, z, hd⟩, ⟨oe, e⟩, fun _ _ ⟨o, v, q, r⟩ k => ⟨o, v, k o q, r⟩⟩
section
variable {X : Cx} {pins : List (Addr × Obj)} {σ : St} {H : Hp} {s : Shared}
/-- what is pinned may be tracked from now on, if it is new since the def began -/
theorem Inv.track {a : Addr} {oe : Obj} {vs : Array Value} {cls : Value} {d : Option Addr} (I : Inv X ((a, oe) :: pins) σ H s) (z : Zc cls d oe) (hd : oe.data = .fields vs) (n0 : X.s_0.heap.get? a = none) (np : ∀ p ∈ X.pn ++ pins, p.1 ≠ a) :
    Inv X pins σ (upd H a (ErO cls d a)) s := by
  obtain ⟨ha, hn, nL, nF, _⟩ := I.pin (a, oe) (List.mem_append_right _ List.mem_cons_self)
  have ne0 : ∀ b o, X.s_0.heap.get? b = some o → b ≠ a := fun b o e q => by
    rw [q, n0] at e
    cases e
  refine ⟨I.ok, I.os, I.bare, ⟨I.base.keep, I.base.slot, fun b o e n q => ?_, I.base.there, fun b xs e => ?_, fun b o xs e => ?_, fun b ps e => ?_⟩, I.loc, I.cell, ?_, fun x c e => ?_, fun p hp => ?_, I.hok.laidN (fun _ _ e => e) hn (erO_ok ha z hd), I.len⟩
  · rw [upd_ne (ne0 b o e)]
    exact I.base.free b o e n q
  · have q := I.base.tups b xs e
    rw [upd_ne (ne_of_none q hn)]
    exact q
  · have q := I.base.frzs b o xs e
    rw [upd_ne (ne_of_none q hn)]
    exact q
  · obtain ⟨m, q⟩ := I.base.tbls b ps e
    exact ⟨m, by rw [upd_ne (ne_of_none q hn)]; exact q⟩
  · rw [upd_ne (fun q => nL q.symm)]
    exact I.free
  · have nc : c ≠ a := fun q => by
      obtain ⟨v, o, ho, hv⟩ := I.cell x c e
      rw [q, ha] at ho
      cases ho
      rw [hd] at hv
      cases hv
    rw [upd_ne nc]
    exact I.freeC x c e
  · obtain ⟨e, n, r⟩ := I.pin p ((List.mem_append.1 hp).elim (fun q => List.mem_append_left _ q) fun q => List.mem_append_right _ (List.mem_cons_of_mem _ q))
    exact ⟨e, by rw [upd_ne (np p hp)]; exact n, r⟩
/-- what the clause 'except x as n' wishes: the exception is tracked behind the suite -/
def wAsE (K : PySem.W.Frag) (c : Value) (i : Nat) (ts : Addr → Value → Option Addr → TS) (Wout : WX) (D : Ends) : WX := fun cls d σ H =>
  ∃ b, PySem.W.exmOne K cls c = some b ∧ (b = true → ∀ a, H a = none → ts a cls d { nx := fun σ' H' => H' a = none → D.nx (σ'.set i none) (upd H' a (ErO cls d a)), rt := D.rt, bk := fun σ' H' => D.bk (σ'.set i none) H', ct := fun σ' H' => D.ct (σ'.set i none) H' } (σ.set i (some (.ref a))) H) ∧
    (b = false → Wout cls d σ H)
variable {x n : Str} {c : Value} {i : Nat} {body suite : List Stmt} {b₀ : Stmt} {np pos pos' : Pos} {tb : WX → TS} {ts : Addr → Value → Option Addr → TS} {Wout : WX}
theorem ps_try_asE (hs : X.stack = X.env :: X.outer) (hf : X.env.frame = some X.env.locals) (hN : X.N.Nodup) (hi : X.N[i]? = some n) (hln : X.env.kindOf n = some .local) (hc : Names X x c) (tk : Takes X Wout)
    (hb : ∀ (W : WX) (pn : List (Addr × Obj)) (xe : Value → Shared → Prop), Takes (X.tr pn xe) W → PassesOwn (model X.prog X.w) X.A X.env xe → PSs (X.tr pn xe) body (tb W))
    (hsu : ∀ (a : Addr) (oe : Obj) (cls : Value) (d : Option Addr) (pn : List (Addr × Obj)), Zc cls d oe → (∃ vs, oe.data = .fields vs) → PSs (X.suite a ((a, oe) :: pn)) (b₀ :: suite) (ts a cls d)) (hex : X.ex = []) :
    PS X (.Try body [.ExceptHandler (some (.Name x np)) (some n) (b₀ :: suite) pos'] [] [] pos) (fun D σ H => tb (wAsE X.K c i ts Wout D) D σ H) := by
  refine ⟨fun pins s σ H D I h => ?_⟩
  have ok := I.ok
  have hfr : X.A.frames = some (X.env :: X.outer) := by rw [ok.frames, hs]
  have hloc : Loc X.env.scope n := .inl hln
  refine wpAny_Try_except ?_
  refine wpAny_mono ((hb (wAsE X.K c i ts Wout D) (X.pn ++ pins) (fun e s₁ => wpAny (model X.prog X.w) X.A (noteFrame e X.env) (fun _ s₂ => wpAny (model X.prog X.w) X.A (setFlight e none) (fun _ s₃ =>
    wpAny (model X.prog X.w) X.A (handleBy e X.env [.ExceptHandler (some (.Name x np)) (some n) (b₀ :: suite) pos']) (SP X pins D) X.xe s₃) X.xe s₂) X.xe s₁) (fun u s' xx => ?_) PassesOwn.looking).run [] s σ H D (I.toTry _) h) (fun f s1 hsp => ?_) (fun e s1 he => he)
  · -- the catch
    obtain ⟨a, B, sI, pins', σ', H', cls, d, rfl, J', nb, up, sky, na, os, ag, b, hb1, hyes, hno⟩ := xx
    have J : Inv X pins σ' H' sI := J'.ofTry ok
    have sky' : Sky B (X.env :: X.outer) a (Zc cls d) X.env.locals s'.heap := by rw [← hs]; exact sky
    show wpAny (model X.prog X.w) X.A (noteFrame (.ref a) X.env) _ _ _
    refine Sky.land Zc.steady hfr hf sky' fun h3 fl3 up3 => ?_
    have J3 : Inv X pins σ' H' { s' with heap := h3 } := J.landed nb fl3.1 (up.trans up3) os ag
    obtain ⟨oe3, vs3, he3, hz3, hd3⟩ := fl3.there
    have notFr : ∀ {h : Heap} {o : Obj} {vs : Array Value}, h.FunFrames B (X.env :: X.outer) → h.get? a = some o → o.data = .fields vs → a ∉ frs (X.env :: X.outer) := fun {h o vs} ff e dd hm => by
      obtain ⟨_, o', e', hnf⟩ := ff.mem hm
      rw [e] at e'; cases e'
      exact hnf _ dd
    have nfr := notFr fl3.2.2.1 he3 hd3
    have nL : a ≠ X.env.locals := fun z => nfr (List.mem_filterMap.mpr ⟨X.env, List.mem_cons_self, by rw [hf, z]⟩)
    have nF : a ∉ X.fs := fun hm => by
      obtain ⟨e, he, q⟩ := List.mem_filterMap.mp hm
      exact nfr (List.mem_filterMap.mpr ⟨e, List.mem_cons_of_mem _ he, q⟩)
    have S3 := J3.suite he3 hd3 na nL nF
    have nB : B.get? a = none := fl3.2.1
    have nI : sI.heap.get? a = none := by
      cases e : sI.heap.get? a with
      | none => rfl
      | some o =>
        have := nb a o e (by rw [hs]; exact nfr)
        rw [nB] at this
        cases this
    have n0 : X.s_0.heap.get? a = none := by
      cases e : X.s_0.heap.get? a with
      | none => rfl
      | some o =>
        obtain ⟨o', q⟩ := J.base.there a o e (by rw [hex]; exact fun z => nomatch z)
        rw [nI] at q
        cases q
    have npn : ∀ p ∈ X.pn ++ pins, p.1 ≠ a := fun p hp z => by
      obtain ⟨e, _⟩ := J.pin p hp
      rw [z, nI] at e
      cases e
    refine wpAny_handleBy_cons (codeAny_handlers_test ?_) (by intro q; cases q)
    have LT : PySem.W.Looks (model X.prog X.w) h3 (typeOf (.ref a)) cls := fun A Q E s k q => wpAny_typeOf_ref (k _ _ he3) (by rw [hz3.1]; exact q)
    have LM := PySem.W.exm_one (M := model X.prog X.w) (J3.kIn) LT hb1
    have test : ∀ {Q : Value → Shared → Prop} {E : Value → Shared → Prop}, Q c { s' with heap := h3 } → wpAny (model X.prog X.w) (X.A.mark (some (.ref a))) (eval (.Name x np) X.env) Q E { s' with heap := h3 } := fun {Q E} q => by
      obtain ⟨hg, hdbg, hm | ⟨hm, hv, hnn⟩⟩ := hc
      · exact ld_glob (X := X.suite a ((a, oe3) :: (X.pn ++ pins))) S3 hg hm q hdbg
      · exact ld_blt (X := X.suite a ((a, oe3) :: (X.pn ++ pins))) S3 hg hm hv q hnn hdbg
    refine test (LM.here ?_)
    cases b with
    | true =>
      refine codeAny_handlers_suite_as ?_
      refine HandSPX.lands_againZ fl3 fun h4 fl4 up4 => ?_
      have J4 : Inv X pins σ' H' { s' with heap := h4 } := J.landed nb fl4.1 ((up.trans up3).trans up4) os ag
      obtain ⟨oe4, vs4, he4, hz4, hd4⟩ := fl4.there
      have S4 := J4.suite he4 hd4 na nL nF
      refine store_ok (X := X.suite a ((a, oe4) :: (X.pn ++ pins))) (v := .ref a) S4 hN hi hloc rfl (fun s5 S5 => ?_) (.inr hln)
      refine wpAny_mono ((hsu a oe4 cls d (X.pn ++ pins) hz4 ⟨_, hd4⟩).run [] s5 _ H' _ S5 (hyes rfl a na)) (fun f s6 hsp => ?_) (fun _ _ z => False.elim z)
      have end_ : ∀ {σ6 : St} {H6 : Hp} {Q : Shared → Prop}, Inv (X.suite a ((a, oe4) :: (X.pn ++ pins))) [] σ6 H6 s6 → (∀ s7, Inv X pins (σ6.set i none) H6 s7 → Q s7) →
          wpAny (model X.prog X.w) X.A (do bindName X.env n .none; unbindBehindTheSuite X.env n pos') (fun _ s7 => Q s7) X.xe s6 := fun {σ6 H6 Q} S6 hq => gone_ok (S6.unsuite ok) hN hi hln hq
      have endE : ∀ {σ6 : St} {H6 : Hp} {Q : Shared → Prop}, Inv (X.suite a ((a, oe4) :: (X.pn ++ pins))) [] σ6 H6 s6 → (∀ s7, H6 a = none → Inv X pins (σ6.set i none) (upd H6 a (ErO cls d a)) s7 → Q s7) →
          wpAny (model X.prog X.w) X.A (do bindName X.env n .none; unbindBehindTheSuite X.env n pos') (fun _ s7 => Q s7) X.xe s6 := fun {σ6 H6 Q} S6 hq => by
        have J6 : Inv X ((a, oe4) :: pins) σ6 H6 s6 := ⟨ok, S6.os, S6.bare, S6.base, S6.loc, S6.cell, S6.free, S6.freeC, fun p hp => S6.pin p (List.mem_append_left _ ((List.mem_append.1 hp).elim (fun q => List.mem_cons_of_mem _ (List.mem_append_left _ q)) fun q => (List.mem_cons.1 q).elim (fun q => by rw [q]; exact List.mem_cons_self) fun q => List.mem_cons_of_mem _ (List.mem_append_right _ q))), S6.hok, S6.len⟩
        exact gone_ok J6 hN hi hln fun s7 J7 => hq s7 (J6.pin (a, oe4) (List.mem_append_right _ List.mem_cons_self)).2.1 (J7.track hz4 hd4 n0 npn)
      cases f with
      | next =>
        obtain ⟨σ6, H6, S6, q6⟩ := hsp
        exact endE S6 fun s7 n7 J7 => ⟨_, _, J7, q6 n7⟩
      | brk =>
        obtain ⟨σ6, H6, S6, q6⟩ := hsp
        exact end_ S6 fun s7 J7 => ⟨_, _, J7, q6⟩
      | cont =>
        obtain ⟨σ6, H6, S6, q6⟩ := hsp
        exact end_ S6 fun s7 J7 => ⟨_, _, J7, q6⟩
      | ret u =>
        obtain ⟨v6, σ6, H6, S6, r6, q6⟩ := hsp
        exact end_ S6 fun s7 J7 => ⟨_, _, _, J7, r6, q6⟩
    | false =>
      show wpAny _ X.A (handleBy (.ref a) X.env []) _ _ _
      refine wpAny_handleBy_nil ?_
      obtain ⟨k1, k2, k3, oe, vs, T, oT, ts', he, hz, hd, h1, hr⟩ := id fl3
      unfold PySem.passOn
      refine wpAny_bind (wpAny_field he hd h1 ?_)
      rw [if_neg (show ¬ ((Value.ref T == Value.none) = true) from by simp)]
      have fin : wpAny (model X.prog X.w) X.A (setFlight (.ref a) X.env.frame) (fun _ s4 => wpAny (model X.prog X.w) X.A (throw (.ref a) : Sem Flow) (SP X pins D) X.xe s4) X.xe { s' with heap := h3 } := by
        rw [hf]
        refine HandSPX.setFlight_upZ fl3 fun h4 hh4 up4 => wpAny_throw (tk _ _ ?_)
        exact ⟨a, B, sI, pins, σ', H', cls, d, rfl, J, nb, (up.trans up3).trans up4, .inr (.inr (by rw [hs]; exact hh4)), na, os, ag, hno rfl⟩
      first
        | exact wpAny_bind (wpAny_pure (wpAny_bind fin))
        | exact wpAny_bind fin
  · cases f with
    | next =>
      obtain ⟨σ', H', J', q⟩ := hsp
      exact wpAny_execs_nil ⟨σ', H', J'.ofTry ok, q⟩
    | brk =>
      obtain ⟨σ', H', J', q⟩ := hsp
      exact ⟨σ', H', J'.ofTry ok, q⟩
    | cont =>
      obtain ⟨σ', H', J', q⟩ := hsp
      exact ⟨σ', H', J'.ofTry ok, q⟩
    | ret u =>
      obtain ⟨v, σ', H', J', r, q⟩ := hsp
      exact ⟨v, σ', H', J'.ofTry ok, r, q⟩
/-! ### a field of an exception that was caught -/
def tXv (C : Addr → Prop) (f : Str) (te : TE) : TE := fun σ H Q => te σ H fun x H1 => ∃ (a c dd : Addr) (fs : List (Str × V)) (v : V), x = .ref a ∧ C c ∧ H1 a = some (ErO (.ref c) (some dd) a) ∧ H1 dd = some (.xd fs) ∧ fs.lookup f = some v ∧ Q v H1
theorem pe_xv_ {C : Addr → Prop} {e : Expr} {te : TE} {pos : Pos} {n : Str} (T : ∀ c, C c → XfC X.K c ∧ PySem.W.findIn X.K (.ref c) n = some none) (he : PE X e te) (hb : attributeBase e n X.env (eval e X.env) = eval e X.env := by rfl) :
    PE X (.Attribute e n pos) (tXv C n te) := by
  refine ⟨fun pins s σ H Q I h => ?_⟩
  refine attr_of hb (thn (he.run pins s σ H _ I h) fun u s1 hh => ?_)
  obtain ⟨x, H1, I1, rx, a, c, dd, fs, v, ex, hc, ea, ed, l, q⟩ := hh
  subst ex
  obtain rfl : u = Value.ref a := rx
  obtain ⟨⟨oe, vs, ha, hz, hd⟩, _, _⟩ := I1.hok a _ ea
  have hx : ObjOk X.prog X.w H1 s1.heap dd (.xd fs) := I1.hok dd _ ed
  obtain ⟨mA, hns, hr⟩ := hx
  obtain ⟨od, ho, hl⟩ := lookIn_ns hns
  obtain ⟨u, hu, ru⟩ := RelO.some_of (v := v) (o := mA n) (by rw [← l]; exact hr n)
  have J : PySem.W.InstAt s1.heap a oe c (some od) := ⟨ha, hz.1, by unfold PySem.W.notCls; rw [hd] <;> rfl, by rw [hz.2]; exact ho⟩
  obtain ⟨t1, t2⟩ := T c hc
  exact HandSPX.exc_get I1.kIn J t1.ga t1.gg t1.exC (PySem.W.findObj_own t1.hdC t2 rfl (by rw [hl, hu])) (handed_of ru) ⟨v, H1, I1.tok _, ru, q⟩
end
end L2
end
-- TL0
section
set_option Elab.async false
set_option linter.all false
set_option maxRecDepth 100000
set_option maxHeartbeats 4100000
/-! TL: what a def does, told by trees. Values without addresses (D), the slots' kinds (Rv), a reading held against a tree's reading. -/
namespace TL
open L2 PyProof.Rows PySem PySem.Spec
/-- a value as a tree -/
inductive D where
  | non | bl (b : Bool) | int (i : Int) | str (s : Str)
  | lst (ds : List D) | tup (ds : List D)
  | dk (ks : List Key) (ds : List D) | dt (ks : List (List Key)) (ds : List D)
  | sh (xs ys : List Str)
  | ob (c : Addr) (ns : List Str) (ds : List D)
  | purse
  | pin (a : Addr)
  | er (c : Addr) (d : D)
/-- how a value is held: shared; the only one that knows it; lent by the caller; a look at an own one -/
inductive Rv where
  | val (d : D) | new (d : D) | bor (d : D) | tmp (d : D)
@[simp] def Rv.d : Rv → D
  | .val d => d
  | .new d => d
  | .bor d => d
  | .tmp d => d
/-- a purse at p -/
def PurseAt (H : Hp) (p : Addr) (b : Int) : Prop := ∃ p0 p1 p2 p3 : Int, H p = some (.lst [.int p0, .int p1, .int p2, .int p3]) ∧ 0 ≤ p1 ∧ p1 < 2147483648 ∧ 0 ≤ p2 ∧ p2 ≤ b ∧ 0 ≤ p3 ∧ p3 ≤ 1000
/-- a purse from which so many draws may still be made -/
def PAt0 : Option Addr → Hp → Nat → Prop
  | none, _, _ => True
  | some a, H, n => ∃ b : Int, PurseAt H a b ∧ b + (n : Int) ≤ 2 ^ 40
/-- what may be written by any def: a purse, tables of code objects -/
structure Pz where
  pu : Option Addr
/-- the tables of code objects that lambdas write in, with the lambdas' names -/
class Tb where
  T : List (Addr × Str)
variable [Tb]
def Pz.tb (_ : Pz) : List (Addr × Str) := Tb.T
def Pz.On (z : Pz) (a : Addr) : Prop := z.pu = some a ∨ ∃ q ∈ z.tb, q.1 = a
def PAt (z : Pz) (H : Hp) (n : Nat) : Prop := PAt0 z.pu H n ∧ LamX.Tabs z.tb H
/-- all but these stays -/
def Bt (p : Pz) (H H' : Hp) : Prop := ∀ c o, ¬ p.On c → H c = some o → H' c = some o
theorem Bt.refl {p : Pz} {H : Hp} : Bt p H H := fun _ _ _ e => e
theorem Bt.trans {p : Pz} {H H1 H2 : Hp} (a : Bt p H H1) (b : Bt p H1 H2) : Bt p H H2 := fun c o n e => b c o n (a c o n e)
theorem Bt.same {p : Pz} {H H' : Hp} (h : Same H H') : Bt p H H' := fun c o _ e => h c o e
theorem same_upd {H : Hp} {o : HO} {p : Addr} (h : H p = none) : Same H (upd H p o) := fun b x e => by
  rw [upd_ne (ne_of_none e h)]
  exact e
theorem PAt.at {p : Pz} {a : Addr} {H : Hp} {n : Nat} (h : PAt p H n) (e : p.On a) : ∃ o, H a = some o := by
  rcases e with e | ⟨q, hq, e⟩
  · have h := h.1
    rw [e] at h
    obtain ⟨b, ⟨_, _, _, _, hp, _⟩, _⟩ := h
    exact ⟨_, hp⟩
  · obtain ⟨ps, h1, _⟩ := h.2 q hq
    rw [e] at h1
    exact ⟨_, h1⟩
theorem PAt0.same {p : Option Addr} {H H' : Hp} {n : Nat} (e : Same H H') (h : PAt0 p H n) : PAt0 p H' n := by
  cases p with
  | none => trivial
  | some a =>
    obtain ⟨b, ⟨p0, p1, p2, p3, hp, r⟩, q⟩ := h
    exact ⟨b, ⟨p0, p1, p2, p3, e _ _ hp, r⟩, q⟩
theorem PAt.same {p : Pz} {H H' : Hp} {n : Nat} (e : Same H H') (h : PAt p H n) : PAt p H' n := ⟨h.1.same e, h.2.ext e⟩
theorem PAt0.le {p : Option Addr} {H : Hp} {n m : Nat} (h : PAt0 p H n) (hm : m ≤ n) : PAt0 p H m := by
  cases p with
  | none => trivial
  | some a =>
    obtain ⟨b, q, z⟩ := h
    exact ⟨b, q, by omega⟩
theorem PAt.le {p : Pz} {H : Hp} {n m : Nat} (h : PAt p H n) (hm : m ≤ n) : PAt p H m := ⟨h.1.le hm, h.2⟩
/-- tables stay when something else is written that is no code object -/
theorem tabs_put {T : List (Addr × Str)} {H H' : Hp} {a : Addr} {o : HO} (h : LamX.Tabs T H) (na : ∀ q ∈ T, q.1 ≠ a) (ha : H a = some o) (nx : ∀ φ, o ≠ .ext φ) (k : ∀ b u, b ≠ a → H b = some u → H' b = some u) : LamX.Tabs T H' := fun q hq => by
  obtain ⟨ps, h1, h2, h3⟩ := h q hq
  refine ⟨ps, k _ _ (na q hq) h1, h2, fun pos cv hc => ?_⟩
  obtain ⟨c, e1, e2⟩ := h3 pos cv hc
  refine ⟨c, e1, k _ _ (fun z => ?_) e2⟩
  rw [z, ha] at e2
  exact nx _ (Option.some.inj e2)
theorem PAt.put {p : Pz} {H : Hp} {n : Nat} {a : Addr} {o o0 : HO} (h : PAt p H n) (np : ¬ p.On a) (ha : H a = some o0) (nx : ∀ φ, o0 ≠ .ext φ := by intro φ z; cases z) : PAt p (upd H a o) n := by
  refine ⟨?_, tabs_put h.2 (fun q hq e => np (.inr ⟨q, hq, e⟩)) ha nx fun b u ne e => by rw [upd_ne ne]; exact e⟩
  have h := h.1
  cases hp : p.pu with
  | none => trivial
  | some b =>
    rw [hp] at h
    obtain ⟨k, ⟨p0, p1, p2, p3, h1, h2⟩, h3⟩ := h
    exact ⟨k, ⟨p0, p1, p2, p3, by rw [upd_ne fun z => np (.inl (by rw [hp, z]))]; exact h1, h2⟩, h3⟩
/-- what was free stays so, seen backwards -/
theorem Bt.free {p : Pz} {H H' : Hp} (e : Bt p H H') (hp : ∀ a, p.On a → ∃ o, H' a = some o) {c : Addr} (h : H' c = none) : H c = none := by
  cases q : H c with
  | none => rfl
  | some o =>
    by_cases z : p.On c
    · obtain ⟨o', e'⟩ := hp c z
      rw [h] at e'
      cases e'
    · rw [e c o z q] at h
      cases h
section
variable (p : Pz) (C : Addr) (W : Addr → Prop) (H : Hp)
mutual
/-- v is the tree d, nothing of it in W -/
def Rep : D → V → Prop
  | .non, v => v = .non
  | .bl b, v => v = .bl b
  | .int i, v => v = .int i
  | .str s, v => v = .str s
  | .lst ds, v => ∃ a, v = .ref a ∧ ¬ W a ∧ ∃ vs, H a = some (.lst vs) ∧ RepL ds vs
  | .tup ds, v => ∃ a, v = .ref a ∧ ¬ W a ∧ ∃ vs, H a = some (.tup vs) ∧ RepL ds vs
  | .dk ks ds, v => ∃ a, v = .ref a ∧ ¬ W a ∧ ∃ vs, Rd H a (.dK (ks.zip vs)) ∧ ks.length = ds.length ∧ RepL ds vs
  | .dt ks ds, v => ∃ a, v = .ref a ∧ ¬ W a ∧ ∃ vs, H a = some (.dT (ks.zip vs)) ∧ ks.length = ds.length ∧ RepL ds vs
  | .sh xs ys, v => ∃ a, v = .ref a ∧ ¬ W a ∧ ∃ dx c r, H a = some (.ins C dx [("_catalogue", .ref c), ("_row", .ref r)]) ∧ H c = some (.lst (xs.map V.str)) ∧ H r = some (.lst (ys.map V.str)) ∧ ¬ W c ∧ ¬ W r
  | .ob c ns ds, v => ∃ a, v = .ref a ∧ ¬ W a ∧ ∃ dx vs, H a = some (.ins c dx (ns.zip vs)) ∧ ns.length = ds.length ∧ RepL ds vs
  | .purse, v => ∃ a, v = .ref a ∧ p.pu = some a
  | .pin a, v => v = .ref a ∧ ¬ W a ∧ ∃ o, H a = some o
  | .er c d, v => ∃ a, v = .ref a ∧ ¬ W a ∧ ∃ dd w, H a = some (ErO (.ref c) (some dd) a) ∧ ¬ W dd ∧ H dd = some (.xd [("value", w)]) ∧ Rep d w
def RepL : List D → List V → Prop
  | [], vs => vs = []
  | d :: r, vs => ∃ v vr, vs = v :: vr ∧ Rep d v ∧ RepL r vr
end
/-- what stands at a is the tree d, nothing within in W -/
def RepO (a : Addr) : D → Prop
  | .lst ds => ∃ vs, H a = some (.lst vs) ∧ RepL p C W H ds vs
  | .tup ds => ∃ vs, H a = some (.tup vs) ∧ RepL p C W H ds vs
  | .dk ks ds => ∃ vs, H a = some (.dK (ks.zip vs)) ∧ ks.length = ds.length ∧ RepL p C W H ds vs
  | .dt ks ds => ∃ vs, H a = some (.dT (ks.zip vs)) ∧ ks.length = ds.length ∧ RepL p C W H ds vs
  | .sh xs ys => ∃ dx c r, H a = some (.ins C dx [("_catalogue", .ref c), ("_row", .ref r)]) ∧ H c = some (.lst (xs.map V.str)) ∧ H r = some (.lst (ys.map V.str)) ∧ ¬ W c ∧ ¬ W r
  | .ob c ns ds => ∃ dx vs, H a = some (.ins c dx (ns.zip vs)) ∧ ns.length = ds.length ∧ RepL p C W H ds vs
  | _ => False
/-- what may be read at a is the tree d, nothing within in W: a dict may be locked -/
def RepV (a : Addr) : D → Prop
  | .dk ks ds => ∃ vs, Rd H a (.dK (ks.zip vs)) ∧ ks.length = ds.length ∧ RepL p C W H ds vs
  | .dt ks ds => ∃ vs, H a = some (.dT (ks.zip vs)) ∧ ks.length = ds.length ∧ RepL p C W H ds vs
  | d => RepO p C W H a d
/-- v is the tree d; its own place may be in W -/
def View (d : D) (v : V) : Prop := Rep p C W H d v ∨ ∃ a, v = .ref a ∧ ¬ p.On a ∧ RepV p C W H a d
end
theorem rd_mv {H H' : Hp} {a : Addr} {u : HO} (k : ∀ o, H a = some o → H' a = some o) (r : Rd H a u) : Rd H' a u := r.elim (fun e => .inl (k _ e)) fun ⟨o, e⟩ => .inr ⟨o, k _ e⟩
theorem rd_at {H : Hp} {a : Addr} {u : HO} (r : Rd H a u) : ∃ o, H a = some o := r.elim (fun e => ⟨_, e⟩) fun ⟨o, e⟩ => ⟨_, e⟩
theorem rd_key {W W' : Addr → Prop} {H H' : Hp} {a : Addr} {u : HO} (k : ∀ c o, ¬ W c → H c = some o → ¬ W' c ∧ H' c = some o) (na : ¬ W a) (r : Rd H a u) : ¬ W' a ∧ Rd H' a u := by
  obtain ⟨o, e⟩ := rd_at r
  exact ⟨(k a o na e).1, rd_mv (fun o e => (k a o na e).2) r⟩
section
variable {p : Pz} {C : Addr} {W W' : Addr → Prop} {H H' : Hp}
mutual
theorem Rep.mono (k : ∀ c o, ¬ W c → H c = some o → ¬ W' c ∧ H' c = some o) : ∀ {d : D} {v : V}, Rep p C W H d v → Rep p C W' H' d v
  | .non, _, h => h
  | .bl _, _, h => h
  | .int _, _, h => h
  | .str _, _, h => h
  | .lst ds, _, ⟨a, e, na, vs, ha, r⟩ => ⟨a, e, (k _ _ na ha).1, vs, (k _ _ na ha).2, RepL.mono k r⟩
  | .tup ds, _, ⟨a, e, na, vs, ha, r⟩ => ⟨a, e, (k _ _ na ha).1, vs, (k _ _ na ha).2, RepL.mono k r⟩
  | .dk ks ds, _, ⟨a, e, na, vs, ha, l, r⟩ => ⟨a, e, (rd_key k na ha).1, vs, (rd_key k na ha).2, l, RepL.mono k r⟩
  | .dt ks ds, _, ⟨a, e, na, vs, ha, l, r⟩ => ⟨a, e, (k _ _ na ha).1, vs, (k _ _ na ha).2, l, RepL.mono k r⟩
  | .sh xs ys, _, ⟨a, e, na, dx, c, r, ha, hc, hr, nc, nr⟩ => ⟨a, e, (k _ _ na ha).1, dx, c, r, (k _ _ na ha).2, (k _ _ nc hc).2, (k _ _ nr hr).2, (k _ _ nc hc).1, (k _ _ nr hr).1⟩
  | .ob _ _ ds, _, ⟨a, e, na, dx, vs, ha, l, r⟩ => ⟨a, e, (k _ _ na ha).1, dx, vs, (k _ _ na ha).2, l, RepL.mono k r⟩
  | .purse, _, h => h
  | .pin _, _, ⟨e, na, o, h⟩ => ⟨e, (k _ _ na h).1, o, (k _ _ na h).2⟩
  | .er _ _, _, ⟨a, e, na, dd, w, ha, nd, hd, r⟩ => ⟨a, e, (k _ _ na ha).1, dd, w, (k _ _ na ha).2, (k _ _ nd hd).1, (k _ _ nd hd).2, Rep.mono k r⟩
theorem RepL.mono (k : ∀ c o, ¬ W c → H c = some o → ¬ W' c ∧ H' c = some o) : ∀ {ds : List D} {vs : List V}, RepL p C W H ds vs → RepL p C W' H' ds vs
  | [], _, h => h
  | _ :: _, _, ⟨v, vr, e, h, r⟩ => ⟨v, vr, e, Rep.mono k h, RepL.mono k r⟩
end
/-- the object itself may be in W -/
theorem RepO.mono {a : Addr} (k : ∀ c o, ¬ W c → H c = some o → ¬ W' c ∧ H' c = some o) (ka : ∀ o, H a = some o → H' a = some o) : ∀ {d : D}, RepO p C W H a d → RepO p C W' H' a d
  | .non, h => h
  | .bl _, h => h
  | .int _, h => h
  | .str _, h => h
  | .lst ds, ⟨vs, ha, r⟩ => ⟨vs, ka _ ha, RepL.mono k r⟩
  | .tup ds, ⟨vs, ha, r⟩ => ⟨vs, ka _ ha, RepL.mono k r⟩
  | .dk ks ds, ⟨vs, ha, l, r⟩ => ⟨vs, ka _ ha, l, RepL.mono k r⟩
  | .dt ks ds, ⟨vs, ha, l, r⟩ => ⟨vs, ka _ ha, l, RepL.mono k r⟩
  | .sh xs ys, ⟨dx, c, r, ha, hc, hr, nc, nr⟩ => ⟨dx, c, r, ka _ ha, (k _ _ nc hc).2, (k _ _ nr hr).2, (k _ _ nc hc).1, (k _ _ nr hr).1⟩
  | .ob _ _ ds, ⟨dx, vs, ha, l, r⟩ => ⟨dx, vs, ka _ ha, l, RepL.mono k r⟩
  | .purse, h => h
  | .pin _, h => h
  | .er _ _, h => h
theorem RepV.mono {a : Addr} (k : ∀ c o, ¬ W c → H c = some o → ¬ W' c ∧ H' c = some o) (ka : ∀ o, H a = some o → H' a = some o) : ∀ {d : D}, RepV p C W H a d → RepV p C W' H' a d
  | .non, h => h
  | .bl _, h => h
  | .int _, h => h
  | .str _, h => h
  | .lst ds, h => RepO.mono (p := p) (d := .lst ds) k ka h
  | .tup ds, h => RepO.mono (p := p) (d := .tup ds) k ka h
  | .dk ks ds, ⟨vs, ha, l, r⟩ => ⟨vs, rd_mv ka ha, l, RepL.mono k r⟩
  | .dt ks ds, ⟨vs, ha, l, r⟩ => ⟨vs, ka _ ha, l, RepL.mono k r⟩
  | .sh xs ys, h => RepO.mono (p := p) (d := .sh xs ys) k ka h
  | .ob c ns ds, h => RepO.mono (p := p) (d := .ob c ns ds) k ka h
  | .purse, h => h
  | .pin _, h => h
  | .er _ _, h => h
theorem RepO.v {a : Addr} : ∀ {d : D}, RepO p C W H a d → RepV p C W H a d
  | .non, h => h
  | .bl _, h => h
  | .int _, h => h
  | .str _, h => h
  | .lst _, h => h
  | .tup _, h => h
  | .dk ks ds, ⟨vs, ha, l, r⟩ => ⟨vs, .inl ha, l, r⟩
  | .dt ks ds, ⟨vs, ha, l, r⟩ => ⟨vs, ha, l, r⟩
  | .sh _ _, h => h
  | .ob _ _ _, h => h
  | .purse, h => h
  | .pin _, h => h
  | .er _ _, h => h
theorem RepV.at {a : Addr} : ∀ {d : D}, RepV p C W H a d → ∃ o, H a = some o
  | .non, h => h.elim
  | .bl _, h => h.elim
  | .int _, h => h.elim
  | .str _, h => h.elim
  | .lst ds, ⟨vs, ha, r⟩ => ⟨_, ha⟩
  | .tup ds, ⟨vs, ha, r⟩ => ⟨_, ha⟩
  | .dk ks ds, ⟨vs, ha, l, r⟩ => rd_at ha
  | .dt ks ds, ⟨vs, ha, l, r⟩ => ⟨_, ha⟩
  | .sh xs ys, ⟨dx, c, r, ha, h⟩ => ⟨_, ha⟩
  | .ob _ _ ds, ⟨dx, vs, ha, h⟩ => ⟨_, ha⟩
  | .purse, h => h.elim
  | .pin _, h => h.elim
  | .er _ _, h => h.elim
theorem RepV.rep {a : Addr} (na : ¬ W a) : ∀ {d : D}, RepV p C W H a d → Rep p C W H d (.ref a)
  | .non, h => h.elim
  | .bl _, h => h.elim
  | .int _, h => h.elim
  | .str _, h => h.elim
  | .lst ds, ⟨vs, ha, r⟩ => ⟨a, rfl, na, vs, ha, r⟩
  | .tup ds, ⟨vs, ha, r⟩ => ⟨a, rfl, na, vs, ha, r⟩
  | .dk ks ds, ⟨vs, ha, l, r⟩ => ⟨a, rfl, na, vs, ha, l, r⟩
  | .dt ks ds, ⟨vs, ha, l, r⟩ => ⟨a, rfl, na, vs, ha, l, r⟩
  | .sh xs ys, ⟨dx, c, r, h⟩ => ⟨a, rfl, na, dx, c, r, h⟩
  | .ob _ _ ds, ⟨dx, vs, h⟩ => ⟨a, rfl, na, dx, vs, h⟩
  | .purse, h => h.elim
  | .pin _, h => h.elim
  | .er _ _, h => h.elim
theorem RepO.rep {a : Addr} (na : ¬ W a) : ∀ {d : D}, RepO p C W H a d → Rep p C W H d (.ref a)
  | .non, h => h.elim
  | .bl _, h => h.elim
  | .int _, h => h.elim
  | .str _, h => h.elim
  | .lst ds, ⟨vs, ha, r⟩ => ⟨a, rfl, na, vs, ha, r⟩
  | .tup ds, ⟨vs, ha, r⟩ => ⟨a, rfl, na, vs, ha, r⟩
  | .dk ks ds, ⟨vs, ha, l, r⟩ => ⟨a, rfl, na, vs, .inl ha, l, r⟩
  | .dt ks ds, ⟨vs, ha, l, r⟩ => ⟨a, rfl, na, vs, ha, l, r⟩
  | .sh xs ys, ⟨dx, c, r, h⟩ => ⟨a, rfl, na, dx, c, r, h⟩
  | .ob _ _ ds, ⟨dx, vs, h⟩ => ⟨a, rfl, na, dx, vs, h⟩
  | .purse, h => h.elim
  | .pin _, h => h.elim
  | .er _ _, h => h.elim
theorem RepO.at {a : Addr} : ∀ {d : D}, RepO p C W H a d → ∃ o, H a = some o
  | .non, h => h.elim
  | .bl _, h => h.elim
  | .int _, h => h.elim
  | .str _, h => h.elim
  | .lst ds, ⟨vs, ha, r⟩ => ⟨_, ha⟩
  | .tup ds, ⟨vs, ha, r⟩ => ⟨_, ha⟩
  | .dk ks ds, ⟨vs, ha, l, r⟩ => ⟨_, ha⟩
  | .dt ks ds, ⟨vs, ha, l, r⟩ => ⟨_, ha⟩
  | .sh xs ys, ⟨dx, c, r, ha, h⟩ => ⟨_, ha⟩
  | .ob _ _ ds, ⟨dx, vs, ha, h⟩ => ⟨_, ha⟩
  | .purse, h => h.elim
  | .pin _, h => h.elim
  | .er _ _, h => h.elim
theorem RepO.nx {a : Addr} : ∀ {d : D}, RepO p C W H a d → ∃ o, H a = some o ∧ ∀ φ, o ≠ .ext φ
  | .non, h => h.elim
  | .bl _, h => h.elim
  | .int _, h => h.elim
  | .str _, h => h.elim
  | .lst ds, ⟨vs, ha, r⟩ => ⟨_, ha, fun φ z => by cases z⟩
  | .tup ds, ⟨vs, ha, r⟩ => ⟨_, ha, fun φ z => by cases z⟩
  | .dk ks ds, ⟨vs, ha, r⟩ => ⟨_, ha, fun φ z => by cases z⟩
  | .dt ks ds, ⟨vs, ha, r⟩ => ⟨_, ha, fun φ z => by cases z⟩
  | .sh xs ys, ⟨dx, c, r, ha, h⟩ => ⟨_, ha, fun φ z => by cases z⟩
  | .ob _ _ ds, ⟨dx, vs, ha, h⟩ => ⟨_, ha, fun φ z => by cases z⟩
  | .purse, h => h.elim
  | .pin _, h => h.elim
  | .er _ _, h => h.elim
theorem RepL.len : ∀ {ds : List D} {vs : List V}, RepL p C W H ds vs → vs.length = ds.length
  | [], _, rfl => rfl
  | _ :: _, _, ⟨v, vr, e, _, r⟩ => by rw [e, List.length_cons, r.len, List.length_cons]
theorem RepL.get : ∀ {ds : List D} {vs : List V} {i : Nat} {d : D}, RepL p C W H ds vs → ds[i]? = some d → ∃ v, vs[i]? = some v ∧ Rep p C W H d v
  | [], _, i, d, _, e => by simp at e
  | _ :: _, _, 0, d, ⟨v, vr, e, h, r⟩, q => by
    obtain rfl := Option.some.inj q
    exact ⟨v, by rw [e]; rfl, h⟩
  | _ :: _, _, i + 1, d, ⟨v, vr, e, h, r⟩, q => by
    obtain ⟨u, h1, h2⟩ := r.get (i := i) (by simpa using q)
    exact ⟨u, by rw [e]; simpa using h1, h2⟩
theorem RepL.nth : ∀ {ds : List D} {vs : List V} {i : Nat} {v : V}, RepL p C W H ds vs → vs[i]? = some v → ∃ d, ds[i]? = some d ∧ Rep p C W H d v
  | [], _, i, v, e, q => by
    obtain rfl : _ = [] := e
    simp at q
  | d :: _, _, 0, v, ⟨u, vr, e, h, r⟩, q => by
    rw [e] at q
    obtain rfl := Option.some.inj q
    exact ⟨d, rfl, h⟩
  | _ :: _, _, i + 1, v, ⟨u, vr, e, h, r⟩, q => by
    rw [e] at q
    obtain ⟨d, h1, h2⟩ := r.nth (i := i) (by simpa using q)
    exact ⟨d, by simpa using h1, h2⟩
theorem RepL.app : ∀ {ds es : List D} {vs us : List V}, RepL p C W H ds vs → RepL p C W H es us → RepL p C W H (ds ++ es) (vs ++ us)
  | [], _, _, _, rfl, s => s
  | _ :: _, _, _, _, ⟨v, vr, e, h, r⟩, s => ⟨v, vr ++ _, by rw [e]; rfl, h, r.app s⟩
theorem RepL.take : ∀ {ds : List D} {vs : List V} (n : Nat), RepL p C W H ds vs → RepL p C W H (ds.take n) (vs.take n)
  | _, _, 0, _ => by rw [List.take_zero, List.take_zero]; rfl
  | [], _, n + 1, e => by
    obtain rfl : _ = [] := e
    rfl
  | _ :: _, _, n + 1, ⟨v, vr, e, h, r⟩ => ⟨v, vr.take n, by rw [e]; rfl, h, r.take n⟩
theorem RepL.drop : ∀ {ds : List D} {vs : List V} (n : Nat), RepL p C W H ds vs → RepL p C W H (ds.drop n) (vs.drop n)
  | _, _, 0, h => h
  | [], _, n + 1, e => by
    obtain rfl : _ = [] := e
    rfl
  | _ :: _, _, n + 1, ⟨v, vr, e, h, r⟩ => by rw [e]; exact r.drop n
theorem RepL.rev {ds : List D} : ∀ {vs : List V}, RepL p C W H ds vs → RepL p C W H ds.reverse vs.reverse := by
  induction ds with
  | nil => intro vs e; obtain rfl : vs = [] := e; rfl
  | cons d r ih =>
    rintro vs ⟨v, vr, e, h, q⟩
    rw [e, List.reverse_cons, List.reverse_cons]
    exact (ih q).app ⟨v, [], rfl, h, rfl⟩
theorem RepL.set : ∀ {ds : List D} {vs : List V} (i : Nat) {d : D} {v : V}, Rep p C W H d v → RepL p C W H ds vs → RepL p C W H (ds.set i d) (vs.set i v)
  | [], _, i, d, v, _, e => by
    obtain rfl : _ = [] := e
    rfl
  | _ :: _, _, 0, d, v, q, ⟨u, vr, e, h, r⟩ => ⟨v, vr, by rw [e]; rfl, q, r⟩
  | _ :: _, _, i + 1, d, v, q, ⟨u, vr, e, h, r⟩ => ⟨u, vr.set i v, by rw [e]; rfl, h, r.set i q⟩
theorem RepL.perm {vs us : List V} (pm : us.Perm vs) : ∀ {ds : List D}, RepL p C W H ds vs → ∃ es, es.Perm ds ∧ RepL p C W H es us := by
  induction pm with
  | nil => intro ds h; exact ⟨ds, .refl _, h⟩
  | cons x _ ih =>
    intro ds h
    cases ds with
    | nil => cases h
    | cons d r =>
      obtain ⟨v, vr, e, h1, h2⟩ := h
      injection e with e1 e2
      subst e1 e2
      obtain ⟨es, p1, p2⟩ := ih h2
      exact ⟨d :: es, p1.cons d, _, _, rfl, h1, p2⟩
  | swap x y l =>
    intro ds h
    cases ds with
    | nil => cases h
    | cons d r =>
      obtain ⟨v, vr, e, h1, h2⟩ := h
      injection e with e1 e2
      subst e1 e2
      cases r with
      | nil => cases h2
      | cons d2 r2 =>
        obtain ⟨v2, vr2, e, h3, h4⟩ := h2
        injection e with e1 e2
        subst e1 e2
        exact ⟨d2 :: d :: r2, List.Perm.swap _ _ _, _, _, rfl, h3, _, _, rfl, h1, h4⟩
  | trans _ _ ih1 ih2 =>
    intro ds h
    obtain ⟨es, p1, r1⟩ := ih2 h
    obtain ⟨es2, p2, r2⟩ := ih1 r1
    exact ⟨es2, p2.trans p1, r2⟩
theorem repL_strs : ∀ (xs : List Str), RepL p C W H (xs.map D.str) (xs.map V.str)
  | [] => rfl
  | x :: r => ⟨_, _, rfl, rfl, repL_strs r⟩
theorem repL_ints : ∀ (xs : List Int), RepL p C W H (xs.map D.int) (xs.map V.int)
  | [] => rfl
  | x :: r => ⟨_, _, rfl, rfl, repL_ints r⟩
theorem RepL.strs : ∀ {xs : List Str} {vs : List V}, RepL p C W H (xs.map D.str) vs → vs = xs.map V.str
  | [], _, e => e
  | x :: r, _, ⟨v, vr, e, h, q⟩ => by rw [e, RepL.strs q, (show v = .str x from h)]; rfl
theorem RepL.bls : ∀ {xs : List Bool} {vs : List V}, RepL p C W H (xs.map D.bl) vs → vs = xs.map V.bl
  | [], _, e => e
  | x :: r, _, ⟨v, vr, e, h, q⟩ => by rw [e, RepL.bls q, (show v = .bl x from h)]; rfl
theorem View.of {d : D} {v : V} (h : Rep p C W H d v) : View p C W H d v := .inl h
theorem View.lst {ds : List D} {v : V} (h : View p C W H (.lst ds) v) : ∃ a vs, v = .ref a ∧ H a = some (.lst vs) ∧ RepL p C W H ds vs := by
  rcases h with ⟨a, e, _, vs, ha, r⟩ | ⟨a, e, _, vs, ha, r⟩
  · exact ⟨a, vs, e, ha, r⟩
  · exact ⟨a, vs, e, ha, r⟩
theorem View.tup {ds : List D} {v : V} (h : View p C W H (.tup ds) v) : ∃ a vs, v = .ref a ∧ H a = some (.tup vs) ∧ RepL p C W H ds vs := by
  rcases h with ⟨a, e, _, vs, ha, r⟩ | ⟨a, e, _, vs, ha, r⟩
  · exact ⟨a, vs, e, ha, r⟩
  · exact ⟨a, vs, e, ha, r⟩
theorem View.dk {ks : List Key} {ds : List D} {v : V} (h : View p C W H (.dk ks ds) v) : ∃ a vs, v = .ref a ∧ Rd H a (.dK (ks.zip vs)) ∧ ks.length = ds.length ∧ RepL p C W H ds vs := by
  rcases h with ⟨a, e, _, vs, ha, r⟩ | ⟨a, e, _, vs, ha, r⟩
  · exact ⟨a, vs, e, ha, r⟩
  · exact ⟨a, vs, e, ha, r⟩
theorem View.sh {xs ys : List Str} {v : V} (h : View p C W H (.sh xs ys) v) : ∃ a dx c r, v = .ref a ∧ H a = some (.ins C dx [("_catalogue", .ref c), ("_row", .ref r)]) ∧ H c = some (.lst (xs.map V.str)) ∧ H r = some (.lst (ys.map V.str)) := by
  rcases h with ⟨a, e, _, dx, c, r, h1, h2, h3, _⟩ | ⟨a, e, _, dx, c, r, h1, h2, h3, _⟩
  · exact ⟨a, dx, c, r, e, h1, h2, h3⟩
  · exact ⟨a, dx, c, r, e, h1, h2, h3⟩
theorem View.int {i : Int} {v : V} (h : View p C W H (.int i) v) : v = .int i := by
  rcases h with h | ⟨_, _, _, h⟩
  · exact h
  · exact h.elim
theorem View.str {i : Str} {v : V} (h : View p C W H (.str i) v) : v = .str i := by
  rcases h with h | ⟨_, _, _, h⟩
  · exact h
  · exact h.elim
theorem View.bl {i : Bool} {v : V} (h : View p C W H (.bl i) v) : v = .bl i := by
  rcases h with h | ⟨_, _, _, h⟩
  · exact h
  · exact h.elim
theorem View.non {v : V} (h : View p C W H .non v) : v = .non := by
  rcases h with h | ⟨_, _, _, h⟩
  · exact h
  · exact h.elim
/-- the purse in W: what stands otherwise stays -/
theorem keepB (hp : ∀ a, p.On a → W a) (e : Bt p H H') : ∀ c o, ¬ W c → H c = some o → ¬ W c ∧ H' c = some o := fun c o nc h => ⟨nc, e c o (fun z => nc (hp c z)) h⟩
theorem View.bt (hp : ∀ a, p.On a → W a) (e : Bt p H H') {d : D} {v : V} (h : View p C W H d v) : View p C W H' d v := by
  rcases h with h | ⟨a, z, na, h⟩
  · exact .inl (h.mono (keepB hp e))
  · exact .inr ⟨a, z, na, h.mono (keepB hp e) fun o => e a o na⟩
end
/-! ### where a def stands -/
structure Zx where
  p : Pz
  W0 : Addr → Prop
  H0 : Hp
  dom : ∀ a, W0 a → ∃ o, H0 a = some o
  pw : ∀ a, p.On a → W0 a
abbrev Gm := List (Option Rv)
def Ow (Γ : Gm) (σ : L2.St) (i : Nat) (a : Addr) : Prop := (∃ d, Γ[i]? = some (some (.new d))) ∧ σ[i]? = some (some (.ref a))
/-- what may be written: what the caller wants kept apart, and what slots own -/
def Ws (Z : Zx) (Γ : Gm) (σ : L2.St) (a : Addr) : Prop := Z.W0 a ∨ ∃ i, Ow Γ σ i a
/-- how a slot's value is held -/
def SOk (C : Addr) (Z : Zx) (W : Addr → Prop) (H : Hp) : Rv → V → Prop
  | .val d, v => Rep Z.p C W H d v
  | .new d, v => ∃ a, v = .ref a ∧ Z.H0 a = none ∧ RepO Z.p C W H a d
  | .bor d, v => Rep Z.p C W H d v ∨ ∃ a o, v = .ref a ∧ ¬ Z.p.On a ∧ Z.H0 a = some o ∧ RepV Z.p C W H a d
  | .tmp _, _ => False
/-- what an expression gives: H ahead of it, H' behind -/
def XOk (C : Addr) (Z : Zx) (W : Addr → Prop) (H H' : Hp) : Rv → V → Prop
  | .val d, v => Rep Z.p C W H' d v
  | .new d, v => ∃ a, v = .ref a ∧ H a = none ∧ RepO Z.p C (fun c => W c ∨ c = a) H' a d
  | .bor d, v => Rep Z.p C W H' d v ∨ ∃ a o, v = .ref a ∧ ¬ Z.p.On a ∧ Z.H0 a = some o ∧ RepV Z.p C W H' a d
  | .tmp d, v => ∃ a, v = .ref a ∧ ¬ Z.p.On a ∧ Z.H0 a = none ∧ RepO Z.p C W H' a d
structure Mt (C : Addr) (Z : Zx) (G : List (V × Rv)) (Γ : Gm) (σ : L2.St) (H : Hp) (n : Nat) : Prop where
  len : σ.length = Γ.length
  fr : Bt Z.p Z.H0 H
  pa : PAt Z.p H n
  sl : ∀ (i : Nat) (r : Rv), Γ[i]? = some (some r) → ∃ v, σ[i]? = some (some v) ∧ SOk C Z (Ws Z Γ σ) H r v
  gs : ∀ g ∈ G, SOk C Z (Ws Z Γ σ) H g.2 g.1 ∧ ∀ d, g.2 ≠ .new d
  inj : ∀ (i j : Nat) (a : Addr), Ow Γ σ i a → Ow Γ σ j a → i = j
section
variable {C : Addr} {Z : Zx} {G : List (V × Rv)} {Γ : Gm} {σ : L2.St} {H H' : Hp} {n m : Nat} {W W' : Addr → Prop}
theorem Ws.pw {a : Addr} (h : Z.p.On a) : Ws Z Γ σ a := .inl (Z.pw a h)
theorem Mt.pdom (M : Mt C Z G Γ σ H n) : ∀ a, Z.p.On a → ∃ o, H a = some o := fun a e => M.pa.at e
/-- an own object stands in the heap, and is not the purse -/
theorem Mt.own (M : Mt C Z G Γ σ H n) {i : Nat} {a : Addr} (h : Ow Γ σ i a) : (∃ o, H a = some o) ∧ Z.H0 a = none ∧ ¬ Z.p.On a := by
  obtain ⟨⟨d, hd⟩, ha⟩ := h
  obtain ⟨v, hv, b, e, h0, r⟩ := M.sl i _ hd
  rw [ha] at hv
  obtain rfl := Option.some.inj (Option.some.inj hv)
  injection e with e
  subst e
  refine ⟨r.at, h0, fun z => ?_⟩
  obtain ⟨o, ho⟩ := Z.dom a (Z.pw a z)
  rw [h0] at ho
  cases ho
theorem Mt.wdom (M : Mt C Z G Γ σ H n) {a : Addr} (h : Ws Z Γ σ a) : ∃ o, H a = some o := by
  rcases h with h | ⟨i, h⟩
  · obtain ⟨o, ho⟩ := Z.dom a h
    by_cases z : Z.p.On a
    · exact M.pdom a z
    · exact ⟨o, M.fr a o z ho⟩
  · exact (M.own h).1
theorem SOk.bt (hp : ∀ a, Z.p.On a → W a) (own : ∀ a, Z.H0 a = none → ¬ Z.p.On a) (e : Bt Z.p H H') : ∀ {r : Rv} {v : V}, SOk C Z W H r v → SOk C Z W H' r v
  | .val d, _, h => Rep.mono (keepB hp e) h
  | .new d, _, ⟨a, e1, h0, r⟩ => ⟨a, e1, h0, r.mono (keepB hp e) fun o => e a o (own a h0)⟩
  | .bor d, _, .inl h => .inl (Rep.mono (keepB hp e) h)
  | .bor d, _, .inr ⟨a, o, e1, na, h0, r⟩ => .inr ⟨a, o, e1, na, h0, r.mono (keepB hp e) fun o => e a o na⟩
  | .tmp _, _, h => h
theorem Zx.apart (Z : Zx) {a : Addr} (h0 : Z.H0 a = none) : ¬ Z.p.On a := fun z => by
  obtain ⟨o, ho⟩ := Z.dom a (Z.pw a z)
  rw [h0] at ho
  cases ho
/-- the heap goes on, the purse is drawn from -/
theorem Mt.bt (M : Mt C Z G Γ σ H n) (e : Bt Z.p H H') (pa : PAt Z.p H' m) : Mt C Z G Γ σ H' m where
  len := M.len
  fr := M.fr.trans e
  pa := pa
  sl := fun i r hi => let ⟨v, h1, h2⟩ := M.sl i r hi; ⟨v, h1, h2.bt (fun _ => Ws.pw) (fun _ => Z.apart) e⟩
  gs := fun g hg => ⟨(M.gs g hg).1.bt (fun _ => Ws.pw) (fun _ => Z.apart) e, (M.gs g hg).2⟩
  inj := M.inj
theorem Mt.same (M : Mt C Z G Γ σ H n) (e : Same H H') : Mt C Z G Γ σ H' n := M.bt (.same e) (M.pa.same e)
theorem XOk.view (own : ∀ a, H a = none → ¬ Z.p.On a) : ∀ {r : Rv} {v : V}, XOk C Z W H H' r v → View Z.p C W H' r.d v
  | .val d, _, h => .inl h
  | .new d, _, ⟨a, e, h, r⟩ => .inr ⟨a, e, own a h, (r.mono (fun c o nc h => ⟨fun z => nc (.inl z), h⟩) fun _ h => h).v⟩
  | .bor d, _, .inl h => .inl h
  | .bor d, _, .inr ⟨a, o, e, na, h0, r⟩ => .inr ⟨a, e, na, r⟩
  | .tmp d, _, ⟨a, e, na, _, r⟩ => .inr ⟨a, e, na, r.v⟩
end
end TL
end
-- TL1
section
set_option Elab.async false
set_option linter.all false
set_option maxRecDepth 100000
set_option maxHeartbeats 4100000
/-! TL1: expressions -/
variable [TL.Tb]
namespace TL
open L2 PyProof.Rows PySem PySem.Spec
abbrev TX := Gm → Nat → (Rv → Nat → Prop) → Prop
abbrev TBx := Gm → Nat → (Bool → Nat → Prop) → Prop
abbrev TXs := Gm → Nat → (List Rv → Nat → Prop) → Prop
abbrev ST := List D → Nat → (Rv → Nat → Prop) → Prop
def XOks (C : Addr) (Z : Zx) (W : Addr → Prop) (H H' : Hp) : List Rv → List V → Prop
  | [], vs => vs = []
  | r :: rs, vs => ∃ v vr, vs = v :: vr ∧ XOk C Z W H H' r v ∧ XOks C Z W H H' rs vr
def RE (C : Addr) (Z : Zx) (t : TE) (T : TX) : Prop := ∀ (G : List (V × Rv)) (Γ : Gm) (σ : L2.St) (H : Hp) (n : Nat) (Q : VK) (R : Rv → Nat → Prop), Mt C Z G Γ σ H n → T Γ n R →
  (∀ v H' r n', Bt Z.p H H' → PAt Z.p H' n' → XOk C Z (Ws Z Γ σ) H H' r v → R r n' → Q v H') → t σ H Q
def RT (C : Addr) (Z : Zx) (t : TT) (T : TBx) : Prop := ∀ (G : List (V × Rv)) (Γ : Gm) (σ : L2.St) (H : Hp) (n : Nat) (Q : Bool → Hp → Prop) (R : Bool → Nat → Prop), Mt C Z G Γ σ H n → T Γ n R →
  (∀ b H' n', Bt Z.p H H' → PAt Z.p H' n' → R b n' → Q b H') → t σ H Q
def RA (C : Addr) (Z : Zx) (t : TA) (T : TXs) : Prop := ∀ (G : List (V × Rv)) (Γ : Gm) (σ : L2.St) (H : Hp) (n : Nat) (Q : List V → Hp → Prop) (R : List Rv → Nat → Prop), Mt C Z G Γ σ H n → T Γ n R →
  (∀ vs H' rs n', Bt Z.p H H' → PAt Z.p H' n' → XOks C Z (Ws Z Γ σ) H H' rs vs → R rs n' → Q vs H') → t σ H Q
section
variable {C : Addr} {Z : Zx} {G : List (V × Rv)} {Γ : Gm} {σ : L2.St} {H H1 H2 : Hp} {n m : Nat} {W : Addr → Prop}
theorem Zx.papart (Z : Zx) (dm : ∀ a, Z.p.On a → ∃ o, H a = some o) {a : Addr} (h : H a = none) : ¬ Z.p.On a := fun z => by
  obtain ⟨o, ho⟩ := dm a z
  rw [h] at ho
  cases ho
theorem XOk.bt (hp : ∀ a, Z.p.On a → W a) (dm : ∀ a, Z.p.On a → ∃ o, H a = some o) (e : Bt Z.p H1 H2) : ∀ {r : Rv} {v : V}, XOk C Z W H H1 r v → XOk C Z W H H2 r v
  | .val d, _, h => Rep.mono (keepB hp e) h
  | .new d, _, ⟨a, e1, h0, r⟩ => ⟨a, e1, h0, r.mono (keepB (fun b z => .inl (hp b z)) e) fun o => e a o (Z.papart dm h0)⟩
  | .bor d, _, .inl h => .inl (Rep.mono (keepB hp e) h)
  | .bor d, _, .inr ⟨a, o, e1, na, h0, r⟩ => .inr ⟨a, o, e1, na, h0, r.mono (keepB hp e) fun o => e a o na⟩
  | .tmp d, _, ⟨a, e1, na, h0, r⟩ => ⟨a, e1, na, h0, r.mono (keepB hp e) fun o => e a o na⟩
/-- seen from an earlier heap -/
theorem XOk.up (e : Bt Z.p H H1) (dm : ∀ a, Z.p.On a → ∃ o, H1 a = some o) : ∀ {r : Rv} {v : V}, XOk C Z W H1 H2 r v → XOk C Z W H H2 r v
  | .val d, _, h => h
  | .new d, _, ⟨a, e1, h0, r⟩ => ⟨a, e1, e.free dm h0, r⟩
  | .bor d, _, h => h
  | .tmp d, _, h => h
theorem XOks.bt (hp : ∀ a, Z.p.On a → W a) (dm : ∀ a, Z.p.On a → ∃ o, H a = some o) (e : Bt Z.p H1 H2) : ∀ {rs : List Rv} {vs : List V}, XOks C Z W H H1 rs vs → XOks C Z W H H2 rs vs
  | [], _, h => h
  | _ :: _, _, ⟨v, vr, e1, h, r⟩ => ⟨v, vr, e1, h.bt hp dm e, r.bt hp dm e⟩
theorem XOks.up (e : Bt Z.p H H1) (dm : ∀ a, Z.p.On a → ∃ o, H1 a = some o) : ∀ {rs : List Rv} {vs : List V}, XOks C Z W H1 H2 rs vs → XOks C Z W H H2 rs vs
  | [], _, h => h
  | _ :: _, _, ⟨v, vr, e1, h, r⟩ => ⟨v, vr, e1, h.up e dm, r.up e dm⟩
theorem Mt.dom1 (M : Mt C Z G Γ σ H n) (e : Bt Z.p H H1) (pa : PAt Z.p H1 m) : ∀ a, Ws Z Γ σ a → ∃ o, H1 a = some o := fun a w => by
  by_cases z : Z.p.On a
  · exact pa.at z
  · obtain ⟨o, ho⟩ := M.wdom w
    exact ⟨o, e a o z ho⟩
end
/-! ### names, constants -/
def tlV (i : Nat) : TX := fun Γ n R => match Γ[i]? with
  | some (some (.new d)) => R (.tmp d) n
  | some (some (.val d)) => R (.val d) n
  | some (some (.bor d)) => R (.bor d) n
  | _ => False
def tlC (d : D) : TX := fun _ n R => R (.val d) n
section
variable {C : Addr} {Z : Zx}
theorem re_v {i : Nat} : RE C Z (tVar i) (tlV i) := by
  intro G Γ σ H n Q R M h q
  unfold tlV at h
  split at h
  · next d e =>
    obtain ⟨v, hv, a, rfl, h0, r⟩ := M.sl i _ e
    exact ⟨_, hv, q _ H (.tmp d) n .refl M.pa ⟨a, rfl, Z.apart h0, h0, r⟩ h⟩
  · next d e =>
    obtain ⟨v, hv, r⟩ := M.sl i _ e
    exact ⟨_, hv, q _ H (.val d) n .refl M.pa r h⟩
  · next d e =>
    obtain ⟨v, hv, r⟩ := M.sl i _ e
    exact ⟨_, hv, q _ H (.bor d) n .refl M.pa r h⟩
  · exact h.elim
theorem re_int {i : Int} : RE C Z (tC (.int i)) (tlC (.int i)) := fun G Γ σ H n Q R M h q => q _ H (.val (.int i)) n .refl M.pa (show V.int i = V.int i from rfl) h
theorem re_str {s : Str} : RE C Z (tC (.str s)) (tlC (.str s)) := fun G Γ σ H n Q R M h q => q _ H (.val (.str s)) n .refl M.pa (show V.str s = V.str s from rfl) h
theorem re_bl {b : Bool} : RE C Z (tC (.bl b)) (tlC (.bl b)) := fun G Γ σ H n Q R M h q => q _ H (.val (.bl b)) n .refl M.pa (show V.bl b = V.bl b from rfl) h
theorem re_non : RE C Z (tC .non) (tlC .non) := fun G Γ σ H n Q R M h q => q _ H (.val .non) n .refl M.pa (show V.non = V.non from rfl) h
/-! ### arguments, displays -/
def tlNil : TXs := fun _ n R => R [] n
def tlCons (T : TX) (U : TXs) : TXs := fun Γ n R => T Γ n fun r n1 => U Γ n1 fun rs n2 => R (r :: rs) n2
theorem ra_nil : RA C Z tNil tlNil := fun G Γ σ H n Q R M h q => q _ H [] n .refl M.pa rfl h
theorem ra_cons {te : TE} {ta : TA} {T : TX} {U : TXs} (he : RE C Z te T) (ha : RA C Z ta U) : RA C Z (tCons te ta) (tlCons T U) := by
  intro G Γ σ H n Q R M h q
  refine he G Γ σ H n _ _ M h fun v H1 r n1 e1 p1 x1 h1 => ?_
  have M1 := M.bt e1 p1
  refine ha G Γ σ H1 n1 _ _ M1 h1 fun vs H2 rs n2 e2 p2 x2 h2 => ?_
  exact q _ H2 (r :: rs) n2 (e1.trans e2) p2 ⟨v, vs, rfl, x1.bt (fun _ => Ws.pw) M.pdom e2, x2.up e1 M1.pdom⟩ h2
/-- what may be stored: shared or new -/
@[simp] def sto : Rv → Bool
  | .val _ => true
  | .new _ => true
  | _ => false
@[simp] def stoAll : List Rv → Bool
  | [] => true
  | r :: rs => sto r && stoAll rs
theorem XOk.rep {W : Addr → Prop} {H H1 : Hp} (dm : ∀ a, W a → ∃ o, H a = some o) : ∀ {r : Rv} {v : V}, sto r = true → XOk C Z W H H1 r v → Rep Z.p C W H1 r.d v
  | .val d, _, _, h => h
  | .new d, _, _, ⟨a, e, h0, r⟩ => by
    subst e
    refine (r.mono (W' := W) (fun c o nc h => ⟨fun z => nc (.inl z), h⟩) fun _ h => h).rep fun z => ?_
    obtain ⟨o, ho⟩ := dm a z
    rw [h0] at ho
    cases ho
theorem XOks.reps {W : Addr → Prop} {H H1 : Hp} (dm : ∀ a, W a → ∃ o, H a = some o) : ∀ {rs : List Rv} {vs : List V}, stoAll rs = true → XOks C Z W H H1 rs vs → RepL Z.p C W H1 (rs.map Rv.d) vs
  | [], _, _, h => h
  | r :: rs, _, s, ⟨v, vr, e, h, q⟩ => by
    rw [stoAll, Bool.and_eq_true] at s
    exact ⟨v, vr, e, h.rep dm s.1, q.reps dm s.2⟩
/-- a new object whose parts are known -/
theorem fresh_rep {p : Pz} {C : Addr} {W : Addr → Prop} {H : Hp} {a : Addr} {o : HO} (na : H a = none) : ∀ c u, ¬ W c → H c = some u → ¬ (W c ∨ c = a) ∧ upd H a o c = some u := fun c u nc h => by
  have ne : c ≠ a := ne_of_none h na
  exact ⟨fun z => z.elim nc ne, by rw [upd_ne ne]; exact h⟩
def tlLst (T : TXs) : TX := fun Γ n R => T Γ n fun rs n1 => stoAll rs = true ∧ rs.length ≤ 1000 ∧ R (.new (.lst (rs.map Rv.d))) n1
def tlTup (T : TXs) : TX := fun Γ n R => T Γ n fun rs n1 => stoAll rs = true ∧ rs.length ≤ 1000 ∧ R (.new (.tup (rs.map Rv.d))) n1
theorem XOks.len {W : Addr → Prop} {H H1 : Hp} : ∀ {rs : List Rv} {vs : List V}, XOks C Z W H H1 rs vs → vs.length = rs.length
  | [], _, e => by rw [show _ = [] from e]; rfl
  | r :: rs, _, ⟨v, vr, e, _, q⟩ => by rw [e, List.length_cons, q.len, List.length_cons]
theorem re_lst {ta : TA} {T : TXs} (ha : RA C Z ta T) : RE C Z (tLst ta) (tlLst T) := by
  intro G Γ σ H n Q R M h q
  refine ha G Γ σ H n _ _ M h fun vs H1 rs n1 e1 p1 x1 ⟨h1, h2, h3⟩ => ?_
  refine ⟨by rw [x1.len]; exact Nat.le_of_lt (small1000 h2), fun a na => ?_⟩
  have s1 := same_upd (o := .lst vs) na
  refine q _ _ (.new (.lst (rs.map Rv.d))) n1 (e1.trans (.same s1)) (p1.same s1) ⟨a, rfl, e1.free (fun b z => p1.at z) na, vs, upd_same, ?_⟩ h3
  exact (x1.reps (fun b w => M.wdom w) h1).mono (fresh_rep (p := Z.p) (C := C) na)
theorem re_tup {ta : TA} {T : TXs} (ha : RA C Z ta T) : RE C Z (tTup ta) (tlTup T) := by
  intro G Γ σ H n Q R M h q
  refine ha G Γ σ H n _ _ M h fun vs H1 rs n1 e1 p1 x1 ⟨h1, h2, h3⟩ => ?_
  refine ⟨by rw [x1.len]; exact Nat.le_of_lt (small1000 h2), fun a na => ?_⟩
  have s1 := same_upd (o := .tup vs) na
  refine q _ _ (.new (.tup (rs.map Rv.d))) n1 (e1.trans (.same s1)) (p1.same s1) ⟨a, rfl, e1.free (fun b z => p1.at z) na, vs, upd_same, ?_⟩ h3
  exact (x1.reps (fun b w => M.wdom w) h1).mono (fresh_rep (p := Z.p) (C := C) na)
/-! ### operations on values -/
/-- a two-place operation does what f says of trees -/
def R2T (C : Addr) (Z : Zx) (r : R2) (f : D → D → (Rv → Prop) → Prop) : Prop := ∀ (W : Addr → Prop) (H : Hp) (x y : V) (d e : D) (R : Rv → Prop) (Q : VK), (∀ a, Z.p.On a → W a) → (∀ a, W a → ∃ o, H a = some o) →
  View Z.p C W H d x → View Z.p C W H e y → f d e R → (∀ v H' r, Same H H' → XOk C Z W H H' r v → R r → Q v H') → r x y H Q
def R1T (C : Addr) (Z : Zx) (r : V → Hp → VK → Prop) (f : D → (Rv → Prop) → Prop) : Prop := ∀ (W : Addr → Prop) (H : Hp) (x : V) (d : D) (R : Rv → Prop) (Q : VK), (∀ a, Z.p.On a → W a) → (∀ a, W a → ∃ o, H a = some o) →
  View Z.p C W H d x → f d R → (∀ v H' r, Same H H' → XOk C Z W H H' r v → R r → Q v H') → r x H Q
def Views (p : Pz) (C : Addr) (W : Addr → Prop) (H : Hp) : List D → List V → Prop
  | [], vs => vs = []
  | d :: ds, vs => ∃ v vr, vs = v :: vr ∧ View p C W H d v ∧ Views p C W H ds vr
def RnT (C : Addr) (Z : Zx) (r : List V → Hp → VK → Prop) (f : List D → (Rv → Prop) → Prop) : Prop := ∀ (W : Addr → Prop) (H : Hp) (xs : List V) (ds : List D) (R : Rv → Prop) (Q : VK), (∀ a, Z.p.On a → W a) → (∀ a, W a → ∃ o, H a = some o) →
  Views Z.p C W H ds xs → f ds R → (∀ v H' r, Same H H' → XOk C Z W H H' r v → R r → Q v H') → r xs H Q
def tlOp (f : D → D → (Rv → Prop) → Prop) (T U : TX) : TX := fun Γ n R => T Γ n fun x n1 => U Γ n1 fun y n2 => f x.d y.d fun r => R r n2
def tlUn (f : D → (Rv → Prop) → Prop) (T : TX) : TX := fun Γ n R => T Γ n fun x n1 => f x.d fun r => R r n1
theorem re_op {r : R2} {ta tb : TE} {T U : TX} {f : D → D → (Rv → Prop) → Prop} (ho : R2T C Z r f) (ha : RE C Z ta T) (hb : RE C Z tb U) : RE C Z (tOp r ta tb) (tlOp f T U) := by
  intro G Γ σ H n Q R M h q
  refine ha G Γ σ H n _ _ M h fun v H1 r1 n1 e1 p1 x1 h1 => ?_
  have M1 := M.bt e1 p1
  refine hb G Γ σ H1 n1 _ _ M1 h1 fun u H2 r2 n2 e2 p2 x2 h2 => ?_
  have M2 := M1.bt e2 p2
  refine ho _ H2 v u _ _ _ _ (fun a z => Ws.pw z) (fun a w => M2.wdom w) ((x1.view fun a h => Z.papart M.pdom h).bt (fun a z => Ws.pw z) e2) (x2.view fun a h => Z.papart M1.pdom h) h2 fun w H3 r3 s3 x3 h3 => ?_
  exact q w H3 r3 n2 ((e1.trans e2).trans (.same s3)) (p2.same s3) (x3.up (e1.trans e2) M2.pdom) h3
theorem re_un {r : V → Hp → VK → Prop} {ta : TE} {T : TX} {f : D → (Rv → Prop) → Prop} (ho : R1T C Z r f) (ha : RE C Z ta T) : RE C Z (tUn r ta) (tlUn f T) := by
  intro G Γ σ H n Q R M h q
  refine ha G Γ σ H n _ _ M h fun v H1 r1 n1 e1 p1 x1 h1 => ?_
  have M1 := M.bt e1 p1
  refine ho _ H1 v _ _ _ (fun a z => Ws.pw z) (fun a w => M1.wdom w) (x1.view fun a h => Z.papart M.pdom h) h1 fun w H3 r3 s3 x3 h3 => ?_
  exact q w H3 r3 n1 (e1.trans (.same s3)) (p1.same s3) (x3.up e1 M1.pdom) h3
theorem XOks.views {W : Addr → Prop} {H H1 : Hp} (own : ∀ a, H a = none → ¬ Z.p.On a) : ∀ {rs : List Rv} {vs : List V}, XOks C Z W H H1 rs vs → Views Z.p C W H1 (rs.map Rv.d) vs
  | [], _, h => h
  | r :: rs, _, ⟨v, vr, e, h, q⟩ => ⟨v, vr, e, h.view own, q.views own⟩
end
end TL
end
-- TSort
section
set_option Elab.async false
set_option linter.all false
set_option maxRecDepth 100000
set_option maxHeartbeats 4100000
/-! ### sorted of a list of tuples of texts -/
namespace TSo
open PySem PySem.W PyProof.Rows Srt SrtO
abbrev allS : Nat → Bool := fun _ => true
def itS (zs : List Str) : List (Int ⊕ List Nat) := zs.map fun z => Sum.inr z.cps.toList
/-- a tuple of texts stands ahead of another one -/
def ltS (xs ys : List Str) : Bool := lexLt itemOrd (itS xs) (itS ys)
theorem itS_inj : ∀ {xs ys : List Str}, itS xs = itS ys → xs = ys
  | [], [], _ => rfl
  | [], _ :: _, h => by cases h
  | _ :: _, [], h => by cases h
  | x :: xs, y :: ys, h => by
    simp only [itS, List.map_cons, List.cons.injEq, Sum.inr.injEq] at h
    obtain ⟨h1, h2⟩ := h
    have e : x = y := by
      cases x; cases y
      congr 1
      exact Array.toList_inj.1 h1
    rw [e, itS_inj (xs := xs) (ys := ys) h2]
theorem ltS_total {xs ys : List Str} (h1 : ltS xs ys = false) (h2 : ltS ys xs = false) : xs = ys := itS_inj (lex_total _ _ h1 h2)
theorem swo_ltS {α : Type} (k : α → List Str) : Swo fun v u => ltS (k v) (k u) := by
  refine ⟨fun x y h => ?_, fun x y z h1 h2 => ?_⟩
  · cases e : ltS (k y) (k x) with
    | false => rfl
    | true =>
      have := lex_trans _ _ _ h e
      rw [lex_irrefl] at this
      cases this
  · cases e : ltS (k z) (k x) with
    | false => rfl
    | true =>
      rcases lex_negTrans (O := itemOrd) (itS (k z)) (itS (k y)) (itS (k x)) e with q | q
      · exact q.symm.trans h2
      · exact q.symm.trans h1
/-- two sorted lists with the same members are the same -/
theorem sorted_uniq : ∀ {l m : List (List Str)}, l.Pairwise (fun x y => ltS y x = false) → m.Pairwise (fun x y => ltS y x = false) → l.Perm m → l = m
  | [], m, _, _, p => by rw [p.nil_eq]
  | x :: l, [], _, _, p => by have := p.length_eq; simp at this
  | x :: l, y :: m, h1, h2, p => by
    rw [List.pairwise_cons] at h1 h2
    have e : x = y := by
      by_cases q : x = y
      · exact q
      · have hx : x ∈ m := (List.mem_cons.1 (p.mem_iff.1 List.mem_cons_self)).resolve_left q
        have hy : y ∈ l := (List.mem_cons.1 (p.mem_iff.2 List.mem_cons_self)).resolve_left fun z => q z.symm
        exact ltS_total (h2.1 x hx) (h1.1 y hy)
    subst e
    rw [sorted_uniq h1.2 h2.2 ((List.perm_cons x).1 p)]
def IsTS (h : Heap) (v : Value) (zs : List Str) : Prop := ∃ a o items n, v = .ref a ∧ h.get? a = some o ∧ o.cls = .type "tuple" ∧ o.data = .seq items n ∧ tupItems allS 0 items.toList = some (itS zs) ∧ zs ≠ []
theorem IsTS.keeps {h h' : Heap} {v : Value} {zs : List Str} (p : IsTS h v zs) (k : ∀ b o, h.get? b = some o → o.cls = .type "tuple" → h'.get? b = some o) : IsTS h' v zs := by
  obtain ⟨a, o, t, n, e, ho, hc, hd, r⟩ := p
  exact ⟨a, o, t, n, e, k _ _ ho hc, hc, hd, r⟩
theorem items_of : ∀ {xs : List Str} {us : List Value} (i : Nat), L2.Vals (xs.map L2.V.str) us → tupItems allS i us = some (itS xs)
  | [], _, _, .nil => rfl
  | x :: xs, _, i, .cons ⟨t, e⟩ r => by
    subst e
    have := items_of (i + 1) r
    unfold tupItems
    rw [if_pos rfl, this]
    rfl
theorem keyOf_of {h : Heap} {v : Value} {zs : List Str} (p : IsTS h v zs) : (tupKind h allS).keyOf v = some (itS zs) := by
  obtain ⟨a, o, items, n, rfl, ho, hc, hd, hi, _⟩ := p
  show tupKey h allS (.ref a) = _
  unfold tupKey
  simp only [ho, hd]
  exact hi
theorem first_of {zs : List Str} {us : List Value} {i : Nat} (h : tupItems allS i us = some (itS zs)) (ne : zs ≠ []) : ∃ x t r, us = Value.str x t :: r := by
  cases us with
  | nil =>
    cases zs with
    | nil => exact absurd rfl ne
    | cons z r => cases h
  | cons v r =>
    cases v with
    | str x t => exact ⟨x, t, r, rfl⟩
    | int n t =>
      unfold tupItems at h
      rw [if_pos rfl] at h
      cases h
    | _ => cases h
section
variable {prog : Program} {w : World} {A : Around} {E : Value → Shared → Prop} {s : Shared}
theorem tups_of {h : Heap} {k : Value → List Str} : ∀ {vs : List Value}, (∀ v ∈ vs, IsTS h v (k v)) → ∃ fs, TupsOf h allS vs fs ∧ fs.length = vs.length
  | [], _ => ⟨[], .nil, rfl⟩
  | v :: vs, hp => by
    obtain ⟨fs, h1, h2⟩ := tups_of (vs := vs) fun u m => hp u (List.mem_cons_of_mem _ m)
    obtain ⟨a, o, items, n, e, ho, hc, hd, hi, ne⟩ := hp v List.mem_cons_self
    obtain ⟨x, t, r, er⟩ := first_of hi ne
    refine ⟨Value.str x t :: fs, .cons ⟨a, o, items, n, e, ho, hc, hd, ?_, fun z => (by cases z), fun _ => ⟨x, t, rfl⟩⟩ h1, by rw [List.length_cons, List.length_cons, h2]⟩
    rw [← Array.getElem?_toList, er]
    rfl
theorem tups_sortable {a : Addr} {vs : List Value} {k : Value → List Str} (h0 : 0 < vs.length) (hp : ∀ v ∈ vs, IsTS s.heap v (k v)) (ha : ∀ o, s.heap.get? a = some o → o.cls ≠ .type "tuple") : SortableO prog w A s a vs fun v u => ltS (k v) (k u) := by
  intro h' keep
  have hp' : ∀ v ∈ vs, IsTS h' v (k v) := fun v hm => (hp v hm).keeps fun b o e c => keep b o (fun z => by subst z; exact ha o e c) e
  obtain ⟨fs, h1, h2⟩ := tups_of hp'
  refine ⟨tuples' true, fun Q E hq => tup_kind (s := { s with heap := h' }) (by omega) h1 hq, fun p q hm hm' => ?_⟩
  exact tup_ltAt (s := { s with heap := h' }) true A _ p.1 q.1 _ _ (keyOf_of (hp' _ hm)) (keyOf_of (hp' _ hm')) ⟨rfl, rfl⟩
theorem sorted_tups {l : Addr} {vs : List Value} {k : Value → List Str} {Q : Value → Shared → Prop} (hl : s.heap.IsList l vs.toArray) (hz : vs.length ≤ sizeLine) (hp : ∀ v ∈ vs, IsTS s.heap v (k v))
    (h : ∀ (h' : Heap) (d : Addr) (out : List Value), Srtd (fun v u => ltS (k v) (k u)) out → Stb (fun v u => ltS (k v) (k u)) out vs → (∀ b o, s.heap.get? b = some o → h'.get? b = some o) → s.heap.objs.size ≤ d → (∃ n, h'.get? d = some (seqObj "list" out.toArray n)) → Q (.ref d) { s with heap := h' }) :
    wpAny (model prog w) A (call (.builtin "sorted") [.ref l]) Q E s := by
  refine sorted_ord (swo_ltS k) hl hz (fun h2 h₁ a ha kk => ?_) fun out hs hb => ?_
  · refine tups_sortable (s := { s with heap := h₁ }) (by omega) (fun v hm => (hp v hm).keeps fun b o e _ => (kk b o e).2) fun o e => ?_
    have e' : some o = some (seqObj "list" vs.toArray 0) := e.symm.trans ha
    cases e'
    intro c
    exact absurd (Value.type.inj c) (by decide)
  · exact h _ _ out hs hb (fun b o e => sortedAll_old e) (Nat.le_succ _) (sortedAll_at s.heap vs out.toArray)
end
end TSo
namespace L2
open PySem PySem.Spec PyProof.Rows TSo
/-- the texts of a tuple that is tracked -/
def strOf : V → Str
  | .str z => z
  | _ => Str.empty
def tupS (H : Hp) (t : Addr) : List Str := match H t with
  | some (.tup xs) => xs.map strOf
  | _ => []
theorem strOf_map (zs : List Str) : (zs.map V.str).map strOf = zs := by
  rw [List.map_map]
  conv => rhs; rw [← List.map_id zs]
  rfl
theorem tupS_at {H : Hp} {t : Addr} {zs : List Str} (h : H t = some (.tup (zs.map V.str))) : tupS H t = zs := by
  unfold tupS
  rw [h]
  exact strOf_map zs
def keyV (H : Hp) : V → List Str
  | .ref t => tupS H t
  | _ => []
/-- sorted(xs), xs a list of tuples of texts, none empty -/
def rSortedTS (K : PySem.W.Frag) : List V → Hp → VK → Prop := fun vs H Q => ∃ (a : Addr) (ts : List Addr), vs = [V.ref a] ∧ SqL K H a (ts.map V.ref) ∧ (∀ t ∈ ts, ∃ zs : List Str, zs ≠ [] ∧ H t = some (.tup (zs.map V.str))) ∧
  ∀ (ts' : List Addr) (p : Addr), ts'.Perm ts → (ts'.map (tupS H)).Pairwise (fun x y => ltS y x = false) → H p = none → Q (.ref p) (upd H p (.lst (ts'.map V.ref)))
theorem refs_all {xs : List V} (h : ∀ x ∈ xs, ∃ a, x = V.ref a) : ∃ ts : List Addr, xs = ts.map V.ref := by
  induction xs with
  | nil => exact ⟨[], rfl⟩
  | cons x r ih =>
    obtain ⟨a, rfl⟩ := h x List.mem_cons_self
    obtain ⟨ts, rfl⟩ := ih fun y hy => h y (List.mem_cons_of_mem _ hy)
    exact ⟨a :: ts, rfl⟩
theorem perm_refs {xs ys : List Addr} (p : (xs.map V.ref).Perm (ys.map V.ref)) : xs.Perm ys := by
  rw [List.perm_iff_count] at p ⊢
  intro a
  have := p (V.ref a)
  rw [List.count_eq_countP, List.countP_map, List.count_eq_countP, List.countP_map] at this
  rw [List.count_eq_countP, List.count_eq_countP]
  have e : ((fun x => x == V.ref a) ∘ V.ref) = fun x : Addr => x == a := by
    funext x
    by_cases q : x = a
    · subst q; simp
    · have : V.ref x ≠ V.ref a := fun z => q (by injection z)
      show (V.ref x == V.ref a) = (x == a)
      rw [beq_eq_false_iff_ne.2 this, beq_eq_false_iff_ne.2 q]
  rw [e] at this
  exact this
section
variable {X : Cx}
theorem cr_sortedTS {K : PySem.W.Frag} (hK : X.K = K) : CallR X (.builtin "sorted") (rSortedTS K) := by
  subst hK
  intro pins s σ H vs us Q I r h
  obtain ⟨a, ts, rfl, hs, hx, q⟩ := h
  obtain ⟨its, rv, hl, hz⟩ := I.list hs
  obtain ⟨u, rfl, ru⟩ := vals1 r
  obtain rfl : u = Value.ref a := ru
  obtain ⟨e1, e2⟩ := refs_back rv fun x m => by
    obtain ⟨t, _, e⟩ := List.mem_map.1 m
    exact ⟨t, e.symm⟩
  refine sorted_tups (k := fun u => keyV H (backV u)) hl.isList (by rw [← rv.length]; exact hz) (fun v hv => ?_) fun h' d out h1 h2 kp hd hn => ?_
  · obtain ⟨t, rfl⟩ := e2 v hv
    have hm : V.ref t ∈ ts.map V.ref := by rw [e1]; exact List.mem_map.mpr ⟨_, hv, rfl⟩
    obtain ⟨t', hm', e⟩ := List.mem_map.1 hm
    obtain rfl : t' = t := by injection e
    obtain ⟨zs, ne, ht⟩ := hx t' hm'
    obtain ⟨_, its2, r2, o, ho, hc, n, hd⟩ := I.hok _ _ ht
    show IsTS s.heap (.ref t') (tupS H t')
    rw [tupS_at ht]
    exact ⟨t', o, its2.toArray, n, rfl, ho, hc, hd, by simpa using items_of 0 r2, ne⟩
  · have h3 : ∀ u ∈ out, ∃ a, u = Value.ref a := fun u hu => e2 u (h2.perm.mem_iff.mp hu)
    obtain ⟨n, hn⟩ := hn
    have hb : SrtO.Stb (fun x y => ltS (keyV H x) (keyV H y)) (out.map backV) (ts.map V.ref) := by
      rw [e1]
      exact SrtO.Stb.map (swo_ltS (keyV H)) backV h2
    obtain ⟨ts', e3⟩ := refs_all (xs := out.map backV) fun x hx => by
      obtain ⟨u, hu, rfl⟩ := List.mem_map.1 hx
      obtain ⟨b, rfl⟩ := h3 u hu
      exact ⟨b, rfl⟩
    have pm : ts'.Perm ts := perm_refs (by rw [← e3]; exact hb.perm)
    have srt : (ts'.map (tupS H)).Pairwise (fun x y => ltS y x = false) := by
      have z := SrtO.srtd_map (f := backV) (lt := fun x y => ltS (keyV H x) (keyV H y)) h1
      rw [e3] at z
      have z2 : (ts'.map V.ref).Pairwise (fun x y => ltS (keyV H y) (keyV H x) = false) := z
      rw [List.pairwise_map] at z2 ⊢
      exact z2
    refine ⟨.ref d, upd H d (.lst (out.map backV)), I.laid (t' := s.toks) kp hd ⟨?_, out, n, vals_back h3, hn⟩, rfl, ?_⟩
    · rw [hb.len]
      exact hz
    · rw [e3]
      exact q ts' d pm srt (I.hok.fresh hd)
end
end L2
end
-- SetT
section
set_option Elab.async false
set_option linter.all false
set_option maxRecDepth 100000
set_option maxHeartbeats 6000000
/-! ### set(xs) of a list of texts, any number, doubled ones too; len of it -/
namespace TS
open L2 PyProof.Rows PySem PySem.Spec PySem.Calls
/-- how many unlike ones the first i are -/
def met (xs : List Str) : Nat → Nat
  | 0 => 0
  | i + 1 => if xs.getD i Str.empty ∈ xs.take i then met xs i else met xs i + 1
theorem met_le (xs : List Str) : ∀ i, met xs i ≤ i
  | 0 => Nat.le.refl
  | i + 1 => by
    have := met_le xs i
    simp only [met]
    split <;> omega
theorem take_one {xs : List Str} {i : Nat} (h : i < xs.length) : xs.take (i + 1) = xs.take i ++ [xs.getD i Str.empty] := by
  rw [List.take_succ, List.getD_eq_getElem?_getD, List.getElem?_eq_getElem h]
  rfl
theorem met_all {xs : List Str} (u : xs.Nodup) : ∀ i, i ≤ xs.length → met xs i = i
  | 0, _ => rfl
  | i + 1, h => by
    have new : xs.getD i Str.empty ∉ xs.take i := by
      have u' : (xs.take (i + 1)).Nodup := u.sublist (List.take_sublist _ _)
      rw [take_one (by omega), List.nodup_append] at u'
      intro z
      exact u'.2.2 _ z _ (List.mem_singleton_self _) rfl
    simp only [met, if_neg new, met_all u i (by omega)]
section
variable {prog : Program} {w : World} {A : Around} {R : Result → Shared → Prop} {it l S : Addr} {items : Array Value} {xs : List Str}
abbrev Held (prog : Program) (w : World) (h : Heap) (S : Addr) (xs : List Str) (i : Nat) : Prop := h.SetOf (PySem.strKind prog w) S (fun y => decide (y ∈ xs.take i)) (met xs i)
theorem Held.but {h h' : Heap} {i : Nat} (k : ∀ o, h.get? S = some o → h'.get? S = some o) : Held prog w h S xs i → Held prog w h' S xs i := fun ⟨o, es, ep, t, at_, rest⟩ => ⟨o, es, ep, t, k _ at_, rest⟩
/-- the loop that puts them in, from the i-th on -/
theorem puts (hh : A.in1.handled = none) (apart : l ≠ it) (out : S ≠ it ∧ S ≠ l) (are : ∀ (i : Nat) (v : Value), items[i]? = some v → ∃ t, v = Value.str (xs.getD i Str.empty) t) (many : items.size = xs.length) (few : xs.length + 1 < scanBound) :
    ∀ (m i : Nat) (s : Shared), i + m = xs.length → s.heap.IsListIter it l i → s.heap.IsList l items → Held prog w s.heap S xs i →
      (∀ h' tk, (∀ b o, b ≠ S → b ≠ it → s.heap.get? b = some o → h'.get? b = some o) → Held prog w h' S xs xs.length → R (.ok (.ret .none)) { s with heap := h', toks := tk }) →
      codeAny (model prog w) A (.builtin "set.update.loop" ⟨[.ref S, .ref it], []⟩) R s := by
  have W := Walks.list (prog := prog) (w := w) hh it l apart items
  intro m
  induction m with
  | zero =>
    intro i s e a b c k
    obtain rfl : i = xs.length := by omega
    refine (codeAny_builtin PyProof.Rows.F.entry_set_update_loop ?_)
    rw [Around.under_plainId PyProof.Rows.F.plain_set_update_loop]
    change wpAny _ A.in1 (pyNext (.ref it) >>= _) _ _ s
    refine wpAny_bind (W.done s _ _ (many ▸ ⟨a, b⟩) fun h' tk same => ?_)
    change wpAny _ A.in1 (ret Value.none) _ _ _
    have same' : ∀ b o, b ≠ it → s.heap.get? b = some o → h'.get? b = some o := fun b o n => same b o (by simpa using n)
    exact wpAny_pure (k h' tk (fun b o _ n => same' b o n) (c.but fun o => same' S o out.1))
  | succ m more =>
    intro i s e a b c k
    refine (codeAny_builtin PyProof.Rows.F.entry_set_update_loop ?_)
    rw [Around.under_plainId PyProof.Rows.F.plain_set_update_loop]
    change wpAny _ A.in1 (pyNext (.ref it) >>= _) _ _ s
    refine wpAny_bind (W.item i s _ _ (by omega) ⟨a, b⟩ fun v h1 tk1 at_ next same => ?_)
    obtain ⟨t, rfl⟩ := are i v at_
    have same' : ∀ b o, b ≠ it → s.heap.get? b = some o → h1.get? b = some o := fun b o n => same b o (by simpa using n)
    have c1 : Held prog w h1 S xs i := c.but fun o => same' S o out.1
    change wpAny _ A.in1 (holding [Value.str (xs.getD i Str.empty) t] (setAdd S (.str (xs.getD i Str.empty) t)) >>= _) _ _ _
    refine wpAny_bind (wpAny_holding ?add)
    unfold setAdd
    refine wpAny_holding (wpAny_bind ((PySem.strKind prog w).pyHash (k := xs.getD i Str.empty) (strKind_is _ _ _ _) ?_))
    have lim := met_le xs i
    refine wpAny_setAddHashed_of (knd := PySem.strKind prog w) (strKind_is _ _ _ _) rfl c1 (by omega) fun h2 but c2 => ?_
    have c3 : Held prog w h2 S xs (i + 1) := by
      refine SetOf_congr c2 (fun y => ?_) ?_
      · rw [take_one (by omega)]
        simp [List.mem_append]
      · simp only [met, decide_eq_true_eq]
    have keep2 : ∀ b o, b ≠ S → h1.get? b = some o → h2.get? b = some o := fun b o n z => by
      rw [but.2 b n]
      exact z
    refine wpAny_pure ⟨plainId_quiet PyProof.Rows.F.plain_set_update_loop _, more (i + 1) _ (by omega) (next.1.at fun o z => keep2 it o (Ne.symm out.1) z) (next.2.at fun o z => keep2 l o (Ne.symm out.2) z) c3 fun h3 tk3 same3 c4 => ?_⟩
    exact k h3 tk3 (fun b o n1 n2 z => same3 b o n1 n2 (keep2 b o n1 (same' b o n2 z))) c4
end
section
variable {prog : Program} {w : World} {A : Around} {E : Value → Shared → Prop} {l : Addr} {items : Array Value} {xs : List Str} {s : Shared} {led : Bool}
/-- a new set, with nothing in it -/
abbrev bare (led : Bool) : Obj := { cls := .type "set", dict := none, data := .set #[] 0 (.fresh 0 0 led) }
/-- set.__init__(S, xs) of a new one -/
theorem fills (hh : A.handled = none) (hl : s.heap.IsList l items) (are : ∀ (i : Nat) (v : Value), items[i]? = some v → ∃ t, v = Value.str (xs.getD i Str.empty) t) (many : items.size = xs.length) (few : xs.length + 1 < scanBound) :
    codeAny (model prog w) A (.call (.builtin "set.__init__") ⟨[.ref s.heap.objs.size, .ref l], []⟩)
      (wants (fun r s₂ => r = .none ∧ ∃ h' tk, s₂ = { s with heap := h', toks := tk } ∧ Held prog w h' s.heap.objs.size xs xs.length ∧ ∀ b o, s.heap.get? b = some o → h'.get? b = some o) E)
      { s with heap := s.heap.push (bare led) } := by
  have at_ : (s.heap.push (bare led)).get? s.heap.objs.size = some (bare led) := Heap.get?_push_size _ rfl
  have ty : Shared.TypeIs { s with heap := s.heap.push (bare led) } (.ref s.heap.objs.size) "set" := ⟨_, at_, rfl⟩
  obtain ⟨⟨cl, dc, dt, sl⟩, ol, rfl, nl, rfl⟩ := hl
  have in_ := Heap.lt_size ol
  have there : (s.heap.push (bare led)).get? l = some { cls := .type "list", dict := dc, data := .seq items nl, slots := sl } := Heap.get?_push_of_some _ ol
  have isL : (s.heap.push (bare led)).IsList l items := ⟨_, there, rfl, nl, rfl⟩
  have no1 := PySem.F.sub_list_set
  have no2 := PySem.F.sub_list_frozenset
  have no3 : (Value.type "list" == Value.type "dict") = false := by decide
  refine codeAny_call_builtin PySem.F.called_set.init.plain PySem.F.entry_set_init (check_set_init_1 ty ?_)
  unfold PySem.Builtin.«set.__init__» noKeywords Builtin.Frozenset.updateFrom
  generalize walk : pyIter = walking
  wp_walk
  subst walk
  refine wpAny_pyIter_list isL (wpAny_bind (wpAny_runValue ?_))
  have size1 : (s.heap.push (bare led)).objs.size = s.heap.objs.size + 1 := Heap.size_push _ _
  have quiet : A.in1.in1.handled = none := by simp [hh]
  refine puts (it := (s.heap.push (bare led)).objs.size) (S := s.heap.objs.size) (l := l) (items := items) (xs := xs) quiet (by rw [size1]; exact Nat.ne_of_lt (Nat.lt_succ_of_lt in_)) ⟨by rw [size1]; exact Nat.ne_of_lt (Nat.lt_succ_self _), Nat.ne_of_gt in_⟩ are many few xs.length 0 _ (Nat.zero_add _) ?_ ?_ ?_ ?_
  · exact ⟨_, Heap.get?_push_size _ rfl, rfl, rfl⟩
  · exact isL.push _
  · have new := (PyProof.Rows.setObjOf_fresh (knd := PySem.strKind prog w) led).setOf (Heap.get?_push_of_some { cls := .type "list_iterator", data := .fields #[.ref l, .int 0 0] } at_) (by unfold scanBound; omega)
    exact SetOf_congr new (fun y => by simp) rfl
  · intro h' tk same held
    change wpAny _ _ _ _ _ _
    refine wpAny_pure ?_
    change wpAny _ _ (ret Value.none) _ _ _
    refine wpAny_pure ⟨rfl, h', tk, rfl, held, fun b o z => ?_⟩
    have lt := Heap.lt_size z
    exact same b o (Nat.ne_of_lt lt) (by change b ≠ (s.heap.push (bare led)).objs.size; rw [size1]; exact Nat.ne_of_lt (Nat.lt_succ_of_lt lt)) (Heap.get?_push_of_some _ (Heap.get?_push_of_some _ z))
/-- set(xs) -/
theorem set_called (hh : A.handled = none) (hl : s.heap.IsList l items) (are : ∀ (i : Nat) (v : Value), items[i]? = some v → ∃ t, v = Value.str (xs.getD i Str.empty) t) (many : items.size = xs.length) (few : xs.length + 1 < scanBound) {Q : Value → Shared → Prop}
    (h : ∀ h' tk, Held prog w h' s.heap.objs.size xs xs.length → (∀ b o, s.heap.get? b = some o → h'.get? b = some o) → Q (.ref s.heap.objs.size) { s with heap := h', toks := tk }) :
    wpAny (model prog w) A (call (Value.type "set") [.ref l]) Q E s := by
  have C := PySem.F.called_set
  obtain ⟨c, tl, mro⟩ := C.mro
  have made := C.made
  have sub := C.sub
  have own := C.notType
  have can := C.canCreate
  have checks := PySem.F.typeCall_set_1 (.ref l)
  refine wpAny_call (codeAny_of_tree ?call)
  change wpAny _ _ (callAny (.type "set") _) _ _ _
  refine wpAny_pure ⟨Code.quiet_builtin _ (by decide +kernel), codeAny_builtin PySem.F.entry_type_call ?made⟩
  rw [Around.under_plain (weight_type_call_type "set" [Value.ref l] []) rfl]
  repeat (any_goals first | assumption | wp_step)
  refine codeAny_mono (code_set_new_1 (.ref l) (E := E) (Q₁ := fun o s₁ => ∃ led : Bool, o = .ref s.heap.objs.size ∧ s₁ = { s with heap := s.heap.push (bare led) }) fun led => ⟨led, rfl, rfl⟩) fun r s₁ new => ?_
  rcases r with e | (o | _ | _ | _) <;> first | exact new | exact new.elim | skip
  obtain ⟨led, rfl, rfl⟩ := new
  have ty : Shared.TypeIs { s with heap := s.heap.push (bare led) } (.ref s.heap.objs.size) "set" := ⟨_, Heap.get?_push_size _ rfl, rfl⟩
  have look := C.init.lookup
  have bound := C.init.bind (.ref s.heap.objs.size)
  repeat (any_goals first | assumption | wp_step)
  refine codeAny_mono (fills (prog := prog) (w := w) (A := A.in1) (E := E) (led := led) (by simpa using hh) hl are many few) fun r₂ s₂ got => ?_
  rcases r₂ with e | (o | _ | _ | _) <;> first | exact got | exact got.elim | skip
  obtain ⟨rfl, h', tk, rfl, held, same⟩ := got
  repeat (any_goals first | assumption | wp_step)
  exact h h' tk held same
end
end TS
namespace TS
open L2 PyProof.Rows PySem PySem.Spec PySem.Calls
theorem at_of {ys : List Str} {us : List Value} (r : Vals (ys.map V.str) us) (i : Nat) (v : Value) (h : us.toArray[i]? = some v) : ∃ t, v = Value.str (ys.getD i Str.empty) t := by
  have h' : us[i]? = some v := by simpa using h
  have lt : i < ys.length := by
    have := r.length
    rw [List.length_map] at this
    rw [this]
    exact (List.getElem?_eq_some_iff.1 h').1
  have y : (ys.map V.str)[i]? = some (V.str (ys.getD i Str.empty)) := by
    rw [List.getElem?_map, List.getD_eq_getElem?_getD, List.getElem?_eq_getElem lt]
    rfl
  obtain ⟨u, hu, t, rfl⟩ := r.get y
  rw [h'] at hu
  exact ⟨t, Option.some.inj hu⟩
/-- len(set(xs)), where xs is a list of texts -/
def tLenSetT (K : PySem.W.Frag) (ta : TE) : TE := fun σ H Q => ta σ H fun x H1 => ∃ (l : Addr) (xs : List Str), x = .ref l ∧ SqL K H1 l (xs.map V.str) ∧ xs.length ≤ 1000 ∧ Q (.int ((met xs xs.length : Nat) : Int)) H1
theorem pe_lenSetT {X : Cx} {K : PySem.W.Frag} {a : Expr} {ta : TE} {p p2 q pos : Pos} (calm : X.calm = true) (hg : Gl X "len") (hm : X.mg "len" = none) (hg2 : Gl X "set") (hm2 : X.mg "set" = none) (ha : PE X a ta) (hK : X.K = K := by rfl)
    (na : starEach [a] X.env = (false, eval a X.env) :: starEach [] X.env := by rfl) : PE X (.Call (.Name "len" p) [.Call (.Name "set" p2) [a] [] q] [] pos) (tLenSetT K ta) where
  run pins s σ H Q I h := by
    subst hK
    refine Call_ (ld_blt I hg hm boot_len (PyProof.Rows.callWith_builtin1 (PyProof.Rows.args_cons ?_ rfl) rfl rfl))
    refine Call_ (ld_blt I hg2 hm2 boot_set (PyProof.Rows.callWith_type1 (PyProof.Rows.args_cons (thn (ha.run pins s σ H _ I h) ?_) na) na rfl))
    rintro v s1 ⟨x, H1, J, rv, l, xs, rfl, sq, few, k⟩
    obtain rfl : v = .ref l := rv
    obtain ⟨us, rel, pl, _⟩ := J.list sq
    have many : us.toArray.size = xs.length := by rw [List.size_toArray, ← rel.length, List.length_map]
    refine PyProof.Rows.args_nil (set_called (J.ok.hd calm) pl.isList (at_of rel) many (by unfold scanBound; omega) fun h' tk held same => PyProof.Rows.args_nil ?_)
    obtain ⟨o, es, ep, t, at_, ex, dt, _, _, _, hf, n⟩ := held
    have J2 : Inv X pins σ H1 { s1 with heap := h', toks := tk } := J.kept same
    have le := met_le xs xs.length
    refine call_len_set at_ ex dt hf (by rw [n]; omega) ⟨_, H1, J2.tok _, ?_, k⟩
    exact ⟨_, by rw [n]⟩
end TS
end
-- TL2
section
set_option Elab.async false
set_option linter.all false
set_option maxRecDepth 100000
set_option maxHeartbeats 4100000
/-! TL2: operations, tree by tree -/
variable [TL.Tb]
namespace TL
open L2 PyProof.Rows PySem PySem.Spec TS
/-! ### trees as data -/
mutual
@[simp] def toP : D → PyData
  | .non => .none
  | .bl b => .bool b
  | .int i => .int i
  | .str s => .str s
  | .lst ds => .list (toPs ds)
  | .tup ds => .tuple (toPs ds)
  | _ => .dict []
@[simp] def toPs : List D → List PyData
  | [] => []
  | d :: r => toP d :: toPs r
end
mutual
/-- no dict, no object in it -/
@[simp] def pln : D → Bool
  | .non => true
  | .bl _ => true
  | .int _ => true
  | .str _ => true
  | .lst ds => plns ds
  | .tup ds => plns ds
  | _ => false
@[simp] def plns : List D → Bool
  | [] => true
  | d :: r => pln d && plns r
/-- how deep -/
@[simp] def dep : D → Nat
  | .lst ds => deps ds + 1
  | .tup ds => deps ds + 1
  | .dk _ _ => 1
  | .dt _ _ => 1
  | .sh _ _ => 1
  | .ob _ _ _ => 1
  | .purse => 1
  | .pin _ => 1
  | .er _ _ => 1
  | _ => 0
@[simp] def deps : List D → Nat
  | [] => 0
  | d :: r => max (dep d) (deps r)
end
mutual
theorem pln_plain : ∀ d : D, pln d = true → (toP d).plain = true
  | .non, _ => rfl
  | .bl _, _ => rfl
  | .int _, _ => rfl
  | .str _, _ => rfl
  | .lst ds, h => plns_plain ds h
  | .tup ds, h => plns_plain ds h
theorem plns_plain : ∀ ds : List D, plns ds = true → PyData.plainAll (toPs ds) = true
  | [], _ => rfl
  | d :: r, h => by
    rw [plns, Bool.and_eq_true] at h
    rw [toPs, PyData.plainAll, pln_plain d h.1, plns_plain r h.2]
    rfl
theorem dep_depth : ∀ d : D, (toP d).depth ≤ dep d
  | .non => Nat.le.refl
  | .bl _ => Nat.le.refl
  | .int _ => Nat.le.refl
  | .str _ => Nat.le.refl
  | .lst ds => by rw [toP, dep, PyData.depth]; have := deps_depth ds; omega
  | .tup ds => by rw [toP, dep, PyData.depth]; have := deps_depth ds; omega
  | .dk _ _ => by simp [PyData.depth, PyData.depthKv]
  | .dt _ _ => by simp [PyData.depth, PyData.depthKv]
  | .sh _ _ => by simp [PyData.depth, PyData.depthKv]
  | .ob _ _ _ => by simp [PyData.depth, PyData.depthKv]
  | .purse => by simp [PyData.depth, PyData.depthKv]
  | .pin _ => by simp [PyData.depth, PyData.depthKv]
  | .er _ _ => by simp [PyData.depth, PyData.depthKv]
theorem deps_depth : ∀ ds : List D, PyData.depthAll (toPs ds) ≤ deps ds
  | [] => Nat.le.refl
  | d :: r => by
    rw [toPs, deps, PyData.depthAll]
    have h1 := dep_depth d
    have h2 := deps_depth r
    omega
end
section
variable {p : Pz} {C : Addr} {W : Addr → Prop} {H : Hp} {K : PySem.W.Frag}
mutual
theorem Rep.dp : ∀ {d : D} {v : V}, pln d = true → Rep p C W H d v → Dp K H v (toP d)
  | .non, _, _, e => by rw [show _ = V.non from e]; exact .non
  | .bl b, _, _, e => by rw [show _ = V.bl b from e]; exact .bl b
  | .int i, _, _, e => by rw [show _ = V.int i from e]; exact .int i
  | .str s, _, _, e => by rw [show _ = V.str s from e]; exact .str s
  | .lst ds, _, h, ⟨a, e, _, vs, ha, r⟩ => by rw [e]; exact .lst (SqL.of ha) (RepL.dp h r)
  | .tup ds, _, h, ⟨a, e, _, vs, ha, r⟩ => by rw [e]; exact .tup (SqT.of ha) (RepL.dp h r)
theorem RepL.dp : ∀ {ds : List D} {vs : List V}, plns ds = true → RepL p C W H ds vs → DpAll K H vs (toPs ds)
  | [], _, _, e => by rw [show _ = [] from e]; exact .nil
  | d :: r, _, h, ⟨v, vr, e, h1, h2⟩ => by
    rw [plns, Bool.and_eq_true] at h
    rw [e]
    exact .cons (h1.dp h.1) (h2.dp h.2)
end
theorem View.dp {d : D} {v : V} (h : pln d = true) (q : View p C W H d v) : Dp K H v (toP d) := by
  rcases q with q | ⟨a, e, _, r⟩
  · exact q.dp h
  · match d, h, r with
    | .lst ds, h, ⟨vs, ha, r⟩ => rw [e]; exact .lst (SqL.of ha) (r.dp h)
    | .tup ds, h, ⟨vs, ha, r⟩ => rw [e]; exact .tup (SqT.of ha) (r.dp h)
end
/-! ### the machine's rules, without a wish about texts -/
section
variable {X : Cx}
def rEqP (K : PySem.W.Frag) : R2 := fun x y H Q => ∃ d e, Dp K H x d ∧ Dp K H y e ∧ d.plain = true ∧ e.plain = true ∧ min d.depth e.depth ≤ 60 ∧ Q (.bl (PyData.eqv d e)) H
def rNeP (K : PySem.W.Frag) : R2 := fun x y H Q => ∃ d e, Dp K H x d ∧ Dp K H y e ∧ d.plain = true ∧ e.plain = true ∧ min d.depth e.depth ≤ 60 ∧ Q (.bl (!PyData.eqv d e)) H
def rInP (K : PySem.W.Frag) : R2 := fun x y H Q => ∃ d ds, Dp K H x d ∧ (Dp K H y (.list ds) ∨ Dp K H y (.tuple ds)) ∧ d.plain = true ∧ PyData.plainAll ds = true ∧ min (PyData.depthAll ds) d.depth ≤ 60 ∧ Q (.bl (ds.any fun z => PyData.eqv z d)) H
def rNinP (K : PySem.W.Frag) : R2 := fun x y H Q => ∃ d ds, Dp K H x d ∧ (Dp K H y (.list ds) ∨ Dp K H y (.tuple ds)) ∧ d.plain = true ∧ PyData.plainAll ds = true ∧ min (PyData.depthAll ds) d.depth ≤ 60 ∧ Q (.bl (!ds.any fun z => PyData.eqv z d)) H
theorem op_eqP (hu : X.A.units + 62 < cLine) : OpR X (compareOp .Eq) (rEqP X.K) := by
  intro pins s σ H x y v u Q I rx ry h
  obtain ⟨d, e, hd, he, p1, p2, dp, q⟩ := h
  obtain ⟨as, r1⟩ := Dp.reads I d x v hd rx
  obtain ⟨bs, r2⟩ := Dp.reads I e y u he ry
  exact SeqAt.eq_plain r1 r2 p1 p2 (by omega) ⟨.bl _, H, I, rfl, q⟩
theorem op_neP (hu : X.A.units + 62 < cLine) : OpR X (compareOp .NotEq) (rNeP X.K) := by
  intro pins s σ H x y v u Q I rx ry h
  obtain ⟨d, e, hd, he, p1, p2, dp, q⟩ := h
  obtain ⟨as, r1⟩ := Dp.reads I d x v hd rx
  obtain ⟨bs, r2⟩ := Dp.reads I e y u he ry
  exact SeqAt.ne_plain r1 r2 p1 p2 (by omega) ⟨.bl _, H, I, rfl, q⟩
theorem op_inP (hu : X.A.units + 62 < cLine) : OpR X (compareOp .In) (rInP X.K) := by
  intro pins s σ H x y v u Q I rx ry h
  obtain ⟨d, ds, hd, he, p1, p2, dp, q⟩ := h
  obtain ⟨as, r1⟩ := Dp.reads I d x v hd rx
  rcases he with he | he
  · obtain ⟨bs, r2⟩ := Dp.reads I (.list ds) y u he ry
    exact SeqAt.in_list_data r2 r1 p2 p1 (by omega) ⟨.bl _, H, I, rfl, q⟩
  · obtain ⟨bs, r2⟩ := Dp.reads I (.tuple ds) y u he ry
    exact SeqAt.in_tuple_data r2 r1 p2 p1 (by omega) ⟨.bl _, H, I, rfl, q⟩
theorem op_ninP (hu : X.A.units + 62 < cLine) : OpR X (compareOp .NotIn) (rNinP X.K) := by
  intro pins s σ H x y v u Q I rx ry h
  obtain ⟨d, ds, hd, he, p1, p2, dp, q⟩ := h
  obtain ⟨as, r1⟩ := Dp.reads I d x v hd rx
  rcases he with he | he
  · obtain ⟨bs, r2⟩ := Dp.reads I (.list ds) y u he ry
    exact SeqAt.notIn_list_data r2 r1 p2 p1 (by omega) ⟨.bl _, H, I, rfl, q⟩
  · obtain ⟨bs, r2⟩ := Dp.reads I (.tuple ds) y u he ry
    exact SeqAt.notIn_tuple_data r2 r1 p2 p1 (by omega) ⟨.bl _, H, I, rfl, q⟩
def orR (r r' : R2) : R2 := fun x y H Q => r x y H Q ∨ r' x y H Q
def rAddA (K : PySem.W.Frag) : R2 := orR (rI0 fun i j => .int (i + j)) (orR rCat (orR (rCatA K) fun x y H Q => ∃ i j, x = .str i ∧ y = .str j ∧ i.length + j.length ≤ sizeLine ∧ Q (.str (i ++ j)) H))
theorem op_addA : OpR X (binaryOp .Add) (rAddA X.K) := OpR.or op_add (OpR.or op_cat (OpR.or op_catA op_add_str))
def rMulA : R2 := orR (rI CMul fun i j => .int (i * j)) rRep
theorem op_mulA : OpR X (binaryOp .Mult) rMulA := OpR.or op_mul op_rep
def rLtA : R2 := orR (rI0 fun i j => .bl (decide (i < j))) fun x y H Q => ∃ i j, x = .str i ∧ y = .str j ∧ Q (.bl (decide (i.cps.toList < j.cps.toList))) H
theorem op_ltA : OpR X (compareOp .Lt) rLtA := OpR.or op_lt op_lt_str
def rIxA (K : PySem.W.Frag) : R2 := orR (rIxL K) (orR (rIxT K) rIxS)
theorem ix_any : IxR X (rIxA X.K) := IxR.or ix_list (IxR.or ix_tup ix_str)
def rSlAll (K : PySem.W.Frag) : V → Option Int → Option Int → Hp → VK → Prop := fun x lo hi H Q => rSlL K x lo hi H Q ∨ (rSlA K x lo hi H Q ∨ rSlS x lo hi H Q)
theorem sl_any : SlR X (rSlAll X.K) := SlR.or sl_list (SlR.or sl_tupA sl_str)
end
/-! ### what they do to trees -/
def dAdd : D → D → (Rv → Prop) → Prop
  | .int i, .int j, R => R (.val (.int (i + j)))
  | .lst a, .lst b, R => a.length + b.length ≤ 1000000 ∧ R (.new (.lst (a ++ b)))
  | .tup a, .tup b, R => a.length + b.length ≤ 1000000 ∧ a ≠ [] ∧ b ≠ [] ∧ R (.new (.tup (a ++ b)))
  | .str a, .str b, R => a.length + b.length ≤ 1000000 ∧ R (.val (.str (a ++ b)))
  | _, _, _ => False
def dSub : D → D → (Rv → Prop) → Prop
  | .int i, .int j, R => R (.val (.int (i - j)))
  | _, _, _ => False
def dMul : D → D → (Rv → Prop) → Prop
  | .int i, .int j, R => ((-(2 ^ 64) < i ∧ i < 2 ^ 64) ∨ (-(2 ^ 64) < j ∧ j < 2 ^ 64)) ∧ R (.val (.int (i * j)))
  | .lst a, .int k, R => 0 ≤ k ∧ k ≤ 1000000 ∧ a.length * k.toNat ≤ 1000000 ∧ R (.new (.lst (List.replicate k.toNat a).flatten))
  | _, _, _ => False
def dFdiv : D → D → (Rv → Prop) → Prop
  | .int i, .int j, R => 0 < j ∧ j < 1073741824 ∧ R (.val (.int (i / j)))
  | _, _, _ => False
def dMod : D → D → (Rv → Prop) → Prop
  | .int i, .int j, R => 0 < j ∧ R (.val (.int (i % j)))
  | _, _, _ => False
def dEq : D → D → (Rv → Prop) → Prop
  | .int i, .int j, R => R (.val (.bl (decide (i = j))))
  | .str i, .str j, R => R (.val (.bl (decide (i = j))))
  | d, e, R => pln d = true ∧ pln e = true ∧ min (dep d) (dep e) ≤ 60 ∧ R (.val (.bl (PyData.eqv (toP d) (toP e))))
def dNe : D → D → (Rv → Prop) → Prop
  | .int i, .int j, R => R (.val (.bl (!decide (i = j))))
  | .str i, .str j, R => R (.val (.bl (!decide (i = j))))
  | d, e, R => pln d = true ∧ pln e = true ∧ min (dep d) (dep e) ≤ 60 ∧ R (.val (.bl (!PyData.eqv (toP d) (toP e))))
def dIn : D → D → (Rv → Prop) → Prop
  | d, .lst ds, R => pln d = true ∧ plns ds = true ∧ min (deps ds) (dep d) ≤ 60 ∧ R (.val (.bl (ds.any fun z => PyData.eqv (toP z) (toP d))))
  | d, .tup ds, R => pln d = true ∧ plns ds = true ∧ min (deps ds) (dep d) ≤ 60 ∧ R (.val (.bl (ds.any fun z => PyData.eqv (toP z) (toP d))))
  | _, _, _ => False
def dNin : D → D → (Rv → Prop) → Prop
  | d, .lst ds, R => pln d = true ∧ plns ds = true ∧ min (deps ds) (dep d) ≤ 60 ∧ R (.val (.bl (!ds.any fun z => PyData.eqv (toP z) (toP d))))
  | d, .tup ds, R => pln d = true ∧ plns ds = true ∧ min (deps ds) (dep d) ≤ 60 ∧ R (.val (.bl (!ds.any fun z => PyData.eqv (toP z) (toP d))))
  | _, _, _ => False
def dLt : D → D → (Rv → Prop) → Prop
  | .int i, .int j, R => R (.val (.bl (decide (i < j))))
  | .str i, .str j, R => R (.val (.bl (decide (i.cps.toList < j.cps.toList))))
  | _, _, _ => False
def dLe : D → D → (Rv → Prop) → Prop
  | .int i, .int j, R => R (.val (.bl (decide (i ≤ j))))
  | _, _, _ => False
def dGt : D → D → (Rv → Prop) → Prop
  | .int i, .int j, R => R (.val (.bl (decide (j < i))))
  | _, _, _ => False
def dGe : D → D → (Rv → Prop) → Prop
  | .int i, .int j, R => R (.val (.bl (decide (j ≤ i))))
  | _, _, _ => False
def isNon : D → Bool
  | .non => true
  | _ => false
def dIsN : D → D → (Rv → Prop) → Prop
  | d, .non, R => R (.val (.bl (isNon d)))
  | _, _, _ => False
def dNotN : D → D → (Rv → Prop) → Prop
  | d, .non, R => R (.val (.bl (!isNon d)))
  | _, _, _ => False
/-- the item at an index, also from behind -/
def dIx : D → D → (Rv → Prop) → Prop
  | .lst ds, .int i, R => ∃ d, atI ds i = some d ∧ R (.val d)
  | .tup ds, .int i, R => ∃ d, atI ds i = some d ∧ R (.val d)
  | .str z, .int i, R => z.length ≤ 1000000 ∧ ∃ c, atI z.cps.toList i = some c ∧ R (.val (.str ⟨#[c]⟩))
  | _, _, _ => False
def dNeg : D → (Rv → Prop) → Prop
  | .int i, R => R (.val (.int (-i)))
  | _, _ => False
section
variable {C : Addr} {Z : Zx} {K : PySem.W.Frag}
theorem line_of {n : Nat} (h : n ≤ 1000000) : n ≤ sizeLine := Nat.le_trans h (by decide +kernel)
theorem new_lst {W : Addr → Prop} {H : Hp} {ds : List D} {vs : List V} {R : Rv → Prop} {Q : VK} (r : RepL Z.p C W H ds vs) (h : R (.new (.lst ds))) (q : ∀ v H' r, Same H H' → XOk C Z W H H' r v → R r → Q v H') : ∀ a, H a = none → Q (.ref a) (upd H a (.lst vs)) := fun a na =>
  q _ _ (.new (.lst ds)) (same_upd na) ⟨a, rfl, na, vs, upd_same, r.mono (fresh_rep (p := Z.p) (C := C) na)⟩ h
theorem new_tup {W : Addr → Prop} {H : Hp} {ds : List D} {vs : List V} {R : Rv → Prop} {Q : VK} (r : RepL Z.p C W H ds vs) (h : R (.new (.tup ds))) (q : ∀ v H' r, Same H H' → XOk C Z W H H' r v → R r → Q v H') : ∀ a, H a = none → Q (.ref a) (upd H a (.tup vs)) := fun a na =>
  q _ _ (.new (.tup ds)) (same_upd na) ⟨a, rfl, na, vs, upd_same, r.mono (fresh_rep (p := Z.p) (C := C) na)⟩ h
theorem same_bl {W : Addr → Prop} {H : Hp} {b : Bool} {R : Rv → Prop} {Q : VK} (h : R (.val (.bl b))) (q : ∀ v H' r, Same H H' → XOk C Z W H H' r v → R r → Q v H') : Q (.bl b) H := q _ H (.val (.bl b)) (Same.refl H) (rfl : V.bl b = V.bl b) h
theorem same_int {W : Addr → Prop} {H : Hp} {i : Int} {R : Rv → Prop} {Q : VK} (h : R (.val (.int i))) (q : ∀ v H' r, Same H H' → XOk C Z W H H' r v → R r → Q v H') : Q (.int i) H := q _ H (.val (.int i)) (Same.refl H) (rfl : V.int i = V.int i) h
theorem same_str {W : Addr → Prop} {H : Hp} {i : Str} {R : Rv → Prop} {Q : VK} (h : R (.val (.str i))) (q : ∀ v H' r, Same H H' → XOk C Z W H H' r v → R r → Q v H') : Q (.str i) H := q _ H (.val (.str i)) (Same.refl H) (rfl : V.str i = V.str i) h
theorem app_ne {ds : List D} {vs : List V} {p : Pz} {W : Addr → Prop} {H : Hp} (r : RepL p C W H ds vs) (h : ds ≠ []) : vs ≠ [] := by
  intro e
  have l := r.len
  rw [e] at l
  exact h (List.length_eq_zero_iff.1 l.symm)
theorem r2_add : R2T C Z (rAddA K) dAdd := by
  intro W H x y d e R Q hp dm hx hy h q
  unfold dAdd at h
  split at h
  · exact .inl ⟨_, _, hx.int, hy.int, same_int h q⟩
  · obtain ⟨a, vs, rfl, ha, r1⟩ := hx.lst
    obtain ⟨b, us, rfl, hb, r2⟩ := hy.lst
    exact .inr (.inl ⟨a, b, vs, us, rfl, rfl, ha, hb, by rw [r1.len, r2.len]; exact line_of h.1, new_lst (r1.app r2) h.2 q⟩)
  · obtain ⟨a, vs, rfl, ha, r1⟩ := hx.tup
    obtain ⟨b, us, rfl, hb, r2⟩ := hy.tup
    exact .inr (.inr (.inl ⟨a, b, vs, us, rfl, rfl, SqT.of ha, SqT.of hb, by rw [r1.len, r2.len]; exact line_of h.1, fun e => absurd e (app_ne r1 h.2.1), fun _ e => absurd e (app_ne r2 h.2.2.1), fun _ _ => new_tup (r1.app r2) h.2.2.2 q⟩))
  · exact .inr (.inr (.inr ⟨_, _, hx.str, hy.str, line_of h.1, same_str h.2 q⟩))
  · exact h.elim
theorem r2_sub : R2T C Z (rI0 fun i j => .int (i - j)) dSub := by
  intro W H x y d e R Q hp dm hx hy h q
  unfold dSub at h
  split at h
  · exact ⟨_, _, hx.int, hy.int, same_int h q⟩
  · exact h.elim
theorem flat_rep {p : Pz} {W : Addr → Prop} {H : Hp} {ds : List D} {vs : List V} (r : RepL p C W H ds vs) : ∀ k : Nat, RepL p C W H (List.replicate k ds).flatten (List.replicate k vs).flatten
  | 0 => rfl
  | k + 1 => by
    rw [List.replicate_succ, List.replicate_succ, List.flatten_cons, List.flatten_cons]
    exact r.app (flat_rep r k)
theorem r2_mul : R2T C Z rMulA dMul := by
  intro W H x y d e R Q hp dm hx hy h q
  unfold dMul at h
  split at h
  · exact .inl ⟨_, _, hx.int, hy.int, h.1, same_int h.2 q⟩
  · obtain ⟨a, vs, rfl, ha, r1⟩ := hx.lst
    obtain ⟨h1, h2, h3, h4⟩ := h
    exact .inr ⟨a, _, vs, rfl, hy.int, ha, by omega, by omega, by rw [r1.len]; exact line_of h3, new_lst (flat_rep r1 _) h4 q⟩
  · exact h.elim
theorem r2_fdiv : R2T C Z (rI CDiv fun i j => .int (i / j)) dFdiv := by
  intro W H x y d e R Q hp dm hx hy h q
  unfold dFdiv at h
  split at h
  · exact ⟨_, _, hx.int, hy.int, ⟨h.1, h.2.1⟩, same_int h.2.2 q⟩
  · exact h.elim
theorem r2_mod : R2T C Z (rI (fun _ j => 0 < j) fun i j => .int (i % j)) dMod := by
  intro W H x y d e R Q hp dm hx hy h q
  unfold dMod at h
  split at h
  · exact ⟨_, _, hx.int, hy.int, h.1, same_int h.2 q⟩
  · exact h.elim
theorem min_le {a b c d n : Nat} (h1 : a ≤ c) (h2 : b ≤ d) (h : min c d ≤ n) : min a b ≤ n := by omega
theorem r2_eq : R2T C Z (rEqP K) dEq := by
  intro W H x y d e R Q hp dm hx hy h q
  have key : pln d = true → pln e = true → min (dep d) (dep e) ≤ 60 → R (.val (.bl (PyData.eqv (toP d) (toP e)))) → rEqP K x y H Q := fun h1 h2 h3 h4 =>
    ⟨toP d, toP e, hx.dp h1, hy.dp h2, pln_plain d h1, pln_plain e h2, min_le (dep_depth d) (dep_depth e) h3, same_bl h4 q⟩
  unfold dEq at h
  split at h
  · next i j =>
    refine key rfl rfl (by simp) ?_
    have e2 : PyData.eqv (toP (.int i)) (toP (.int j)) = decide (i = j) := by simp only [toP, PyData.eqv]; exact Bool.beq_eq_decide_eq _ _
    rw [e2]; exact h
  · next i j =>
    refine key rfl rfl (by simp) ?_
    have e2 : PyData.eqv (toP (.str i)) (toP (.str j)) = decide (i = j) := by simp only [toP, PyData.eqv]; exact Bool.beq_eq_decide_eq _ _
    rw [e2]; exact h
  · exact key h.1 h.2.1 h.2.2.1 h.2.2.2
theorem r2_ne : R2T C Z (rNeP K) dNe := by
  intro W H x y d e R Q hp dm hx hy h q
  have key : pln d = true → pln e = true → min (dep d) (dep e) ≤ 60 → R (.val (.bl (!PyData.eqv (toP d) (toP e)))) → rNeP K x y H Q := fun h1 h2 h3 h4 =>
    ⟨toP d, toP e, hx.dp h1, hy.dp h2, pln_plain d h1, pln_plain e h2, min_le (dep_depth d) (dep_depth e) h3, same_bl h4 q⟩
  unfold dNe at h
  split at h
  · next i j =>
    refine key rfl rfl (by simp) ?_
    have e2 : PyData.eqv (toP (.int i)) (toP (.int j)) = decide (i = j) := by simp only [toP, PyData.eqv]; exact Bool.beq_eq_decide_eq _ _
    rw [e2]; exact h
  · next i j =>
    refine key rfl rfl (by simp) ?_
    have e2 : PyData.eqv (toP (.str i)) (toP (.str j)) = decide (i = j) := by simp only [toP, PyData.eqv]; exact Bool.beq_eq_decide_eq _ _
    rw [e2]; exact h
  · exact key h.1 h.2.1 h.2.2.1 h.2.2.2
theorem any_toPs (d : PyData) : ∀ ds : List D, (toPs ds).any (fun z => PyData.eqv z d) = ds.any fun z => PyData.eqv (toP z) d
  | [] => rfl
  | x :: r => by rw [toPs, List.any_cons, List.any_cons, any_toPs d r]
theorem View.dpL {W : Addr → Prop} {H : Hp} {p : Pz} {ds : List D} {v : V} (h : View p C W H (.lst ds) v) (hp : plns ds = true) : Dp K H v (.list (toPs ds)) := View.dp (d := .lst ds) hp h
theorem View.dpT {W : Addr → Prop} {H : Hp} {p : Pz} {ds : List D} {v : V} (h : View p C W H (.tup ds) v) (hp : plns ds = true) : Dp K H v (.tuple (toPs ds)) := View.dp (d := .tup ds) hp h
theorem r2_in : R2T C Z (rInP K) dIn := by
  intro W H x y d e R Q hp dm hx hy h q
  unfold dIn at h
  split at h
  · next ds => exact ⟨toP d, toPs ds, hx.dp h.1, .inl (hy.dpL h.2.1), pln_plain d h.1, plns_plain ds h.2.1, min_le (deps_depth ds) (dep_depth d) h.2.2.1, by rw [any_toPs]; exact same_bl h.2.2.2 q⟩
  · next ds => exact ⟨toP d, toPs ds, hx.dp h.1, .inr (hy.dpT h.2.1), pln_plain d h.1, plns_plain ds h.2.1, min_le (deps_depth ds) (dep_depth d) h.2.2.1, by rw [any_toPs]; exact same_bl h.2.2.2 q⟩
  · exact h.elim
theorem r2_nin : R2T C Z (rNinP K) dNin := by
  intro W H x y d e R Q hp dm hx hy h q
  unfold dNin at h
  split at h
  · next ds => exact ⟨toP d, toPs ds, hx.dp h.1, .inl (hy.dpL h.2.1), pln_plain d h.1, plns_plain ds h.2.1, min_le (deps_depth ds) (dep_depth d) h.2.2.1, by rw [any_toPs]; exact same_bl h.2.2.2 q⟩
  · next ds => exact ⟨toP d, toPs ds, hx.dp h.1, .inr (hy.dpT h.2.1), pln_plain d h.1, plns_plain ds h.2.1, min_le (deps_depth ds) (dep_depth d) h.2.2.1, by rw [any_toPs]; exact same_bl h.2.2.2 q⟩
  · exact h.elim
theorem r2_lt : R2T C Z rLtA dLt := by
  intro W H x y d e R Q hp dm hx hy h q
  unfold dLt at h
  split at h
  · exact .inl ⟨_, _, hx.int, hy.int, same_bl h q⟩
  · exact .inr ⟨_, _, hx.str, hy.str, same_bl h q⟩
  · exact h.elim
theorem r2_le : R2T C Z (rI0 fun i j => .bl (decide (i ≤ j))) dLe := by
  intro W H x y d e R Q hp dm hx hy h q
  unfold dLe at h
  split at h
  · exact ⟨_, _, hx.int, hy.int, same_bl h q⟩
  · exact h.elim
theorem r2_gt : R2T C Z (rI0 fun i j => .bl (decide (j < i))) dGt := by
  intro W H x y d e R Q hp dm hx hy h q
  unfold dGt at h
  split at h
  · exact ⟨_, _, hx.int, hy.int, same_bl h q⟩
  · exact h.elim
theorem r2_ge : R2T C Z (rI0 fun i j => .bl (decide (j ≤ i))) dGe := by
  intro W H x y d e R Q hp dm hx hy h q
  unfold dGe at h
  split at h
  · exact ⟨_, _, hx.int, hy.int, same_bl h q⟩
  · exact h.elim
theorem View.isNon {p : Pz} {W : Addr → Prop} {H : Hp} : ∀ {d : D} {v : V}, View p C W H d v → decide (v = .non) = isNon d
  | .non, _, h => by rw [h.non]; rfl
  | .bl b, _, h => by rw [h.bl]; rfl
  | .int b, _, h => by rw [h.int]; rfl
  | .str b, _, h => by rw [h.str]; rfl
  | .lst _, _, h => by obtain ⟨a, _, rfl, _⟩ := h.lst; rfl
  | .tup _, _, h => by obtain ⟨a, _, rfl, _⟩ := h.tup; rfl
  | .dk _ _, _, h => by obtain ⟨a, _, rfl, _⟩ := h.dk; rfl
  | .dt _ _, _, h => by rcases h with ⟨a, rfl, _⟩ | ⟨a, rfl, _⟩ <;> rfl
  | .sh _ _, _, h => by obtain ⟨a, _, _, _, rfl, _⟩ := h.sh; rfl
  | .ob _ _ _, _, h => by rcases h with ⟨a, rfl, _⟩ | ⟨a, rfl, _⟩ <;> rfl
  | .purse, _, h => by rcases h with ⟨a, rfl, _⟩ | ⟨a, rfl, _⟩ <;> rfl
  | .pin _, _, h => by rcases h with ⟨rfl, _⟩ | ⟨a, rfl, _⟩ <;> rfl
  | .er _ _, _, h => by rcases h with ⟨a, rfl, _⟩ | ⟨a, rfl, _⟩ <;> rfl
theorem r2_isN : R2T C Z (fun x y H Q => y = .non ∧ Q (.bl (decide (x = .non))) H) dIsN := by
  intro W H x y d e R Q hp dm hx hy h q
  unfold dIsN at h
  split at h
  · exact ⟨hy.non, by rw [hx.isNon]; exact same_bl h q⟩
  · exact h.elim
theorem r2_notN : R2T C Z (fun x y H Q => y = .non ∧ Q (.bl (!decide (x = .non))) H) dNotN := by
  intro W H x y d e R Q hp dm hx hy h q
  unfold dNotN at h
  split at h
  · exact ⟨hy.non, by rw [hx.isNon]; exact same_bl h q⟩
  · exact h.elim
theorem RepL.atI {p : Pz} {W : Addr → Prop} {H : Hp} {ds : List D} {vs : List V} {i : Int} {d : D} (r : RepL p C W H ds vs) (h : L2.atI ds i = some d) : ∃ v, L2.atI vs i = some v ∧ Rep p C W H d v := by
  unfold L2.atI at h ⊢
  rw [r.len]
  cases e : ixN ds.length i with
  | none => rw [e] at h; cases h
  | some j =>
    rw [e] at h
    exact r.get h
theorem r2_ix : R2T C Z (rIxA K) dIx := by
  intro W H x y d e R Q hp dm hx hy h q
  unfold dIx at h
  split at h
  · obtain ⟨a, vs, rfl, ha, r⟩ := hx.lst
    obtain ⟨z, hz, h⟩ := h
    obtain ⟨v, hv, rv⟩ := r.atI hz
    exact .inl ⟨a, vs, _, v, rfl, hy.int, SqL.of ha, hv, q v H (.val z) (Same.refl H) rv h⟩
  · obtain ⟨a, vs, rfl, ha, r⟩ := hx.tup
    obtain ⟨z, hz, h⟩ := h
    obtain ⟨v, hv, rv⟩ := r.atI hz
    exact .inr (.inl ⟨a, vs, _, v, rfl, hy.int, SqT.of ha, hv, q v H (.val z) (Same.refl H) rv h⟩)
  · obtain ⟨l, c, hc, h⟩ := h
    exact .inr (.inr ⟨_, _, c, hx.str, hy.int, line_of l, hc, same_str h q⟩)
  · exact h.elim
theorem r1_neg : R1T C Z (rU fun i => .int (-i)) dNeg := by
  intro W H x d R Q hp dm hx h q
  unfold dNeg at h
  split at h
  · exact ⟨_, hx.int, same_int h q⟩
  · exact h.elim
end
end TL
end
-- TL3
section
set_option Elab.async false
set_option linter.all false
set_option maxRecDepth 100000
set_option maxHeartbeats 4100000
/-! TL3: tests, choices, calls -/
variable [TL.Tb]
namespace TL
open L2 PyProof.Rows PySem PySem.Spec TS
section
variable {C : Addr} {Z : Zx} {K : PySem.W.Frag}
/-! ### tests -/
def tlT (T : TX) : TBx := fun Γ n R => T Γ n fun r n1 => match r.d with
  | .bl b => R b n1
  | _ => False
def tlAndT (T U : TBx) : TBx := fun Γ n R => T Γ n fun b n1 => if b = true then U Γ n1 R else R false n1
def tlOrT (T U : TBx) : TBx := fun Γ n R => T Γ n fun b n1 => if b = true then R true n1 else U Γ n1 R
def tlNotT (T : TBx) : TBx := fun Γ n R => T Γ n fun b n1 => R (!b) n1
def tlAnd (T U : TX) : TX := fun Γ n R => T Γ n fun r n1 => match r.d with
  | .bl b => if b = true then U Γ n1 R else R (.val (.bl false)) n1
  | _ => False
def tlNot (T : TX) : TX := fun Γ n R => T Γ n fun r n1 => match r.d with
  | .bl b => R (.val (.bl (!b))) n1
  | _ => False
def tlIfx (c : TBx) (T U : TX) : TX := fun Γ n R => c Γ n fun b n1 => if b = true then T Γ n1 R else U Γ n1 R
theorem XOk.bl {W : Addr → Prop} {H H' : Hp} (own : ∀ a, H a = none → ¬ Z.p.On a) {r : Rv} {v : V} {b : Bool} (h : XOk C Z W H H' r v) (e : r.d = .bl b) : v = .bl b := by
  have := h.view own
  rw [e] at this
  exact this.bl
theorem rt_v {t : TE} {T : TX} (h : RE C Z t T) : RT C Z (tB t) (tlT T) := by
  intro G Γ σ H n Q R M h1 q
  refine h G Γ σ H n _ _ M h1 fun v H1 r n1 e1 p1 x1 h2 => ?_
  split at h2
  · next b e => exact ⟨b, x1.bl (fun a h => Z.papart M.pdom h) e, q b H1 n1 e1 p1 h2⟩
  · exact h2.elim
theorem rt_c {t : TE} {T : TX} (h : RE C Z t T) : RT C Z (tTest t) (tlT T) := by
  intro G Γ σ H n Q R M h1 q
  refine h G Γ σ H n _ _ M h1 fun v H1 r n1 e1 p1 x1 h2 => ?_
  split at h2
  · next b e => exact ⟨b, x1.bl (fun a h => Z.papart M.pdom h) e, q b H1 n1 e1 p1 h2⟩
  · exact h2.elim
theorem rt_and {t u : TT} {T U : TBx} (h1 : RT C Z t T) (h2 : RT C Z u U) : RT C Z (tAnd t u) (tlAndT T U) := by
  intro G Γ σ H n Q R M h q
  refine h1 G Γ σ H n _ _ M h fun b H1 n1 e1 p1 r1 => ?_
  cases b with
  | true => exact iteT (h2 G Γ σ H1 n1 _ _ (M.bt e1 p1) r1 fun b H2 n2 e2 p2 r2 => q b H2 n2 (e1.trans e2) p2 r2)
  | false => exact iteF (q _ _ _ e1 p1 r1)
theorem rt_or {t u : TT} {T U : TBx} (h1 : RT C Z t T) (h2 : RT C Z u U) : RT C Z (tOr t u) (tlOrT T U) := by
  intro G Γ σ H n Q R M h q
  refine h1 G Γ σ H n _ _ M h fun b H1 n1 e1 p1 r1 => ?_
  cases b with
  | false => exact iteF (h2 G Γ σ H1 n1 _ _ (M.bt e1 p1) r1 fun b H2 n2 e2 p2 r2 => q b H2 n2 (e1.trans e2) p2 r2)
  | true => exact iteT (q _ _ _ e1 p1 r1)
theorem rt_not {t : TT} {T : TBx} (h1 : RT C Z t T) : RT C Z (tNot t) (tlNotT T) := fun G Γ σ H n Q R M h q => h1 G Γ σ H n _ _ M h fun b H1 n1 e1 p1 r1 => q _ _ _ e1 p1 r1
theorem re_and {t u : TE} {T U : TX} (h1 : RE C Z t T) (h2 : RE C Z u U) : RE C Z (tAndV t u) (tlAnd T U) := by
  intro G Γ σ H n Q R M h q
  refine h1 G Γ σ H n _ _ M h fun v H1 r n1 e1 p1 x1 r1 => ?_
  have M1 := M.bt e1 p1
  split at r1
  · next b e =>
    refine ⟨b, x1.bl (fun a h => Z.papart M.pdom h) e, ?_⟩
    cases b with
    | true => exact iteT (h2 G Γ σ H1 n1 _ _ M1 r1 fun v H2 r n2 e2 p2 x2 r2 => q v H2 r n2 (e1.trans e2) p2 (x2.up e1 M1.pdom) r2)
    | false => exact iteF (q _ H1 (.val (.bl false)) n1 e1 p1 (rfl : V.bl false = V.bl false) r1)
  · exact r1.elim
theorem re_not {t : TE} {T : TX} (h1 : RE C Z t T) : RE C Z (tNotV t) (tlNot T) := by
  intro G Γ σ H n Q R M h q
  refine h1 G Γ σ H n _ _ M h fun v H1 r n1 e1 p1 x1 r1 => ?_
  split at r1
  · next b e => exact ⟨b, x1.bl (fun a h => Z.papart M.pdom h) e, q _ H1 (.val (.bl !b)) n1 e1 p1 (rfl : V.bl (!b) = V.bl !b) r1⟩
  · exact r1.elim
theorem re_ifx {c : TT} {t u : TE} {Tc : TBx} {T U : TX} (hc : RT C Z c Tc) (h1 : RE C Z t T) (h2 : RE C Z u U) : RE C Z (tIf c t u) (tlIfx Tc T U) := by
  intro G Γ σ H n Q R M h q
  refine hc G Γ σ H n _ _ M h fun b H1 n1 e1 p1 r1 => ?_
  have M1 := M.bt e1 p1
  cases b with
  | true => exact iteT (h1 G Γ σ H1 n1 _ _ M1 r1 fun v H2 r n2 e2 p2 x2 r2 => q v H2 r n2 (e1.trans e2) p2 (x2.up e1 M1.pdom) r2)
  | false => exact iteF (h2 G Γ σ H1 n1 _ _ M1 r1 fun v H2 r n2 e2 p2 x2 r2 => q v H2 r n2 (e1.trans e2) p2 (x2.up e1 M1.pdom) r2)
/-! ### slices -/
def tlPart : Option TX → Gm → Nat → (Option Int → Nat → Prop) → Prop
  | none => fun _ n R => R none n
  | some T => fun Γ n R => T Γ n fun r n1 => match r.d with
    | .int i => R (some i) n1
    | _ => False
def RO (C : Addr) (Z : Zx) (t : TO) (T : Option TX) : Prop := ∀ (G : List (V × Rv)) (Γ : Gm) (σ : L2.St) (H : Hp) (n : Nat) (Q : Option Int → Hp → Prop) (R : Option Int → Nat → Prop), Mt C Z G Γ σ H n → tlPart T Γ n R →
  (∀ b H' n', Bt Z.p H H' → PAt Z.p H' n' → R b n' → Q b H') → t σ H Q
theorem ro_none : RO C Z tNoPart none := fun G Γ σ H n Q R M h q => q _ H n .refl M.pa h
theorem ro_some {t : TE} {T : TX} (h : RE C Z t T) : RO C Z (tPart t) (some T) := by
  intro G Γ σ H n Q R M h1 q
  refine h G Γ σ H n _ _ M h1 fun v H1 r n1 e1 p1 x1 r1 => ?_
  split at r1
  · next i e =>
    have := x1.view (fun a h => Z.papart M.pdom h)
    rw [e] at this
    exact ⟨i, this.int, q _ H1 n1 e1 p1 r1⟩
  · exact r1.elim
/-- a part of a list -/
def cutL {α : Type} (xs : List α) (lo hi : Option Int) : List α := (xs.drop (HT.sIx xs.length 0 lo)).take (HT.sIx xs.length xs.length hi - HT.sIx xs.length 0 lo)
def dSl : D → Option Int → Option Int → (Rv → Prop) → Prop
  | .lst ds, lo, hi, R => R (.new (.lst (cutL ds lo hi)))
  | .tup ds, lo, hi, R => (HT.sIx ds.length 0 lo = 0 ∧ HT.sIx ds.length ds.length hi = ds.length → R (.val (.tup ds))) ∧ (¬ (HT.sIx ds.length 0 lo = 0 ∧ HT.sIx ds.length ds.length hi = ds.length) → R (.new (.tup (cutL ds lo hi))))
  | .str z, lo, hi, R => z.length ≤ 1000000 ∧ R (.val (.str (cutS z lo hi)))
  | _, _, _, _ => False
/-- no tuple that the caller only lent is cut -/
def cutOk : Rv → Bool
  | .bor (.tup _) => false
  | .tmp (.tup _) => false
  | _ => true
def tlSl (T : TX) (lo hi : Option TX) : TX := fun Γ n R => T Γ n fun r n1 => tlPart lo Γ n1 fun l n2 => tlPart hi Γ n2 fun u n3 => cutOk r = true ∧ dSl r.d l u fun r => R r n3
theorem RepL.cut {p : Pz} {W : Addr → Prop} {H : Hp} {ds : List D} {vs : List V} (r : RepL p C W H ds vs) (lo hi : Option Int) : RepL p C W H (cutL ds lo hi) (cutV vs lo hi) := by
  unfold cutL cutV
  rw [r.len]
  exact (r.drop _).take _
theorem re_sl {t : TE} {T : TX} {tl th : TO} {lo hi : Option TX} (h : RE C Z t T) (h1 : RO C Z tl lo) (h2 : RO C Z th hi) : RE C Z (tSl (rSlAll K) t tl th) (tlSl T lo hi) := by
  intro G Γ σ H n Q R M h0 q
  refine h G Γ σ H n _ _ M h0 fun v H1 r n1 e1 p1 x1 r1 => ?_
  have M1 := M.bt e1 p1
  refine h1 G Γ σ H1 n1 _ _ M1 r1 fun l H2 n2 e2 p2 r2 => ?_
  have M2 := M1.bt e2 p2
  refine h2 G Γ σ H2 n2 _ _ M2 r2 fun u H3 n3 e3 p3 r3 => ?_
  have M3 := M2.bt e3 p3
  have e23 := e2.trans e3
  have x3 := x1.bt (fun a z => Ws.pw z) M.pdom e23
  have vw := x3.view fun a h => Z.papart M.pdom h
  obtain ⟨ok, r3⟩ := r3
  cases e : r.d with
  | lst ds =>
    rw [e] at vw r3
    obtain ⟨a, vs, rfl, ha, rr⟩ := vw.lst
    exact .inl ⟨a, vs, rfl, SqL.of ha, fun b nb => q _ _ (.new (.lst (cutL ds l u))) n3 ((e1.trans e23).trans (.same (same_upd nb))) (p3.same (same_upd nb)) ⟨b, rfl, (e1.trans e23).free M3.pdom nb, _, upd_same, (rr.cut l u).mono (fresh_rep (p := Z.p) (C := C) nb)⟩ r3⟩
  | tup ds =>
    rw [e] at vw r3
    obtain ⟨a, vs, rfl, ha, rr⟩ := vw.tup
    refine .inr (.inl ⟨a, vs, rfl, SqT.of ha, fun z => ?_, fun z b nb => ?_⟩)
    · rw [rr.len] at z
      have st : sto r = true := by
        cases r with
        | val _ => rfl
        | new _ => rfl
        | bor d => rw [show d = .tup ds from e] at ok; cases ok
        | tmp d => rw [show d = .tup ds from e] at ok; cases ok
      have rep := x3.rep (fun b w => M.wdom w) st
      rw [e] at rep
      exact q _ H3 (.val (.tup ds)) n3 (e1.trans e23) p3 rep (r3.1 z)
    · rw [rr.len] at z
      exact q _ _ (.new (.tup (cutL ds l u))) n3 ((e1.trans e23).trans (.same (same_upd nb))) (p3.same (same_upd nb)) ⟨b, rfl, (e1.trans e23).free M3.pdom nb, _, upd_same, (rr.cut l u).mono (fresh_rep (p := Z.p) (C := C) nb)⟩ (r3.2 z)
  | str z =>
    rw [e] at vw r3
    exact .inr (.inr ⟨z, vw.str, line_of r3.1, q _ H3 (.val (.str _)) n3 (e1.trans e23) p3 (rfl : V.str (cutS z l u) = V.str (cutS z l u)) r3.2⟩)
  | _ => rw [e] at r3; exact False.elim r3
/-! ### built-in functions -/
def tlB (f : List D → (Rv → Prop) → Prop) (T : TXs) : TX := fun Γ n R => T Γ n fun rs n1 => f (rs.map Rv.d) fun r => R r n1
theorem re_cb {r : List V → Hp → VK → Prop} {ta : TA} {T : TXs} {f : List D → (Rv → Prop) → Prop} (ho : RnT C Z r f) (ha : RA C Z ta T) : RE C Z (tCB r ta) (tlB f T) := by
  intro G Γ σ H n Q R M h q
  refine ha G Γ σ H n _ _ M h fun vs H1 rs n1 e1 p1 x1 h1 => ?_
  have M1 := M.bt e1 p1
  refine ho _ H1 vs _ _ _ (fun a z => Ws.pw z) (fun a w => M1.wdom w) (x1.views fun a h => Z.papart M.pdom h) h1 fun w H3 r3 s3 x3 h3 => ?_
  exact q w H3 r3 n1 (e1.trans (.same s3)) (p1.same s3) (x3.up e1 M1.pdom) h3
def orL (r r' : List V → Hp → VK → Prop) : List V → Hp → VK → Prop := fun xs H Q => r xs H Q ∨ r' xs H Q
theorem Views.one {p : Pz} {W : Addr → Prop} {H : Hp} {d : D} {vs : List V} (h : Views p C W H [d] vs) : ∃ v, vs = [v] ∧ View p C W H d v := by
  obtain ⟨v, vr, e, hv, e2⟩ := h
  exact ⟨v, by rw [e, show vr = [] from e2], hv⟩
theorem Views.two {p : Pz} {W : Addr → Prop} {H : Hp} {d e : D} {vs : List V} (h : Views p C W H [d, e] vs) : ∃ v u, vs = [v, u] ∧ View p C W H d v ∧ View p C W H e u := by
  obtain ⟨v, vr, e1, hv, u, ur, e2, hu, e3⟩ := h
  exact ⟨v, u, by rw [e1, e2, show ur = [] from e3], hv, hu⟩
theorem call_lenDR {X : Cx} : CallR X (.builtin "len") (fun xs H Q => ∃ a kvs, xs = [V.ref a] ∧ Rd H a (.dK kvs) ∧ Q (.int kvs.length) H) := by
  intro pins s σ H xs us Q I r h
  obtain ⟨a, kvs, rfl, ha, q⟩ := h
  obtain ⟨u, rfl, ru⟩ := vals1 r
  cases ru
  exact d_len I ha fun t s' I' => ⟨.int kvs.length, H, I', ⟨t, rfl⟩, q⟩
def rLenA (K : PySem.W.Frag) : List V → Hp → VK → Prop := orL (fun xs H Q => ∃ p ys, xs = [.ref p] ∧ (SqL K H p ys ∨ SqT K H p ys) ∧ Q (.int ys.length) H)
  (orL (fun xs H Q => ∃ z, xs = [.str z] ∧ z.length ≤ sizeLine ∧ Q (.int z.length) H) fun xs H Q => ∃ a kvs, xs = [V.ref a] ∧ Rd H a (.dK kvs) ∧ Q (.int kvs.length) H)
theorem call_lenA {X : Cx} : CallR X (.builtin "len") (rLenA X.K) := CallR.or call_len_seq (CallR.or call_len_str call_lenDR)
def dLen : List D → (Rv → Prop) → Prop
  | [.lst ds], R => R (.val (.int ds.length))
  | [.tup ds], R => R (.val (.int ds.length))
  | [.str z], R => z.length ≤ 1000000 ∧ R (.val (.int z.length))
  | [.dk ks _], R => R (.val (.int ks.length))
  | _, _ => False
theorem rn_len : RnT C Z (rLenA K) dLen := by
  intro W H xs ds R Q hp dm hx h q
  unfold dLen at h
  split at h
  · obtain ⟨v, rfl, hv⟩ := hx.one
    obtain ⟨a, vs, rfl, ha, r⟩ := hv.lst
    exact .inl ⟨a, vs, rfl, .inl (SqL.of ha), by rw [r.len]; exact same_int h q⟩
  · obtain ⟨v, rfl, hv⟩ := hx.one
    obtain ⟨a, vs, rfl, ha, r⟩ := hv.tup
    exact .inl ⟨a, vs, rfl, .inr (SqT.of ha), by rw [r.len]; exact same_int h q⟩
  · obtain ⟨v, rfl, hv⟩ := hx.one
    exact .inr (.inl ⟨_, by rw [hv.str], line_of h.1, same_int h.2 q⟩)
  · next ks ds0 =>
    obtain ⟨v, rfl, hv⟩ := hx.one
    obtain ⟨a, vs, rfl, ha, l, r⟩ := hv.dk
    exact .inr (.inr ⟨a, _, rfl, ha, by rw [List.length_zip, r.len, l, Nat.min_self, ← l]; exact same_int h q⟩)
  · exact h.elim
/-- the signs of a text, one by one -/
def signs (z : Str) : List Str := z.cps.toList.map fun c => (⟨#[c]⟩ : Str)
theorem call_listT {X : Cx} (calm : X.calm = true) : CallR X (.type "list") (fun xs H Q => ∃ z : Str, xs = [.str z] ∧ z.length ≤ sizeLine ∧ ∀ q, H q = none → Q (.ref q) (upd H q (.lst ((signs z).map V.str)))) := by
  rintro pins s σ H xs us Q I r ⟨z, rfl, few, q⟩
  obtain ⟨u, rfl, t, rfl⟩ := (vals1 r)
  refine call_list_str (hn := few) (I.ok.hd calm) z t fun h' tk acc c' keep at_ items => ?_
  have many : ((signs z).map V.str).length = z.cps.size := by simp [signs]
  refine ⟨.ref s.heap.objs.size, _, I.laid keep (Nat.le_refl _) (?_ : ObjOk X.prog X.w _ _ _ (.lst ((signs z).map V.str))), rfl, q _ (I.hok.fresh (Nat.le_refl _))⟩
  refine ⟨by rw [many]; exact few, acc.toList, c', vals_of_at (by rw [many, Array.length_toList, items.1]) fun j x w hx hw => ?_, at_⟩
  have told := items.2 j w (by rw [← Array.getElem?_toList]; exact hw)
  obtain ⟨c, u, hc, rfl⟩ := told
  rw [List.getElem?_map, signs, List.getElem?_map, Array.getElem?_toList, hc] at hx
  obtain rfl := Option.some.inj hx
  exact ⟨u, rfl⟩
def rListDR : List V → Hp → VK → Prop := fun xs H Q => ∃ p kvs, xs = [.ref p] ∧ Rd H p (.dK kvs) ∧ ∀ q, H q = none → Q (.ref q) (upd H q (.lst (kvs.map fun kv => kV kv.1)))
theorem call_listDR {X : Cx} (hc : X.calm = true) : CallR X (.type "list") rListDR := by
  intro pins s σ H xs us Q I r h
  obtain ⟨p, kvs, e, hk, q⟩ := h
  subst e
  obtain ⟨u, eu, rx⟩ := vals1 r
  subst eu
  obtain rfl : u = Value.ref p := rx
  obtain ⟨z, lo, vs, rk, hd⟩ := (show ObjOk X.prog X.w H s.heap p (.dK kvs) from hk.ok I.hok)
  obtain ⟨ep, hat⟩ := hd.dictAt
  have hl : kvs.length = vs.length := Paired.length rk
  refine PySem.W.kdl_call (PySem.W.kdl_dict (knd := mixKind X.prog X.w) (kvs := vs) (ep := ep) lo) (I.ok.hd hc) hat (by rw [← hl]; exact z) fun h' tk acc' c' hkeep hS hacc => ?_
  have many : acc'.toList.length = kvs.length := by rw [Array.length_toList, hacc.1, hl]
  refine ⟨.ref s.heap.objs.size, upd H s.heap.objs.size (.lst (kvs.map fun kv => kV kv.1)), I.laid hkeep (Nat.le_refl _) (show ObjOk X.prog X.w _ _ _ (.lst (kvs.map fun kv => kV kv.1)) from ⟨by rw [List.length_map]; exact z, acc'.toList, c', ?_, by rw [Array.toArray_toList]; exact hS⟩), rfl, q _ (I.hok.fresh (Nat.le_refl _))⟩
  refine vals_of_at (by rw [List.length_map, many]) fun j x w h1 h2 => ?_
  obtain ⟨k, y, hky, hi⟩ := hacc.2 j w (by rw [← Array.getElem?_toList]; exact h2)
  have e1 : (kvs.map (·.1))[j]? = some k := by
    rw [KV.keys rk, List.getElem?_map, hky] <;> rfl
  rw [show (kvs.map fun kv => kV kv.1) = (kvs.map (·.1)).map kV by rw [List.map_map] <;> rfl, List.getElem?_map, e1] at h1
  cases h1
  exact keyIs_rel hi
def rListA (K : PySem.W.Frag) : List V → Hp → VK → Prop := orL (fun xs H Q => ∃ p ys, xs = [.ref p] ∧ (SqL K H p ys ∨ SqT K H p ys) ∧ ∀ l, H l = none → Q (.ref l) (upd H l (.lst ys)))
  (orL (fun xs H Q => ∃ z : Str, xs = [.str z] ∧ z.length ≤ sizeLine ∧ ∀ q, H q = none → Q (.ref q) (upd H q (.lst ((signs z).map V.str)))) rListDR)
theorem call_listA {X : Cx} (calm : X.calm = true) : CallR X (.type "list") (rListA X.K) := CallR.or call_list_of (CallR.or (call_listT calm) (call_listDR calm))
def kD : Key → D
  | .inl i => .int i
  | .inr s => .str s
def dList : List D → (Rv → Prop) → Prop
  | [.lst ds], R => R (.new (.lst ds))
  | [.tup ds], R => R (.new (.lst ds))
  | [.str z], R => z.length ≤ 1000000 ∧ R (.new (.lst ((signs z).map .str)))
  | [.dk ks _], R => R (.new (.lst (ks.map kD)))
  | _, _ => False
theorem repL_keys {p : Pz} {W : Addr → Prop} {H : Hp} : ∀ (ks : List Key) (vs : List V), ks.length = vs.length → RepL p C W H (ks.map kD) ((ks.zip vs).map fun kv => kV kv.1)
  | [], _, _ => rfl
  | k :: ks, [], e => by cases e
  | k :: ks, v :: vs, e => ⟨kV k, _, rfl, by cases k <;> rfl, repL_keys ks vs (by simpa using e)⟩
theorem rn_list : RnT C Z (rListA K) dList := by
  intro W H xs ds R Q hp dm hx h q
  unfold dList at h
  split at h
  · obtain ⟨v, rfl, hv⟩ := hx.one
    obtain ⟨a, vs, rfl, ha, r⟩ := hv.lst
    exact .inl ⟨a, vs, rfl, .inl (SqL.of ha), new_lst r h q⟩
  · obtain ⟨v, rfl, hv⟩ := hx.one
    obtain ⟨a, vs, rfl, ha, r⟩ := hv.tup
    exact .inl ⟨a, vs, rfl, .inr (SqT.of ha), new_lst r h q⟩
  · obtain ⟨v, rfl, hv⟩ := hx.one
    exact .inr (.inl ⟨_, by rw [hv.str], line_of h.1, new_lst (repL_strs _) h.2 q⟩)
  · next ks ds0 =>
    obtain ⟨v, rfl, hv⟩ := hx.one
    obtain ⟨a, vs, rfl, ha, l, r⟩ := hv.dk
    exact .inr (.inr ⟨a, _, rfl, ha, new_lst (repL_keys ks vs (by rw [l, r.len])) h q⟩)
  · exact h.elim
/-- texts as a list, as a tuple -/
@[reducible] def dS (xs : List Str) : D := .lst (xs.map .str)
@[reducible] def tS (xs : List Str) : D := .tup (xs.map .str)
@[reducible] def dI (xs : List Int) : D := .lst (xs.map .int)
def dAll : List D → (Rv → Prop) → Prop
  | [.lst ds], R => ∃ bs : List Bool, ds = bs.map .bl ∧ R (.val (.bl (bs.all id)))
  | _, _ => False
theorem rn_all : RnT C Z (rAll K) dAll := by
  intro W H xs ds R Q hp dm hx h q
  unfold dAll at h
  split at h
  · obtain ⟨ns, rfl, h⟩ := h
    obtain ⟨v, rfl, hv⟩ := hx.one
    obtain ⟨a, vs, rfl, ha, r⟩ := hv.lst
    rw [r.bls] at ha
    exact ⟨a, ns, rfl, SqL.of ha, same_bl h q⟩
  · exact h.elim
def rMin2 : List V → Hp → VK → Prop := fun xs H Q => ∃ i j, xs = [.int i, .int j] ∧ Q (.int (if j < i then j else i)) H
def rMax2 : List V → Hp → VK → Prop := fun xs H Q => ∃ i j, xs = [.int i, .int j] ∧ Q (.int (if j > i then j else i)) H
def dMin2 : List D → (Rv → Prop) → Prop
  | [.int i, .int j], R => R (.val (.int (min i j)))
  | _, _ => False
def dMax2 : List D → (Rv → Prop) → Prop
  | [.int i, .int j], R => R (.val (.int (max i j)))
  | _, _ => False
theorem rn_min2 : RnT C Z rMin2 dMin2 := by
  intro W H xs ds R Q hp dm hx h q
  unfold dMin2 at h
  split at h
  · next i j =>
    obtain ⟨v, u, rfl, hv, hu⟩ := hx.two
    refine ⟨i, j, by rw [hv.int, hu.int], ?_⟩
    rw [show (if j < i then j else i) = min i j by split <;> omega]
    exact same_int h q
  · exact h.elim
theorem rn_max2 : RnT C Z rMax2 dMax2 := by
  intro W H xs ds R Q hp dm hx h q
  unfold dMax2 at h
  split at h
  · next i j =>
    obtain ⟨v, u, rfl, hv, hu⟩ := hx.two
    refine ⟨i, j, by rw [hv.int, hu.int], ?_⟩
    rw [show (if j > i then j else i) = max i j by split <;> omega]
    exact same_int h q
  · exact h.elim
def rMinA (K : PySem.W.Frag) := orL rMin2 (rMin K)
def rMaxA (K : PySem.W.Frag) := orL rMax2 (rMax K)
theorem call_minA {X : Cx} (hc : X.calm = true) : CallR X (.builtin "min") (rMinA X.K) := CallR.or (call_min2 hc) (cr_min hc)
theorem call_maxA {X : Cx} (hc : X.calm = true) : CallR X (.builtin "max") (rMaxA X.K) := CallR.or (call_max2 hc) (cr_max hc)
theorem rn_or1 {r r' : List V → Hp → VK → Prop} {f : List D → (Rv → Prop) → Prop} (h : RnT C Z r f) : RnT C Z (orL r r') f := fun W H xs ds R Q hp dm hx h0 q => .inl (h W H xs ds R Q hp dm hx h0 q)
/-- sorted: texts, tuples of texts -/
def rSortA (K : PySem.W.Frag) : List V → Hp → VK → Prop := orL (rSortedS K) (rSortedTS K)
theorem cr_sortA {X : Cx} : CallR X (.builtin "sorted") (rSortA X.K) := CallR.or cr_sortedS (cr_sortedTS rfl)
def dSorted : List D → (Rv → Prop) → Prop
  | [.lst ds], R => (∃ xs : List Str, ds = xs.map .str ∧ xs.length < 64 ∧ ∀ ys : List Str, ys.Perm xs → sortedS ys = true → R (.new (dS ys))) ∨
      ∃ xss : List (List Str), ds = xss.map tS ∧ (∀ x ∈ xss, x ≠ []) ∧ ∀ yss : List (List Str), yss.Perm xss → yss.Pairwise (fun x y => TSo.ltS y x = false) → R (.new (.lst (yss.map tS)))
  | _, _ => False
theorem RepL.refs {p : Pz} {W : Addr → Prop} {H : Hp} : ∀ {xss : List (List Str)} {vs : List V}, RepL p C W H (xss.map tS) vs → ∃ ts : List Addr, vs = ts.map V.ref ∧ xss = ts.map (tupS H) ∧ ∀ t ∈ ts, ¬ W t ∧ H t = some (.tup ((tupS H t).map V.str))
  | [], _, e => ⟨[], e, rfl, fun _ h => nomatch h⟩
  | x :: r, _, ⟨v, vr, e, ⟨a, ea, na, us, ha, ru⟩, q⟩ => by
    obtain ⟨ts, e1, e2, h⟩ := RepL.refs q
    rw [ru.strs] at ha
    have k := tupS_at ha
    refine ⟨a :: ts, by rw [e, ea, e1]; rfl, by rw [List.map_cons, k, ← e2], fun t ht => ?_⟩
    rcases List.mem_cons.1 ht with rfl | ht
    · rw [k]; exact ⟨na, ha⟩
    · exact h t ht
theorem repL_refs {p : Pz} {W : Addr → Prop} {H : Hp} : ∀ {ts : List Addr}, (∀ t ∈ ts, ¬ W t ∧ H t = some (.tup ((tupS H t).map V.str))) → RepL p C W H ((ts.map (tupS H)).map tS) (ts.map V.ref)
  | [], _ => rfl
  | t :: r, h => ⟨_, _, rfl, ⟨t, rfl, (h t List.mem_cons_self).1, _, (h t List.mem_cons_self).2, repL_strs _⟩, repL_refs fun u hu => h u (List.mem_cons_of_mem _ hu)⟩
theorem rn_sorted : RnT C Z (rSortA K) dSorted := by
  intro W H xs ds R Q hp dm hx h q
  unfold dSorted at h
  split at h
  · obtain ⟨v, rfl, hv⟩ := hx.one
    obtain ⟨a, vs, rfl, ha, r⟩ := hv.lst
    rcases h with ⟨xs, rfl, l, h⟩ | ⟨xss, rfl, ne, h⟩
    · rw [r.strs] at ha
      exact .inl ⟨a, xs, rfl, SqL.of ha, l, fun ys b pm so nb => new_lst (repL_strs ys) (h ys pm so) q b nb⟩
    · obtain ⟨ts, rfl, rfl, ht⟩ := r.refs
      refine .inr ⟨a, ts, rfl, SqL.of ha, fun t h1 => ⟨_, ne _ (List.mem_map_of_mem h1), (ht t h1).2⟩, fun ts' b pm so nb => ?_⟩
      exact new_lst (repL_refs fun t h1 => ht t (pm.mem_iff.1 h1)) (h _ (pm.map _) so) q b nb
  · exact h.elim
end
end TL
end
-- TL4
section
set_option Elab.async false
set_option linter.all false
set_option maxRecDepth 100000
set_option maxHeartbeats 4100000
/-! TL4: slots stored, walks, comprehensions -/
variable [TL.Tb]
namespace TL
open L2 PyProof.Rows PySem PySem.Spec TS
/-! ### slots -/
section
variable {C : Addr} {Z : Zx} {G : List (V × Rv)} {Γ : Gm} {σ : L2.St} {H H' : Hp} {n m : Nat} {K : PySem.W.Frag}
theorem get_set {α : Type} {xs : List α} {i j : Nat} {x y : α} (h : (xs.set i x)[j]? = some y) : (i = j ∧ y = x) ∨ (i ≠ j ∧ xs[j]? = some y) := by
  rw [List.getElem?_set] at h
  split at h
  · next e =>
    split at h
    · exact .inl ⟨e, (Option.some.inj h).symm⟩
    · cases h
  · next e => exact .inr ⟨e, h⟩
theorem Ow.of_set {i j : Nat} {d : D} {v : V} {a : Addr} (h : Ow (Γ.set i (some (.val d))) (σ.set i (some v)) j a) : Ow Γ σ j a ∧ j ≠ i := by
  obtain ⟨⟨e, he⟩, hv⟩ := h
  rcases get_set he with ⟨_, z⟩ | ⟨ne, he⟩
  · cases z
  · rcases get_set hv with ⟨z, _⟩ | ⟨_, hv⟩
    · exact absurd z ne
    · exact ⟨⟨⟨e, he⟩, hv⟩, fun z => ne z.symm⟩
theorem SOk.sub {W W' : Addr → Prop} (hw : ∀ a, W' a → W a) : ∀ {r : Rv} {v : V}, SOk C Z W H r v → SOk C Z W' H r v
  | .val d, _, h => Rep.mono (fun c o nc e => ⟨fun z => nc (hw c z), e⟩) h
  | .new d, _, ⟨a, e1, h0, r⟩ => ⟨a, e1, h0, r.mono (fun c o nc e => ⟨fun z => nc (hw c z), e⟩) fun _ h => h⟩
  | .bor d, _, .inl h => .inl (Rep.mono (fun c o nc e => ⟨fun z => nc (hw c z), e⟩) h)
  | .bor d, _, .inr ⟨a, o, e1, na, h0, r⟩ => .inr ⟨a, o, e1, na, h0, r.mono (fun c o nc e => ⟨fun z => nc (hw c z), e⟩) fun _ h => h⟩
  | .tmp _, _, h => h
theorem Mt.set_val (M : Mt C Z G Γ σ H n) {i : Nat} {d : D} {v : V} (r : Rep Z.p C (Ws Z Γ σ) H d v) : Mt C Z G (Γ.set i (some (.val d))) (σ.set i (some v)) H n := by
  have hw : ∀ a, Ws Z (Γ.set i (some (.val d))) (σ.set i (some v)) a → Ws Z Γ σ a := fun a h => h.elim .inl fun ⟨j, h⟩ => .inr ⟨j, h.of_set.1⟩
  refine ⟨by rw [List.length_set, List.length_set, M.len], M.fr, M.pa, fun j s hj => ?_, fun g hg => ⟨(M.gs g hg).1.sub hw, (M.gs g hg).2⟩, fun j k a h1 h2 => M.inj j k a h1.of_set.1 h2.of_set.1⟩
  rcases get_set hj with ⟨rfl, e⟩ | ⟨ne, hj⟩
  · cases e
    have lt : i < σ.length := by rw [M.len]; have := (List.getElem?_eq_some_iff.1 hj).1; rwa [List.length_set] at this
    exact ⟨v, List.getElem?_set_self lt, Rep.mono (fun c o nc e => ⟨fun z => nc (hw c z), e⟩) r⟩
  · obtain ⟨u, hu, su⟩ := M.sl j s hj
    exact ⟨u, by rw [List.getElem?_set_ne ne]; exact hu, su.sub hw⟩
theorem Ow.of_setN {i j : Nat} {d : D} {b a : Addr} (h : Ow (Γ.set i (some (.new d))) (σ.set i (some (.ref b))) j a) : (j = i ∧ a = b) ∨ (Ow Γ σ j a ∧ j ≠ i) := by
  obtain ⟨⟨e, he⟩, hv⟩ := h
  rcases get_set hv with ⟨z, hv⟩ | ⟨ne, hv⟩
  · cases hv
    exact .inl ⟨z.symm, rfl⟩
  · rcases get_set he with ⟨z, _⟩ | ⟨_, he⟩
    · exact absurd z ne
    · exact .inr ⟨⟨⟨e, he⟩, hv⟩, fun z => ne z.symm⟩
/-- what is known at H does not know what is new -/
theorem SOk.fresh {W W' : Addr → Prop} {b : Addr} (nb : H b = none) (hw : ∀ a, W' a → W a ∨ a = b) : ∀ {r : Rv} {v : V}, SOk C Z W H r v → SOk C Z W' H r v := by
  have key : ∀ c o, ¬ W c → H c = some o → ¬ W' c ∧ H c = some o := fun c o nc e => ⟨fun z => (hw c z).elim nc (fun q => by rw [q, nb] at e; cases e), e⟩
  intro r v
  match r with
  | .val d => exact fun h => Rep.mono key h
  | .new d => exact fun ⟨a, e1, h0, r⟩ => ⟨a, e1, h0, r.mono key fun _ h => h⟩
  | .bor d =>
    rintro (h | ⟨a, o, e1, na, h0, r⟩)
    · exact .inl (Rep.mono key h)
    · exact .inr ⟨a, o, e1, na, h0, r.mono key fun _ h => h⟩
  | .tmp _ => exact fun h => h
theorem Mt.set_new (M : Mt C Z G Γ σ H n) {i : Nat} {d : D} {b : Addr} (e : Bt Z.p H H') (pa : PAt Z.p H' m) (nb : H b = none) (r : RepO Z.p C (fun c => Ws Z Γ σ c ∨ c = b) H' b d) : Mt C Z G (Γ.set i (some (.new d))) (σ.set i (some (.ref b))) H' m := by
  have hw : ∀ a, Ws Z (Γ.set i (some (.new d))) (σ.set i (some (.ref b))) a → Ws Z Γ σ a ∨ a = b := fun a h => h.elim (fun z => .inl (.inl z)) fun ⟨j, h⟩ => h.of_setN.elim (fun z => .inr z.2) fun z => .inl (.inr ⟨j, z.1⟩)
  have h0 : Z.H0 b = none := M.fr.free M.pdom nb
  have old : ∀ {r : Rv} {v : V}, SOk C Z (Ws Z Γ σ) H r v → SOk C Z (Ws Z (Γ.set i (some (.new d))) (σ.set i (some (.ref b)))) H' r v := fun {r v} h =>
    (h.fresh nb hw).bt (fun _ => Ws.pw) (fun _ => Z.apart) e
  refine ⟨by rw [List.length_set, List.length_set, M.len], M.fr.trans e, pa, fun j s hj => ?_, fun g hg => ⟨old (M.gs g hg).1, (M.gs g hg).2⟩, fun j k a h1 h2 => ?_⟩
  · rcases get_set hj with ⟨rfl, z⟩ | ⟨ne, hj⟩
    · cases z
      have lt : i < σ.length := by rw [M.len]; have := (List.getElem?_eq_some_iff.1 hj).1; rwa [List.length_set] at this
      exact ⟨_, List.getElem?_set_self lt, b, rfl, h0, r.mono (fun c o nc e => ⟨fun z => nc ((hw c z).imp id id), e⟩) fun _ h => h⟩
    · obtain ⟨u, hu, su⟩ := M.sl j s hj
      exact ⟨u, by rw [List.getElem?_set_ne ne]; exact hu, old su⟩
  · have nOw : ∀ {j : Nat}, Ow Γ σ j b → False := fun h => by
      obtain ⟨o, ho⟩ := (M.own h).1
      rw [nb] at ho
      cases ho
    rcases h1.of_setN with ⟨e1, z1⟩ | ⟨o1, n1⟩
    · rcases h2.of_setN with ⟨e2, z2⟩ | ⟨o2, n2⟩
      · rw [e1, e2]
      · exact (nOw (z1 ▸ o2)).elim
    · rcases h2.of_setN with ⟨e2, z2⟩ | ⟨o2, n2⟩
      · exact (nOw (z2 ▸ o1)).elim
      · exact M.inj j k a o1 o2
/-- an own object is changed -/
theorem Mt.mut (M : Mt C Z G Γ σ H n) {i : Nat} {d d' : D} {b : Addr} {o : HO} (hi : Γ[i]? = some (some (.new d))) (hb : σ[i]? = some (some (.ref b))) (r : RepO Z.p C (Ws Z Γ σ) (upd H b o) b d') : Mt C Z G (Γ.set i (some (.new d'))) σ (upd H b o) n := by
  have ob : Ow Γ σ i b := ⟨⟨d, hi⟩, hb⟩
  obtain ⟨_, b0, np⟩ := M.own ob
  have ow : ∀ {j : Nat} {a : Addr}, Ow (Γ.set i (some (.new d'))) σ j a → Ow Γ σ j a := fun {j a} ⟨⟨e, he⟩, hv⟩ => by
    rcases get_set he with ⟨rfl, _⟩ | ⟨_, he⟩
    · exact ⟨⟨d, hi⟩, hv⟩
    · exact ⟨⟨e, he⟩, hv⟩
  have hw : ∀ a, Ws Z (Γ.set i (some (.new d'))) σ a → Ws Z Γ σ a := fun a h => h.elim .inl fun ⟨j, h⟩ => .inr ⟨j, ow h⟩
  have keep : ∀ c u, ¬ Ws Z Γ σ c → H c = some u → ¬ Ws Z (Γ.set i (some (.new d'))) σ c ∧ upd H b o c = some u := fun c u nc e => ⟨fun z => nc (hw c z), by rw [upd_ne fun z => nc (by rw [z]; exact .inr ⟨i, ob⟩)]; exact e⟩
  have old : ∀ {r : Rv} {v : V}, (∀ e, r = .new e → v ≠ .ref b) → SOk C Z (Ws Z Γ σ) H r v → SOk C Z (Ws Z (Γ.set i (some (.new d'))) σ) (upd H b o) r v := by
    intro r v nr h
    match r, h with
    | .val e, h => exact Rep.mono keep h
    | .new e, ⟨a, e1, h0, r⟩ => exact ⟨a, e1, h0, r.mono keep fun u q => by rw [upd_ne fun z => nr e rfl (by rw [e1, z])]; exact q⟩
    | .bor e, .inl h => exact .inl (Rep.mono keep h)
    | .bor e, .inr ⟨a, u, e1, na, h0, r⟩ => exact .inr ⟨a, u, e1, na, h0, r.mono keep fun w q => by rw [upd_ne fun z => by rw [z, b0] at h0; cases h0]; exact q⟩
  refine ⟨by rw [List.length_set]; exact M.len, fun c u ncp h => ?_, ?_, fun j s hj => ?_, fun g hg => ⟨old (fun e z => absurd z ((M.gs g hg).2 e)) (M.gs g hg).1, (M.gs g hg).2⟩, fun j k a h1 h2 => M.inj j k a (ow h1) (ow h2)⟩
  · rw [upd_ne fun z => by rw [z, b0] at h; cases h]
    exact M.fr c u ncp h
  · obtain ⟨v0, e0, b1, e1, _, r0⟩ := M.sl i _ hi
    rw [hb] at e0
    injection e0 with e0
    injection e0 with e0
    subst e0
    injection e1 with e1
    subst e1
    obtain ⟨o0, ho, nx⟩ := r0.nx
    exact M.pa.put np ho nx
  · rcases get_set hj with ⟨rfl, z⟩ | ⟨ne, hj⟩
    · cases z
      exact ⟨_, hb, b, rfl, b0, r.mono (fun c u nc e => ⟨fun z => nc (hw c z), e⟩) fun _ h => h⟩
    · obtain ⟨u, hu, su⟩ := M.sl j s hj
      refine ⟨u, hu, old (fun e z q => ?_) su⟩
      subst z q
      exact ne (M.inj i j b ob ⟨⟨e, hj⟩, hu⟩)
/-- an own object becomes one that all may know -/
theorem Mt.release (M : Mt C Z G Γ σ H n) {i : Nat} {d : D} (hi : Γ[i]? = some (some (.new d))) : Mt C Z G (Γ.set i (some (.val d))) σ H n := by
  obtain ⟨v, hv, b, rfl, b0, r⟩ := M.sl i _ hi
  have e : σ.set i (some (.ref b)) = σ := by
    apply List.ext_getElem?
    intro j
    rw [List.getElem?_set]
    split
    · next e =>
      subst e
      rw [hv, if_pos (List.getElem?_eq_some_iff.1 hv).1]
    · rfl
  have ob : Ow Γ σ i b := ⟨⟨d, hi⟩, hv⟩
  have hw : ∀ a, Ws Z (Γ.set i (some (.val d))) σ a → Ws Z Γ σ a := fun a h => h.elim .inl fun ⟨j, h⟩ => .inr ⟨j, (Ow.of_set (d := d) (v := .ref b) (i := i) (by rw [e]; exact h)).1⟩
  have nb : ¬ Ws Z (Γ.set i (some (.val d))) σ b := fun h => h.elim (fun z => by
      obtain ⟨o, ho⟩ := Z.dom b z
      rw [b0] at ho
      cases ho) fun ⟨j, h⟩ => by
    have := Ow.of_set (d := d) (v := .ref b) (i := i) (σ := σ) (by rw [e]; exact h)
    exact this.2 (M.inj j i b this.1 ob)
  refine ⟨by rw [List.length_set]; exact M.len, M.fr, M.pa, fun j s hj => ?_, fun g hg => ⟨(M.gs g hg).1.sub hw, (M.gs g hg).2⟩, fun j k a h1 h2 => ?_⟩
  · rcases get_set hj with ⟨rfl, z⟩ | ⟨ne, hj⟩
    · cases z
      exact ⟨_, hv, (r.mono (W' := Ws Z (Γ.set i (some (.val d))) σ) (fun c u nc e => ⟨fun z => nc (hw c z), e⟩) fun _ h => h).rep nb⟩
    · obtain ⟨u, hu, su⟩ := M.sl j s hj
      exact ⟨u, hu, su.sub hw⟩
  · exact M.inj j k a (Ow.of_set (d := d) (v := .ref b) (i := i) (by rw [e]; exact h1)).1 (Ow.of_set (d := d) (v := .ref b) (i := i) (by rw [e]; exact h2)).1
/-! ### targets -/
inductive Pat where
  | nm (i : Nat) | tp (is : List Nat)
def setAll : List Nat → List D → Gm → Gm
  | i :: is, d :: ds, Γ => setAll is ds (Γ.set i (some (.val d)))
  | _, _, Γ => Γ
def bindP : Pat → D → Gm → Option Gm
  | .nm i, d, Γ => some (Γ.set i (some (.val d)))
  | .tp is, .tup ds, Γ => if ds.length = is.length then some (setAll is ds Γ) else none
  | .tp is, .lst ds, Γ => if ds.length = is.length then some (setAll is ds Γ) else none
  | _, _, _ => none
def Pat.slots : Pat → List Nat
  | .nm i => [i]
  | .tp is => is
def RG (C : Addr) (g : TG) (pt : Pat) : Prop := ∀ (Z : Zx) (G : List (V × Rv)) (Γ : Gm) (σ : L2.St) (H : Hp) (n : Nat) (d : D) (v : V) (Γ' : Gm) (Q : L2.St → Hp → Prop), Mt C Z G Γ σ H n → Rep Z.p C (Ws Z Γ σ) H d v → bindP pt d Γ = some Γ' →
  (∀ σ', Mt C Z G Γ' σ' H n → (∀ vs : List Nat, (∀ i ∈ pt.slots, i ∈ vs) → wipe σ' vs = wipe σ vs) → Q σ' H) → g v σ H Q
theorem wipe_set {i : Nat} {x : Option V} : ∀ {vs : List Nat} {σ : L2.St}, i ∈ vs → wipe (σ.set i x) vs = wipe σ vs := by
  have key : ∀ (vs : List Nat) (σ : L2.St), i ∉ vs → wipe (σ.set i x) vs = (wipe σ vs).set i x := by
    intro vs
    induction vs with
    | nil => intro σ _; rfl
    | cons v r ih =>
      intro σ h
      show (wipe (σ.set i x) r).set v none = ((wipe σ r).set v none).set i x
      rw [ih σ fun z => h (List.mem_cons_of_mem _ z)]
      exact List.set_comm _ _ fun z => h (by rw [z]; exact List.mem_cons_self)
  intro vs
  induction vs with
  | nil => intro σ h; cases h
  | cons v r ih =>
    intro σ h
    show (wipe (σ.set i x) r).set v none = (wipe σ r).set v none
    by_cases hr : i ∈ r
    · rw [ih hr]
    · have : i = v := (List.mem_cons.1 h).resolve_right hr
      subst this
      rw [key r σ hr, List.set_set]
theorem rg_nm {i : Nat} : RG C (gName i) (.nm i) := by
  intro Z G Γ σ H n d v Γ' Q M r e q
  obtain rfl := Option.some.inj e
  exact q _ (M.set_val r) fun vs h => wipe_set (h i (by simp [Pat.slots]))
/-- names, one after the other -/
def gNms : List Nat → TGs
  | [] => gNil
  | i :: r => gCons (gName i) (gNms r)
theorem rgs_nms {is : List Nat} : ∀ (ds : List D) (vs : List V) (Z : Zx) (G : List (V × Rv)) (Γ : Gm) (σ : L2.St) (H : Hp) (n : Nat) (Q : L2.St → Hp → Prop), Mt C Z G Γ σ H n → RepL Z.p C (Ws Z Γ σ) H ds vs → ds.length = is.length →
    (∀ σ', Mt C Z G (setAll is ds Γ) σ' H n → (∀ ws : List Nat, (∀ i ∈ is, i ∈ ws) → wipe σ' ws = wipe σ ws) → Q σ' H) → gNms is vs σ H Q := by
  induction is with
  | nil =>
    intro ds vs Z G Γ σ H n Q M r l q
    cases ds with
    | nil => exact ⟨r, q σ M fun _ _ => rfl⟩
    | cons d ds => cases l
  | cons i is ih =>
    intro ds vs Z G Γ σ H n Q M r l q
    cases ds with
    | nil => cases l
    | cons d ds =>
      obtain ⟨v, vr, e, rv, rr⟩ := r
      refine ⟨v, vr, e, ?_⟩
      have M2 := M.set_val (i := i) rv
      have hw : ∀ a, Ws Z (Γ.set i (some (.val d))) (σ.set i (some v)) a → Ws Z Γ σ a := fun a h => h.elim .inl fun ⟨j, h⟩ => .inr ⟨j, h.of_set.1⟩
      refine ih ds vr Z G _ _ H n Q M2 (rr.mono fun c o nc e => ⟨fun z => nc (hw c z), e⟩) (by simpa using l) fun σ' M3 w => q σ' M3 fun ws hs => ?_
      rw [w ws fun j hj => hs j (List.mem_cons_of_mem _ hj)]
      exact wipe_set (hs i List.mem_cons_self)
/-- a tuple or a list is parted -/
def gUn (K : PySem.W.Frag) (m : Nat) (t : TGs) : TG := fun v σ H Q => gTup K m t v σ H Q ∨ gUnl K m t v σ H Q
theorem pg_un {X : Cx} {es : List Expr} {k m : Nat} {pos : Pos} {t : TGs} (calm : X.calm = true) (h : PGs X es t) (hn : (assignEach es X.env).length = m := by rfl) (hst : (assignEach es X.env).findIdx? (·.1) = none := by rfl) : PG X (.Tuple es k pos) (gUn X.K m t) where
  run := fun pins s σ H v u Q I r h1 => h1.elim (fun z => (pg_tup calm h hn hst).run pins s σ H v u Q I r z) fun z => (pg_unl calm h hn hst).run pins s σ H v u Q I r z
theorem rg_un {is : List Nat} {m : Nat} (hm : m = is.length) : RG C (gUn K m (gNms is)) (.tp is) := by
  subst hm
  intro Z G Γ σ H n d v Γ' Q M r e q
  have key : ∀ ds : List D, (if ds.length = is.length then some (setAll is ds Γ) else none) = some Γ' → ds.length = is.length ∧ Γ' = setAll is ds Γ := fun ds e => by
    split at e
    · next l => exact ⟨l, (Option.some.inj e).symm⟩
    · cases e
  cases d with
  | tup ds =>
    obtain ⟨l, rfl⟩ := key ds e
    obtain ⟨a, ea, na, vs, ha, rv⟩ := r
    exact .inl ⟨a, vs, ea, SqT.of ha, by rw [rv.len, l], rgs_nms ds vs Z G Γ σ H n Q M rv l q⟩
  | lst ds =>
    obtain ⟨l, rfl⟩ := key ds e
    obtain ⟨a, ea, na, vs, ha, rv⟩ := r
    exact .inr ⟨a, vs, ea, SqL.of ha, by rw [rv.len, l], rgs_nms ds vs Z G Γ σ H n Q M rv l q⟩
  | _ => cases e
/-! ### walks -/
def GOk (C : Addr) (Z : Zx) (W : Addr → Prop) (H : Hp) : Rv → V → Prop
  | .tmp d, v => ∃ a, v = .ref a ∧ ¬ Z.p.On a ∧ Z.H0 a = none ∧ RepO Z.p C W H a d
  | .new _, _ => False
  | r, v => SOk C Z W H r v
theorem GOk.view {W : Addr → Prop} : ∀ {r : Rv} {v : V}, GOk C Z W H r v → View Z.p C W H r.d v
  | .val d, _, h => .inl h
  | .bor d, _, .inl h => .inl h
  | .bor d, _, .inr ⟨a, o, e, na, _, r⟩ => .inr ⟨a, e, na, r⟩
  | .tmp d, _, ⟨a, e, na, _, r⟩ => .inr ⟨a, e, na, r.v⟩
/-- what is no list stays -/
def Bn (p : Pz) (H H' : Hp) : Prop := ∀ c o, ¬ p.On c → (∀ xs, o ≠ .lst xs) → H c = some o → H' c = some o
theorem Bt.nl {p : Pz} {H H' : Hp} (h : Bt p H H') : Bn p H H' := fun c o n _ e => h c o n e
/-- J walks the trees ds as long as gs stand -/
def WOk (C : Addr) (Z : Zx) (J : It) (ds : List D) (gs : List (V × Rv)) : Prop := ∃ (Gd : Hp → Prop) (Y : Nat → Hp → V → Hp → Prop), Walk J ds.length Gd Y ∧
  (∀ (W : Addr → Prop) (H : Hp), Bn Z.p Z.H0 H → (∀ g ∈ gs, View Z.p C W H g.2.d g.1) → Gd H) ∧
  ∀ (W : Addr → Prop) (i : Nat) (H : Hp) (x : V) (H' : Hp), Bn Z.p Z.H0 H → (∀ a, W a → ∃ o, H a = some o) → (∀ g ∈ gs, View Z.p C W H g.2.d g.1) → i < ds.length → Y i H x H' → Same H H' ∧ ∃ d, ds[i]? = some d ∧ Rep Z.p C W H' d x
abbrev TIx := Gm → Nat → (Nat → List D → Nat → Prop) → Prop
/-- 2: nothing changes it; 1: it is lent; 0: an own one, which may change -/
def rank : Rv → Nat
  | .val _ => 2
  | .new _ => 2
  | .bor _ => 1
  | .tmp _ => 0
def asG : Rv → Rv
  | .new d => .val d
  | r => r
@[simp] theorem asG_d (r : Rv) : (asG r).d = r.d := by cases r <;> rfl
theorem XOk.asG {W : Addr → Prop} (dm : ∀ a, W a → ∃ o, H a = some o) : ∀ {r : Rv} {v : V}, XOk C Z W H H' r v → GOk C Z W H' (TL.asG r) v
  | .val d, _, h => h
  | .new d, _, h => XOk.rep (r := .new d) dm rfl h
  | .bor d, _, h => h
  | .tmp d, _, h => h
def RI (C : Addr) (Z : Zx) (wi : TI) (T : TIx) : Prop := ∀ (G : List (V × Rv)) (Γ : Gm) (σ : L2.St) (H : Hp) (n : Nat) (Q : It → Hp → Prop) (R : Nat → List D → Nat → Prop), Mt C Z G Γ σ H n → T Γ n R →
  (∀ J H' n' ds gs b, Bt Z.p H H' → PAt Z.p H' n' → WOk C Z J ds gs → (∀ g ∈ gs, GOk C Z (Ws Z Γ σ) H' g.2 g.1) → (∀ g ∈ gs, b ≤ rank g.2) → R b ds n' → Q J H') → wi σ H Q
section
variable {X : Cx} {tg l : Expr} {tl : TE}
def iSeq (K : PySem.W.Frag) (tl : TE) : TI := fun σ H R => tl σ H fun x H1 => (∃ a, x = .ref a ∧ (∃ xs, SqL K H1 a xs) ∧ R (Itl K a) H1) ∨ (∃ a, x = .ref a ∧ (∃ xs, SqT K H1 a xs) ∧ R (Itt K a) H1) ∨ ∃ z, x = .str z ∧ R (Its z) H1
theorem pi_seq (hl : PE X l tl) : PI X tg l (iSeq X.K tl) where
  run pins s σ H R I h := by
    refine thn (hl.run pins s σ H _ I h) ?_
    rintro v s1 ⟨x, H1, I1, r1, ⟨a, rfl, ⟨xs, sq⟩, q⟩ | ⟨a, rfl, ⟨xs, sq⟩, q⟩ | ⟨z, rfl, q⟩⟩
    · obtain rfl : v = .ref a := r1
      obtain ⟨its, rv, p, hz⟩ := I1.list sq
      exact wpAny_pyIter_list p.isList (pi_one (tk := s1.toks) I1 _ (turn_list a _) ⟨_, Heap.get?_push_size _ rfl, rfl, rfl⟩ q)
    · obtain rfl : v = .ref a := r1
      obtain ⟨its, rv, p, hz⟩ := I1.tuple sq
      exact wpAny_pyIter_tuple p (pi_one (tk := s1.toks) I1 _ (turn_tuple a _) ⟨_, Heap.get?_push_size _ rfl, rfl, rfl⟩ q)
    · obtain ⟨t, rfl⟩ := r1
      cases wide : z.cps.all (· < 128) with
      | false => exact wpAny_pyIter_wide wide (pi_one (tk := s1.toks) I1 _ (turn_str _ z t "str_iterator" (.inr rfl)) ⟨_, Heap.get?_push_size _ rfl, rfl, rfl⟩ q)
      | true => exact wpAny_pyIter_ascii wide (pi_one (tk := s1.toks) I1 _ (turn_str _ z t "str_ascii_iterator" (.inl rfl)) ⟨_, Heap.get?_push_size _ rfl, rfl, rfl⟩ q)
end
def tlSeq (T : TX) : TIx := fun Γ n R => T Γ n fun r n1 => match r.d with
  | .lst ds => R (rank r) ds n1
  | .tup ds => R (rank r) ds n1
  | .str z => R 2 ((signs z).map .str) n1
  | _ => False
theorem wok_list {a : Addr} {ds : List D} {r : Rv} (hr : r.d = .lst ds) : WOk C Z (Itl K a) ds [(.ref a, r)] := by
  refine ⟨fun H => ∃ xs : List V, H a = some (.lst xs) ∧ xs.length = ds.length, fun i H x H' => H' = H ∧ ∃ xs : List V, H a = some (.lst xs) ∧ xs[i]? = some x, ⟨?_, ?_, ?_⟩, ?_, ?_⟩
  · rintro i H hi ⟨xs, h, e⟩
    exact ⟨xs, xs[i]'(by omega), SqL.of h, List.getElem?_eq_getElem _⟩
  · rintro H ⟨xs, h, e⟩
    exact ⟨xs, SqL.of h, by omega⟩
  · rintro i H x H' hi ⟨xs, h, e⟩ ⟨rfl, y⟩
    exact ⟨rfl, xs, h, y xs (SqL.of h)⟩
  · intro W H _ h
    have v := h _ List.mem_cons_self
    rw [hr] at v
    obtain ⟨b, vs, e, hb, rr⟩ := v.lst
    cases e
    exact ⟨vs, hb, rr.len⟩
  · rintro W i H x H' _ dm h hi ⟨rfl, xs, hx, hxi⟩
    have v := h _ List.mem_cons_self
    rw [hr] at v
    obtain ⟨b, vs, e, hb, rr⟩ := v.lst
    cases e
    rw [hb] at hx
    cases hx
    obtain ⟨d, h1, h2⟩ := rr.nth hxi
    exact ⟨Same.refl _, d, h1, h2⟩
theorem wok_tup {a : Addr} {ds : List D} {r : Rv} (hr : r.d = .tup ds) : WOk C Z (Itt K a) ds [(.ref a, r)] := by
  refine ⟨fun H => ∃ xs : List V, H a = some (.tup xs) ∧ xs.length = ds.length, fun i H x H' => H' = H ∧ ∃ xs : List V, H a = some (.tup xs) ∧ xs[i]? = some x, ⟨?_, ?_, ?_⟩, ?_, ?_⟩
  · rintro i H hi ⟨xs, h, e⟩
    exact ⟨xs, xs[i]'(by omega), SqT.of h, List.getElem?_eq_getElem _⟩
  · rintro H ⟨xs, h, e⟩
    exact ⟨xs, SqT.of h, by omega⟩
  · rintro i H x H' hi ⟨xs, h, e⟩ ⟨rfl, y⟩
    exact ⟨rfl, xs, h, y xs (SqT.of h)⟩
  · intro W H _ h
    have v := h _ List.mem_cons_self
    rw [hr] at v
    obtain ⟨b, vs, e, hb, rr⟩ := v.tup
    cases e
    exact ⟨vs, hb, rr.len⟩
  · rintro W i H x H' _ dm h hi ⟨rfl, xs, hx, hxi⟩
    have v := h _ List.mem_cons_self
    rw [hr] at v
    obtain ⟨b, vs, e, hb, rr⟩ := v.tup
    cases e
    rw [hb] at hx
    cases hx
    obtain ⟨d, h1, h2⟩ := rr.nth hxi
    exact ⟨Same.refl _, d, h1, h2⟩
theorem wok_str {z : Str} : WOk C Z (Its z) ((signs z).map D.str) [] := by
  have len : ((signs z).map D.str).length = z.cps.size := by simp [signs]
  refine ⟨fun _ => True, fun i H v H' => H' = H ∧ ∃ c, z.cps[i]? = some c ∧ v = .str ⟨#[c]⟩, by rw [len]; exact walk_str, fun _ _ _ _ => trivial, ?_⟩
  rintro W i H x H' _ dm h hi ⟨rfl, c, hc, rfl⟩
  refine ⟨Same.refl _, .str ⟨#[c]⟩, ?_, rfl⟩
  rw [List.getElem?_map, signs, List.getElem?_map, Array.getElem?_toList, hc]
  rfl
theorem ri_seq {t : TE} {T : TX} (h : RE C Z t T) : RI C Z (iSeq K t) (tlSeq T) := by
  intro G Γ σ H n Q R M h1 q
  refine h G Γ σ H n _ _ M h1 fun v H1 r n1 e1 p1 x1 r1 => ?_
  have vw := x1.view fun a h => Z.papart M.pdom h
  have g := x1.asG fun a w => M.wdom w
  have last : ∀ g ∈ [(v, asG r)], rank r ≤ rank g.2 := fun g hg => by
    rw [List.mem_singleton.1 hg]
    cases r <;> exact Nat.le.refl
  cases hd : r.d with
  | lst ds =>
    rw [hd] at r1 vw
    obtain ⟨a, vs, rfl, ha, rr⟩ := vw.lst
    exact .inl ⟨a, rfl, ⟨vs, SqL.of ha⟩, q _ H1 n1 ds [(.ref a, asG r)] (rank r) e1 p1 (wok_list (by rw [asG_d, hd])) (fun g' hg => by rw [List.mem_singleton.1 hg]; exact g) last r1⟩
  | tup ds =>
    rw [hd] at r1 vw
    obtain ⟨a, vs, rfl, ha, rr⟩ := vw.tup
    exact .inr (.inl ⟨a, rfl, ⟨vs, SqT.of ha⟩, q _ H1 n1 ds [(.ref a, asG r)] (rank r) e1 p1 (wok_tup (by rw [asG_d, hd])) (fun g' hg => by rw [List.mem_singleton.1 hg]; exact g) last r1⟩)
  | str z =>
    rw [hd] at r1 vw
    exact .inr (.inr ⟨z, vw.str, q _ H1 n1 _ [] 2 e1 p1 wok_str (fun g' hg => nomatch hg) (fun g' hg => nomatch hg) r1⟩)
  | _ => rw [hd] at r1; exact False.elim r1
end
end TL
end
-- TL5
section
set_option Elab.async false
set_option linter.all false
set_option maxRecDepth 100000
set_option maxHeartbeats 4100000
/-! TL5: ranges, pairs; comprehensions; statements; defs -/
variable [TL.Tb]
namespace TL
open L2 PyProof.Rows PySem PySem.Spec TS RZ
section
variable {C : Addr} {Z : Zx} {G : List (V × Rv)} {Γ : Gm} {σ : L2.St} {H H' : Hp} {n m : Nat} {K : PySem.W.Frag}
/-! ### ranges, pairs -/
/-- lo, lo + 1, .. below hi -/
def rng (lo hi : Int) : List Int := (List.range (hi - lo).toNat).map fun (i : Nat) => lo + (i : Int)
theorem wok_rng {lo : Int} {k : Nat} {ds : List D} (e : ds = ((List.range k).map fun (i : Nat) => lo + (i : Int)).map D.int) : WOk C Z (Itr lo k) ds [] := by
  have len : ds.length = k := by rw [e]; simp
  refine ⟨fun _ => True, YFn fun i => .int (lo + i), by rw [len]; exact walk_range, fun _ _ _ _ => trivial, ?_⟩
  rintro W i H x H' _ dm h hi ⟨rfl, rfl⟩
  refine ⟨Same.refl _, .int (lo + i), ?_, rfl⟩
  rw [e, List.getElem?_map, List.getElem?_map, List.getElem?_range (by omega)]
  rfl
def tlRng1 (T : TX) : TIx := fun Γ n R => T Γ n fun r n1 => match r.d with
  | .int j => -(2 ^ 62) ≤ j ∧ j < 2 ^ 62 ∧ R 2 ((rng 0 j).map .int) n1
  | _ => False
def tlRng2 (T U : TX) : TIx := fun Γ n R => T Γ n fun r n1 => U Γ n1 fun s n2 => match r.d, s.d with
  | .int i, .int j => (-(2 ^ 62) ≤ i ∧ i < 2 ^ 62 ∧ -(2 ^ 62) ≤ j ∧ j < 2 ^ 62) ∧ R 2 ((rng i j).map .int) n2
  | _, _ => False
/-- what an argument list says, one by one -/
theorem RE.mono {t : TE} {T T' : TX} (h : RE C Z t T) (k : ∀ Γ n R, T' Γ n R → T Γ n R) : RE C Z t T' := fun G Γ σ H n Q R M h1 q => h G Γ σ H n Q R M (k _ _ _ h1) q
theorem RI.imp {t : TI} {T T' : TIx} (h : RI C Z t T) (k : ∀ Γ n R, T' Γ n R → T Γ n R) : RI C Z t T' := fun G Γ σ H n Q R M h1 q => h G Γ σ H n Q R M (k _ _ _ h1) q
theorem ri_r1 {t : TE} {T : TX} (h : RE C Z t T) : RI C Z (iRng1 (tCons t tNil)) (tlRng1 T) := by
  intro G Γ σ H n Q R M h1 q
  refine h G Γ σ H n _ _ M h1 fun v H1 r n1 e1 p1 x1 r1 => ?_
  have vw := x1.view fun a h => Z.papart M.pdom h
  cases hd : r.d with
  | int j =>
    rw [hd] at r1 vw
    exact ⟨j, by rw [vw.int], r1.1, r1.2.1, q _ H1 n1 _ [] 2 e1 p1 (wok_rng (by unfold rng; simp)) (fun g hg => nomatch hg) (fun g hg => nomatch hg) r1.2.2⟩
  | _ => rw [hd] at r1; exact False.elim r1
theorem ri_r2 {t u : TE} {T U : TX} (h : RE C Z t T) (h2 : RE C Z u U) : RI C Z (iRng2 (tCons t (tCons u tNil))) (tlRng2 T U) := by
  intro G Γ σ H n Q R M h1 q
  refine h G Γ σ H n _ _ M h1 fun v H1 r n1 e1 p1 x1 r1 => ?_
  have M1 := M.bt e1 p1
  refine h2 G Γ σ H1 n1 _ _ M1 r1 fun u H2 s n2 e2 p2 x2 r2 => ?_
  have vw := x1.view fun a h => Z.papart M.pdom h
  have vu := x2.view fun a h => Z.papart M1.pdom h
  cases hd : r.d with
  | int i =>
    cases hs : s.d with
    | int j =>
      rw [hd, hs] at r2
      rw [hd] at vw
      rw [hs] at vu
      exact ⟨i, j, by rw [vw.int, vu.int], r2.1, q _ H2 n2 _ [] 2 (e1.trans e2) p2 (wok_rng rfl) (fun g hg => nomatch hg) (fun g hg => nomatch hg) r2.2⟩
    | _ => rw [hd, hs] at r2; exact False.elim r2
  | _ => rw [hd] at r2; exact False.elim r2
/-- numbered -/
def enumD (ds : List D) : List D := ds.zipIdx.map fun p => .tup [.int p.2, p.1]
def tlEnum (T : TX) : TIx := fun Γ n R => T Γ n fun r n1 => match r.d with
  | .lst ds => R (rank r) (enumD ds) n1
  | _ => False
theorem wok_enum {a : Addr} {ds : List D} {r : Rv} (hr : r.d = .lst ds) : WOk C Z (Ite K a) (enumD ds) [(.ref a, r)] := by
  have len : (enumD ds).length = ds.length := by simp [enumD]
  refine ⟨fun H => ∃ xs : List V, H a = some (.lst xs) ∧ xs.length = ds.length, fun i H x H' => ∃ (T : Addr) (u : V), x = .ref T ∧ H T = none ∧ H' = upd H T (.tup [.int (i : Nat), u]) ∧ ∃ xs : List V, H a = some (.lst xs) ∧ xs[i]? = some u, ⟨?_, ?_, ?_⟩, ?_, ?_⟩
  · rintro i H hi ⟨xs, h, e⟩
    exact ⟨xs, xs[i]'(by omega), SqL.of h, List.getElem?_eq_getElem _⟩
  · rintro H ⟨xs, h, e⟩
    exact ⟨xs, SqL.of h, by omega⟩
  · rintro i H x H' hi ⟨xs, h, e⟩ ⟨T, u, h1, h2, h3, h4⟩
    exact ⟨T, u, h1, h2, h3, xs, h, h4 xs (SqL.of h)⟩
  · intro W H _ h
    have v := h _ List.mem_cons_self
    rw [hr] at v
    obtain ⟨b, vs, e, hb, rr⟩ := v.lst
    cases e
    exact ⟨vs, hb, rr.len⟩
  · rintro W i H x H' _ dm h hi ⟨T, u, rfl, nT, rfl, xs, hx, hxi⟩
    have v := h _ List.mem_cons_self
    rw [hr] at v
    obtain ⟨b, vs, e, hb, rr⟩ := v.lst
    cases e
    rw [hb] at hx
    cases hx
    obtain ⟨d, h1, h2⟩ := rr.nth hxi
    refine ⟨same_upd nT, .tup [.int (i : Nat), d], ?_, T, rfl, fun z => ?_, _, upd_same, _, _, rfl, rfl, _, _, rfl, h2.mono fun c o nc e => ⟨nc, same_upd nT _ _ e⟩, rfl⟩
    · simp [enumD, h1]
    · obtain ⟨o, ho⟩ := dm T z
      rw [nT] at ho
      cases ho
theorem ri_enum {t : TE} {T : TX} (h : RE C Z t T) : RI C Z (iEnum K (tCons t tNil)) (tlEnum T) := by
  intro G Γ σ H n Q R M h1 q
  refine h G Γ σ H n _ _ M h1 fun v H1 r n1 e1 p1 x1 r1 => ?_
  have vw := x1.view fun a h => Z.papart M.pdom h
  have g := x1.asG fun a w => M.wdom w
  cases hd : r.d with
  | lst ds =>
    rw [hd] at r1 vw
    obtain ⟨a, vs, rfl, ha, rr⟩ := vw.lst
    exact ⟨a, vs, rfl, SqL.of ha, q _ H1 n1 _ [(.ref a, asG r)] (rank r) e1 p1 (wok_enum (by rw [asG_d, hd])) (fun g' hg => by rw [List.mem_singleton.1 hg]; exact g) (fun g' hg => by
      rw [List.mem_singleton.1 hg]
      cases r <;> exact Nat.le.refl) r1⟩
  | _ => rw [hd] at r1; exact False.elim r1
/-- pair by pair -/
def zipD (xs ys : List D) : List D := xs.zipWith (fun x y => .tup [x, y]) ys
def tlZip (T U : TX) : TIx := fun Γ n R => T Γ n fun r n1 => U Γ n1 fun s n2 => match r.d, s.d with
  | .lst xs, .lst ys => R (min (rank r) (rank s)) (zipD xs ys) n2
  | .tup xs, .tup ys => R (min (rank r) (rank s)) (zipD xs ys) n2
  | _, _ => False
theorem zip_at {xs ys : List D} {i : Nat} {d e : D} (h1 : xs[i]? = some d) (h2 : ys[i]? = some e) : (zipD xs ys)[i]? = some (.tup [d, e]) := by
  simp [zipD, List.getElem?_zipWith, h1, h2]
theorem wok_zip {a b : Addr} {xs ys : List D} {r s : Rv} (hr : r.d = .lst xs) (hs : s.d = .lst ys) : WOk C Z (Itz K a b) (zipD xs ys) [(.ref a, r), (.ref b, s)] := by
  have len : (zipD xs ys).length = min xs.length ys.length := by simp [zipD]
  refine ⟨fun H => ∃ us ws : List V, (H a = some (.lst us) ∧ H b = some (.lst ws)) ∧ us.length = xs.length ∧ ws.length = ys.length, fun i H x H' => ∃ (T : Addr) (u w : V), x = .ref T ∧ H T = none ∧ H' = upd H T (.tup [u, w]) ∧ ∃ us ws : List V, (H a = some (.lst us) ∧ H b = some (.lst ws)) ∧ us[i]? = some u ∧ ws[i]? = some w, ⟨?_, ?_, ?_⟩, ?_, ?_⟩
  · rintro i H hi ⟨us, ws, ⟨h1, h2⟩, e1, e2⟩
    exact ⟨us, ws, us[i]'(by omega), ws[i]'(by omega), SqL.of h1, SqL.of h2, List.getElem?_eq_getElem _, List.getElem?_eq_getElem _⟩
  · rintro H ⟨us, ws, ⟨h1, h2⟩, e1, e2⟩
    exact ⟨us, ws, SqL.of h1, SqL.of h2, by omega⟩
  · rintro i H x H' hi ⟨us, ws, ⟨h1, h2⟩, e1, e2⟩ ⟨T, u, w, g1, g2, g3, g4, g5⟩
    exact ⟨T, u, w, g1, g2, g3, us, ws, ⟨h1, h2⟩, g4 us (SqL.of h1), g5 ws (SqL.of h2)⟩
  · intro W H _ h
    have v := h _ List.mem_cons_self
    have v2 := h _ (List.mem_cons_of_mem _ List.mem_cons_self)
    rw [hr] at v
    rw [hs] at v2
    obtain ⟨_, vs, e, hb, rr⟩ := v.lst
    obtain ⟨_, us, e2, hb2, rr2⟩ := v2.lst
    cases e
    cases e2
    exact ⟨vs, us, ⟨hb, hb2⟩, rr.len, rr2.len⟩
  · rintro W i H x H' _ dm h hi ⟨T, u, w, rfl, nT, rfl, us, ws, ⟨hx, hy⟩, hxi, hyi⟩
    have v := h _ List.mem_cons_self
    have v2 := h _ (List.mem_cons_of_mem _ List.mem_cons_self)
    rw [hr] at v
    rw [hs] at v2
    obtain ⟨_, vs, e, hb, rr⟩ := v.lst
    obtain ⟨_, vs2, e2, hb2, rr2⟩ := v2.lst
    cases e
    cases e2
    rw [hb] at hx
    rw [hb2] at hy
    cases hx
    cases hy
    obtain ⟨d, h1, h2⟩ := rr.nth hxi
    obtain ⟨d2, h3, h4⟩ := rr2.nth hyi
    refine ⟨same_upd nT, .tup [d, d2], zip_at h1 h3, T, rfl, fun z => ?_, _, upd_same, _, _, rfl, h2.mono fun c o nc e => ⟨nc, same_upd nT _ _ e⟩, _, _, rfl, h4.mono fun c o nc e => ⟨nc, same_upd nT _ _ e⟩, rfl⟩
    obtain ⟨o, ho⟩ := dm T z
    rw [nT] at ho
    cases ho
theorem wok_zipT {a b : Addr} {xs ys : List D} {r s : Rv} (hr : r.d = .tup xs) (hs : s.d = .tup ys) : WOk C Z (ItzT K a b) (zipD xs ys) [(.ref a, r), (.ref b, s)] := by
  have len : (zipD xs ys).length = min xs.length ys.length := by simp [zipD]
  refine ⟨fun H => ∃ us ws : List V, (H a = some (.tup us) ∧ H b = some (.tup ws)) ∧ us.length = xs.length ∧ ws.length = ys.length, fun i H x H' => ∃ (T : Addr) (u w : V), x = .ref T ∧ H T = none ∧ H' = upd H T (.tup [u, w]) ∧ ∃ us ws : List V, (H a = some (.tup us) ∧ H b = some (.tup ws)) ∧ us[i]? = some u ∧ ws[i]? = some w, ⟨?_, ?_, ?_⟩, ?_, ?_⟩
  · rintro i H hi ⟨us, ws, ⟨h1, h2⟩, e1, e2⟩
    exact ⟨us, ws, us[i]'(by omega), ws[i]'(by omega), SqT.of h1, SqT.of h2, List.getElem?_eq_getElem _, List.getElem?_eq_getElem _⟩
  · rintro H ⟨us, ws, ⟨h1, h2⟩, e1, e2⟩
    exact ⟨us, ws, SqT.of h1, SqT.of h2, by omega⟩
  · rintro i H x H' hi ⟨us, ws, ⟨h1, h2⟩, e1, e2⟩ ⟨T, u, w, g1, g2, g3, g4, g5⟩
    exact ⟨T, u, w, g1, g2, g3, us, ws, ⟨h1, h2⟩, g4 us (SqT.of h1), g5 ws (SqT.of h2)⟩
  · intro W H _ h
    have v := h _ List.mem_cons_self
    have v2 := h _ (List.mem_cons_of_mem _ List.mem_cons_self)
    rw [hr] at v
    rw [hs] at v2
    obtain ⟨_, vs, e, hb, rr⟩ := v.tup
    obtain ⟨_, us, e2, hb2, rr2⟩ := v2.tup
    cases e
    cases e2
    exact ⟨vs, us, ⟨hb, hb2⟩, rr.len, rr2.len⟩
  · rintro W i H x H' _ dm h hi ⟨T, u, w, rfl, nT, rfl, us, ws, ⟨hx, hy⟩, hxi, hyi⟩
    have v := h _ List.mem_cons_self
    have v2 := h _ (List.mem_cons_of_mem _ List.mem_cons_self)
    rw [hr] at v
    rw [hs] at v2
    obtain ⟨_, vs, e, hb, rr⟩ := v.tup
    obtain ⟨_, vs2, e2, hb2, rr2⟩ := v2.tup
    cases e
    cases e2
    rw [hb] at hx
    rw [hb2] at hy
    cases hx
    cases hy
    obtain ⟨d, h1, h2⟩ := rr.nth hxi
    obtain ⟨d2, h3, h4⟩ := rr2.nth hyi
    refine ⟨same_upd nT, .tup [d, d2], zip_at h1 h3, T, rfl, fun z => ?_, _, upd_same, _, _, rfl, h2.mono fun c o nc e => ⟨nc, same_upd nT _ _ e⟩, _, _, rfl, h4.mono fun c o nc e => ⟨nc, same_upd nT _ _ e⟩, rfl⟩
    obtain ⟨o, ho⟩ := dm T z
    rw [nT] at ho
    cases ho
theorem GOk.bt {W : Addr → Prop} (hp : ∀ a, Z.p.On a → W a) (e : Bt Z.p H H') : ∀ {r : Rv} {v : V}, GOk C Z W H r v → GOk C Z W H' r v
  | .val d, _, h => Rep.mono (keepB hp e) h
  | .bor d, _, .inl h => .inl (Rep.mono (keepB hp e) h)
  | .bor d, _, .inr ⟨a, o, e1, na, h0, r⟩ => .inr ⟨a, o, e1, na, h0, r.mono (keepB hp e) fun o => e a o na⟩
  | .tmp d, _, ⟨a, e1, na, h0, r⟩ => ⟨a, e1, na, h0, r.mono (keepB hp e) fun o => e a o na⟩
theorem ri_zip {t u : TE} {T U : TX} (h : RE C Z t T) (h2 : RE C Z u U) : RI C Z (iZipA K (tCons t (tCons u tNil))) (tlZip T U) := by
  intro G Γ σ H n Q R M h1 q
  refine h G Γ σ H n _ _ M h1 fun v H1 r n1 e1 p1 x1 r1 => ?_
  have M1 := M.bt e1 p1
  refine h2 G Γ σ H1 n1 _ _ M1 r1 fun u H2 s n2 e2 p2 x2 r2 => ?_
  have vw := (x1.view fun a h => Z.papart M.pdom h).bt (fun a z => Ws.pw z) e2
  have vu := x2.view fun a h => Z.papart M1.pdom h
  have g1 := (x1.asG fun a w => M.wdom w).bt (fun a z => Ws.pw z) e2
  have g2 := x2.asG fun a w => M1.wdom w
  have gs : ∀ g ∈ [(v, asG r), (u, asG s)], GOk C Z (Ws Z Γ σ) H2 g.2 g.1 := fun g hg => by
    rcases List.mem_cons.1 hg with e | hg
    · rw [e]; exact g1
    · rw [List.mem_singleton.1 hg]; exact g2
  have last : ∀ g ∈ [(v, asG r), (u, asG s)], min (rank r) (rank s) ≤ rank g.2 := fun g hg => by
    rcases List.mem_cons.1 hg with e | hg
    · rw [e]; exact Nat.le_trans (Nat.min_le_left _ _) (by cases r <;> exact Nat.le.refl)
    · rw [List.mem_singleton.1 hg]; exact Nat.le_trans (Nat.min_le_right _ _) (by cases s <;> exact Nat.le.refl)
  cases hd : r.d with
  | lst xs =>
    cases hs : s.d with
    | lst ys =>
      rw [hd, hs] at r2
      rw [hd] at vw
      rw [hs] at vu
      obtain ⟨a, vs, rfl, ha, _⟩ := vw.lst
      obtain ⟨b, us, rfl, hb, _⟩ := vu.lst
      exact ⟨a, b, vs, us, rfl, .inl ⟨SqL.of ha, SqL.of hb, q _ H2 n2 _ _ _ (e1.trans e2) p2 (wok_zip (by rw [asG_d, hd]) (by rw [asG_d, hs])) gs last r2⟩⟩
    | _ => rw [hd, hs] at r2; exact False.elim r2
  | tup xs =>
    cases hs : s.d with
    | tup ys =>
      rw [hd, hs] at r2
      rw [hd] at vw
      rw [hs] at vu
      obtain ⟨a, vs, rfl, ha, _⟩ := vw.tup
      obtain ⟨b, us, rfl, hb, _⟩ := vu.tup
      exact ⟨a, b, vs, us, rfl, .inr ⟨SqT.of ha, SqT.of hb, q _ H2 n2 _ _ _ (e1.trans e2) p2 (wok_zipT (by rw [asG_d, hd]) (by rw [asG_d, hs])) gs last r2⟩⟩
    | _ => rw [hd, hs] at r2; exact False.elim r2
  | _ => rw [hd] at r2; exact False.elim r2
end
end TL
end
-- TL6
section
set_option Elab.async false
set_option linter.all false
set_option maxRecDepth 100000
set_option maxHeartbeats 4100000
/-! TL6: comprehensions -/
variable [TL.Tb]
namespace TL
open L2 PyProof.Rows PySem PySem.Spec TS RZ
section
variable {C : Addr} {Z : Zx} {G : List (V × Rv)} {Γ : Gm} {σ : L2.St} {H H1 H' : Hp} {n m : Nat} {K : PySem.W.Frag}
/-- some slots forgotten -/
def wipeG (Γ : Gm) : List Nat → Gm
  | [] => Γ
  | v :: vs => (wipeG Γ vs).set v none
/-- what is own is lent -/
def lend : Rv → Rv
  | .new d => .bor d
  | r => r
def borG (Γ : Gm) : Gm := Γ.map (Option.map lend)
def NoNew (Γ : Gm) : Prop := ∀ (i : Nat) (d : D), Γ[i]? ≠ some (some (.new d))
theorem noNew_bor : NoNew (borG Γ) := by
  intro i d e
  rw [borG, List.getElem?_map] at e
  obtain ⟨o, _, e⟩ := Option.map_eq_some_iff.1 e
  cases o with
  | none => cases e
  | some r =>
    have e := Option.some.inj e
    cases r <;> cases e
theorem NoNew.set {i : Nat} {o : Option Rv} (h : NoNew Γ) (ho : ∀ d, o ≠ some (.new d)) : NoNew (Γ.set i o) := by
  intro j d e
  rcases get_set e with ⟨_, e⟩ | ⟨_, e⟩
  · exact ho d e.symm
  · exact h j d e
theorem NoNew.wipe (h : NoNew Γ) : ∀ vs : List Nat, NoNew (wipeG Γ vs)
  | [] => h
  | v :: vs => (NoNew.wipe h vs).set fun d e => by cases e
theorem NoNew.all : ∀ (is : List Nat) (ds : List D) {Γ : Gm}, NoNew Γ → NoNew (setAll is ds Γ)
  | [], _, _, h => h
  | _ :: _, [], _, h => h
  | i :: is, d :: ds, _, h => NoNew.all is ds (h.set (i := i) (o := some (.val d)) fun e z => by cases z)
theorem NoNew.bind (h : NoNew Γ) {pt : Pat} {d : D} {Γ' : Gm} (e : bindP pt d Γ = some Γ') : NoNew Γ' := by
  unfold bindP at e
  split at e
  · obtain rfl := Option.some.inj e
    exact h.set fun e z => by cases z
  · split at e
    · obtain rfl := Option.some.inj e
      exact NoNew.all _ _ h
    · cases e
  · split at e
    · obtain rfl := Option.some.inj e
      exact NoNew.all _ _ h
    · cases e
  · cases e
theorem NoNew.ws (h : NoNew Γ) (a : Addr) : Ws Z Γ σ a → Z.W0 a := fun w => w.elim id fun ⟨i, ⟨d, hd⟩, _⟩ => absurd hd (h i d)
theorem Mt.forget (M : Mt C Z G Γ σ H n) {v : Nat} : Mt C Z G (Γ.set v none) (σ.set v none) H n := by
  have ow : ∀ {j : Nat} {a : Addr}, Ow (Γ.set v none) (σ.set v none) j a → Ow Γ σ j a := fun {j a} ⟨⟨e, he⟩, hv⟩ => by
    rcases get_set he with ⟨_, z⟩ | ⟨_, he⟩
    · cases z
    · rcases get_set hv with ⟨_, z⟩ | ⟨_, hv⟩
      · cases z
      · exact ⟨⟨e, he⟩, hv⟩
  have hw : ∀ a, Ws Z (Γ.set v none) (σ.set v none) a → Ws Z Γ σ a := fun a h => h.elim .inl fun ⟨j, h⟩ => .inr ⟨j, ow h⟩
  refine ⟨by rw [List.length_set, List.length_set, M.len], M.fr, M.pa, fun j s hj => ?_, fun g hg => ⟨(M.gs g hg).1.sub hw, (M.gs g hg).2⟩, fun j k a h1 h2 => M.inj j k a (ow h1) (ow h2)⟩
  rcases get_set hj with ⟨_, z⟩ | ⟨ne, hj⟩
  · cases z
  · obtain ⟨u, hu, su⟩ := M.sl j s hj
    exact ⟨u, by rw [List.getElem?_set_ne ne]; exact hu, su.sub hw⟩
theorem Mt.wipe (M : Mt C Z G Γ σ H n) : ∀ vs : List Nat, Mt C Z G (wipeG Γ vs) (L2.wipe σ vs) H n
  | [] => M
  | v :: vs => (M.wipe vs).forget
/-- a place within, from which nothing that stands may be changed -/
def Zx.at (p : Pz) (W : Addr → Prop) (H : Hp) (dom : ∀ a, W a → ∃ o, H a = some o) (pw : ∀ a, p.On a → W a) : Zx := ⟨p, W, H, dom, pw⟩
/-- the place of a comprehension's turn: D is its new list -/
theorem Mt.within (M : Mt C Z G Γ σ H1 n) {Dn : Addr} (nD : H1 Dn = none) (e : Bt Z.p H1 H) (pa : PAt Z.p H m) {W : Addr → Prop} (hW : ∀ a, W a ↔ Ws Z Γ σ a ∨ a = Dn) (dom : ∀ a, W a → ∃ o, H a = some o) (pw : ∀ a, Z.p.On a → W a) : Mt C (Zx.at Z.p W H dom pw) [] (borG Γ) σ H m := by
  have M' := M.bt e pa
  refine ⟨by rw [borG, List.length_map]; exact M.len, .refl, pa, fun i r hi => ?_, fun g hg => (nomatch hg), fun i j a h => ?_⟩
  · have hws : ∀ a, Ws (Zx.at Z.p W H dom pw) (borG Γ) σ a → Ws Z Γ σ a ∨ a = Dn := fun a w => (hW a).1 (noNew_bor.ws a w)
    rw [borG, List.getElem?_map] at hi
    obtain ⟨o, ho, e2⟩ := Option.map_eq_some_iff.1 hi
    cases o with
    | none => cases e2
    | some r0 =>
      obtain rfl := Option.some.inj e2
      obtain ⟨v, hv, s⟩ := M.sl i r0 ho
      refine ⟨v, hv, ?_⟩
      have key : ∀ c o, ¬ Ws Z Γ σ c → H1 c = some o → ¬ Ws (Zx.at Z.p W H dom pw) (borG Γ) σ c ∧ H c = some o := fun c o nc h =>
        ⟨fun z => (hws c z).elim nc (fun z => by rw [z, nD] at h; cases h), e c o (fun z => nc (.inl (Z.pw c z))) h⟩
      match r0, s with
      | .val d, s => exact Rep.mono key s
      | .new d, ⟨a, ea, h0, r⟩ =>
        obtain ⟨o, ho⟩ := r.at
        exact .inr ⟨a, o, ea, Z.apart h0, e a o (Z.apart h0) ho, r.v.mono key fun u => e a u (Z.apart h0)⟩
      | .bor d, .inl s => exact .inl (Rep.mono key s)
      | .bor d, .inr ⟨a, o, ea, na, h0, r⟩ =>
        exact .inr ⟨a, o, ea, na, e a o na (M.fr a o na h0), r.mono key fun u => e a u na⟩
  · obtain ⟨⟨d, hd⟩, _⟩ := h
    exact absurd hd (noNew_bor i d)
/-- turn by turn -/
def lcF (pt : Pat) (c : TBx) (e : TX) (Γ : Gm) : List D → List D → Nat → (List D → Nat → Prop) → Prop
  | [], acc, n, k => k acc n
  | d :: r, acc, n, k => match bindP pt d Γ with
    | some Γ' => c Γ' n fun b n1 => if b = true then e Γ' n1 fun rv n2 => sto rv = true ∧ lcF pt c e Γ r (acc ++ [rv.d]) n2 k else lcF pt c e Γ r acc n1 k
    | none => False
def tlYes : TBx := fun _ n R => R true n
theorem rt_yes : RT C Z tYes tlYes := fun G Γ σ H n Q R M h q => q true H n .refl M.pa h
def tlLc (I : TIx) (pt : Pat) (c : TBx) (e : TX) (vs : List Nat) : TX := fun Γ n R => I Γ n fun _ ds n1 => ds.length ≤ 1000000 ∧ lcF pt c e (wipeG (borG Γ) vs) ds [] n1 fun out n2 => R (.new (.lst out)) n2
theorem GOk.fresh {W W' : Addr → Prop} {b : Addr} (nb : H b = none) (hw : ∀ a, W' a → W a ∨ a = b) : ∀ {r : Rv} {v : V}, GOk C Z W H r v → GOk C Z W' H r v := by
  have key : ∀ c o, ¬ W c → H c = some o → ¬ W' c ∧ H c = some o := fun c o nc e => ⟨fun z => (hw c z).elim nc (fun q => by rw [q, nb] at e; cases e), e⟩
  intro r v
  match r with
  | .val d => exact fun h => Rep.mono key h
  | .new d => exact fun h => h
  | .bor d =>
    rintro (h | ⟨a, o, e1, na, h0, r⟩)
    · exact .inl (Rep.mono key h)
    · exact .inr ⟨a, o, e1, na, h0, r.mono key fun _ h => h⟩
  | .tmp d => exact fun ⟨a, e1, na, h0, r⟩ => ⟨a, e1, na, h0, r.mono key fun _ h => h⟩
theorem drop_cons {α : Type} {xs : List α} {i : Nat} {x : α} (h : xs[i]? = some x) : xs.drop i = x :: xs.drop (i + 1) := by
  obtain ⟨lt, rfl⟩ := List.getElem?_eq_some_iff.1 h
  exact List.drop_eq_getElem_cons lt
theorem small6 {n : Nat} (h : n ≤ 1000000) : n < sizeLine := Nat.lt_of_le_of_lt h (by decide +kernel)
/-- a turn's value goes to the list that is made -/
theorem put_next {p : Pz} {W : Addr → Prop} {H H4 : Hp} {Dn : Addr} {acc : List D} {vs : List V} {d : D} {v : V} (hp : ∀ a, p.On a → W a) (npD : ¬ p.On Dn) (wD : W Dn) (hD : H Dn = some (.lst vs)) (e : Bt p H H4) (ra : RepL p C W H acc vs) (rv : Rep p C W H4 d v) :
    H4 Dn = some (.lst vs) ∧ RepL p C W (upd H4 Dn (.lst (vs ++ [v]))) (acc ++ [d]) (vs ++ [v]) := by
  refine ⟨e _ _ npD hD, ?_⟩
  have k1 := ra.mono (keepB hp e)
  have key : ∀ c o, ¬ W c → H4 c = some o → ¬ W c ∧ upd H4 Dn (.lst (vs ++ [v])) c = some o := fun c o nc h => ⟨nc, by rw [upd_ne fun z => nc (by rw [z]; exact wD)]; exact h⟩
  exact (k1.mono key).app ⟨v, [], rfl, rv.mono key, rfl⟩
theorem wipe_wipe (σ : L2.St) (vs : List Nat) : L2.wipe (L2.wipe σ vs) vs = L2.wipe σ vs := by
  have key : ∀ (vs ws : List Nat) (σ : L2.St), (∀ v ∈ vs, v ∈ ws) → L2.wipe (L2.wipe σ vs) ws = L2.wipe σ ws := by
    intro vs
    induction vs with
    | nil => intro ws σ _; rfl
    | cons v r ih =>
      intro ws σ h
      show L2.wipe ((L2.wipe σ r).set v none) ws = L2.wipe σ ws
      rw [wipe_set (h v List.mem_cons_self)]
      exact ih ws σ fun u hu => h u (List.mem_cons_of_mem _ hu)
  exact key vs vs σ fun _ h => h
/-- the walk's start is told for this place alone -/
theorem re_lcL {wi : TI} {g : TG} {tt : TT} {te : TE} {vs : List Nat} {I : TIx} {pt : Pat} {c : TBx} {e : TX} (hg : RG C g pt) (hs : ∀ i ∈ pt.slots, i ∈ vs) (hc : ∀ Z, RT C Z tt c) (he : ∀ Z, RE C Z te e)
    {G : List (V × Rv)} {Γ : Gm} {σ : L2.St} {H : Hp} {n : Nat} {Q : VK} {R : Rv → Nat → Prop} (M : Mt C Z G Γ σ H n)
    (hi : ∀ (Q : It → Hp → Prop) (R : Nat → List D → Nat → Prop), I Γ n R → (∀ J H' n' ds gs b, Bt Z.p H H' → PAt Z.p H' n' → WOk C Z J ds gs → (∀ g ∈ gs, GOk C Z (Ws Z Γ σ) H' g.2 g.1) → (∀ g ∈ gs, b ≤ rank g.2) → R b ds n' → Q J H') → wi σ H Q)
    (h : tlLc I pt c e vs Γ n R) (q : ∀ v H' r n', Bt Z.p H H' → PAt Z.p H' n' → XOk C Z (Ws Z Γ σ) H H' r v → R r n' → Q v H') : tLc wi g tt te vs σ H Q := by
  refine hi _ _ h fun J H1 n1 ds gs b e1 p1 wok gok _ ⟨few, r1⟩ => ?_
  intro Dn nD
  have M1 := M.bt e1 p1
  have npD : ¬ Z.p.On Dn := fun z => by
    obtain ⟨o, ho⟩ := p1.at z
    rw [nD] at ho
    cases ho
  obtain ⟨Gd, Y, w, hG, hY⟩ := wok
  let W : Addr → Prop := fun a => Ws Z Γ σ a ∨ a = Dn
  have pw : ∀ a, Z.p.On a → W a := fun a z => .inl (Ws.pw z)
  -- what stays known
  have known : ∀ {H' : Hp} {k : Nat} {l : List V}, Bt Z.p H1 H' → PAt Z.p H' k → H' Dn = some (.lst l) → ∀ a, W a → ∃ o, H' a = some o := fun {H' k l} b pa hD a wa => wa.elim (fun z => M1.dom1 b pa a z) fun z => ⟨_, z ▸ hD⟩
  have views : ∀ {H' : Hp}, Bt Z.p H1 H' → ∀ g ∈ gs, View Z.p C W H' g.2.d g.1 := fun {H'} b g hg => (((gok g hg).fresh nD fun a z => z).bt pw b).view
  refine lc_it w (fun i H' => ∃ (acc : List D) (l : List V) (k : Nat), Bt Z.p H1 H' ∧ PAt Z.p H' k ∧ H' Dn = some (.lst l) ∧ RepL Z.p C W H' acc l ∧ acc.length ≤ i ∧ lcF pt c e (wipeG (borG Γ) vs) (ds.drop i) acc k fun out n2 => R (.new (.lst out)) n2) ?_ ?_ ?_ ?_
  · exact ⟨[], [], n1, .same (same_upd nD), p1.same (same_upd nD), upd_same, rfl, Nat.le.refl, r1⟩
  · rintro i H' _ ⟨acc, l, k, b, _⟩
    exact hG W H' ((M.fr.trans e1).trans b).nl (views b)
  · rintro i x H2 H3 hi ⟨acc, l, k, b2, pa2, hD2, ra, la, r2⟩ y
    obtain ⟨s3, d, hd, rd⟩ := hY W i H2 x H3 ((M.fr.trans e1).trans b2).nl (known b2 pa2 hD2) (views b2) hi y
    rw [drop_cons hd] at r2
    unfold lcF at r2
    have b3 := b2.trans (.same s3)
    have pa3 := pa2.same s3
    have hD3 := s3 _ _ hD2
    have ra3 := ra.mono (W' := W) fun c o nc h => ⟨nc, s3 _ _ h⟩
    have MW := ((M1.within (W := W) nD b3 pa3 (fun a => Iff.rfl) (known b3 pa3 hD3) pw)).wipe vs
    split at r2
    · next Γ' eb =>
      have nn := (noNew_bor (Γ := Γ)).wipe vs
      have nn' := nn.bind eb
      refine hg _ [] _ _ H3 k d x Γ' _ MW (rd.mono fun c o nc h => ⟨fun z => nc (nn.ws c z), h⟩) eb fun σ2 M2 hw => ⟨?_, ?_⟩
      · rw [hw vs hs]
        exact wipe_wipe σ vs
      refine hc _ [] Γ' σ2 H3 k _ _ M2 r2 fun bb H4 n4 b4 pa4 r4 => ?_
      cases bb with
      | false => exact iteF ⟨acc, l, n4, b3.trans b4, pa4, b4 _ _ npD hD3, ra3.mono (keepB pw b4), by omega, r4⟩
      | true =>
        refine iteT (he _ [] Γ' σ2 H4 n4 _ _ (M2.bt b4 pa4) r4 fun v H5 rv n5 b5 pa5 x5 ⟨st, r5⟩ => ?_)
        have rep := x5.rep (fun a w => (M2.bt b4 pa4).wdom w) st
        have rep' : Rep Z.p C W H5 rv.d v := rep.mono fun c o nc h => ⟨fun z => nc (.inl z), h⟩
        have b35 := b4.trans b5
        obtain ⟨g1, g2⟩ := put_next pw npD (.inr rfl) hD3 b35 ra3 rep'
        refine ⟨l, g1, by rw [ra.len]; exact small6 (by omega), acc ++ [rv.d], l ++ [v], n5, fun c o nc h => ?_, pa5.put npD g1, upd_same, g2, by simp; omega, r5⟩
        rw [upd_ne fun z => by rw [z, nD] at h; cases h]
        exact (b3.trans b35) c o nc h
    · exact r2.elim
  · rintro H2 ⟨acc, l, k, b2, pa2, hD2, ra, la, r2⟩
    rw [List.drop_length] at r2
    exact q _ H2 (.new (.lst acc)) k (e1.trans b2) pa2 ⟨Dn, rfl, e1.free (fun a z => p1.at z) nD, l, hD2, ra⟩ r2
theorem re_lc {wi : TI} {g : TG} {tt : TT} {te : TE} {vs : List Nat} {I : TIx} {pt : Pat} {c : TBx} {e : TX} (hi : RI C Z wi I) (hg : RG C g pt) (hs : ∀ i ∈ pt.slots, i ∈ vs) (hc : ∀ Z, RT C Z tt c) (he : ∀ Z, RE C Z te e) :
    RE C Z (tLc wi g tt te vs) (tlLc I pt c e vs) := fun G Γ σ H n Q R M h q => re_lcL hg hs hc he M (fun Q R h q => hi G Γ σ H n Q R M h q) h q
end
end TL
end
-- TL7
section
set_option Elab.async false
set_option linter.all false
set_option maxRecDepth 100000
set_option maxHeartbeats 4100000
/-! TL7: statements; defs -/
variable [TL.Tb]
namespace TL
open L2 PyProof.Rows PySem PySem.Spec TS RZ
structure TEn where
  nx : Gm → Nat → Prop
  rt : Rv → Nat → Prop
  bk : Gm → Nat → Prop := fun _ _ => False
  ct : Gm → Nat → Prop := fun _ _ => False
abbrev TSt := TEn → Gm → Nat → Prop
/-- what is wanted behind, told both ways -/
structure Lk (C : Addr) (Z : Zx) (G : List (V × Rv)) (E : TEn) (F : Ends) : Prop where
  nx : ∀ Γ σ H n, Mt C Z G Γ σ H n → E.nx Γ n → F.nx σ H
  rt : ∀ v H r n, Bt Z.p Z.H0 H → PAt Z.p H n → sto r = true → XOk C Z Z.W0 Z.H0 H r v → E.rt r n → F.rt v H
  bk : ∀ Γ σ H n, Mt C Z G Γ σ H n → E.bk Γ n → F.bk σ H
  ct : ∀ Γ σ H n, Mt C Z G Γ σ H n → E.ct Γ n → F.ct σ H
def RS (C : Addr) (t : TS) (T : TSt) : Prop := ∀ (Z : Zx) (G : List (V × Rv)) (Γ : Gm) (σ : L2.St) (H : Hp) (n : Nat) (E : TEn) (F : Ends), Mt C Z G Γ σ H n → Lk C Z G E F → T E Γ n → t F σ H
section
variable {C : Addr} {K : PySem.W.Frag}
def tlNx : TSt := fun E Γ n => E.nx Γ n
def tlSq (T U : TSt) : TSt := fun E Γ n => T { E with nx := U E } Γ n
def tlNever : TSt := fun _ _ _ => False
theorem rs_nx : RS C tNext tlNx := fun Z G Γ σ H n E F M L h => L.nx Γ σ H n M h
theorem rs_never : RS C tNever tlNever := fun Z G Γ σ H n E F M L h => h.elim
theorem rs_sq {t u : TS} {T U : TSt} (h1 : RS C t T) (h2 : RS C u U) : RS C (tSeq t u) (tlSq T U) := fun Z G Γ σ H n E F M L h =>
  h1 Z G Γ σ H n { E with nx := U E } { F with nx := u F } M ⟨fun Γ' σ' H' n' M' h' => h2 Z G Γ' σ' H' n' E F M' L h', L.rt, L.bk, L.ct⟩ h
/-- a value goes to a slot -/
def tlSet (i : Nat) (T : TX) : TSt := fun E Γ n => T Γ n fun r n1 => match r with
  | .val d => E.nx (Γ.set i (some (.val d))) n1
  | .new d => E.nx (Γ.set i (some (.new d))) n1
  | _ => False
theorem rs_set {t : TE} {T : TX} {i : Nat} (h : ∀ Z, RE C Z t T) : RS C (tAsg t (gName i)) (tlSet i T) := by
  intro Z G Γ σ H n E F M L h1
  refine h Z G Γ σ H n _ _ M h1 fun v H1 r n1 e1 p1 x1 r1 => ?_
  match r, x1, r1 with
  | .val d, x1, r1 => exact L.nx _ _ H1 n1 ((M.bt e1 p1).set_val x1) r1
  | .new d, ⟨a, ea, na, ro⟩, r1 =>
    subst ea
    exact L.nx _ _ H1 n1 (M.set_new e1 p1 na ro) r1
/-- a, b = x, y: each into its own slot -/
def tlSto2 (i j : Nat) (d : Rv) (s : Rv) (E : TEn) (Γ : Gm) (n : Nat) : Prop := match s with
  | .val e => E.nx ((Γ.set i (some d)).set j (some (.val e))) n
  | .new e => E.nx ((Γ.set i (some d)).set j (some (.new e))) n
  | _ => False
def tlPar (i j : Nat) (T U : TX) : TSt := fun E Γ n => T Γ n fun r n1 => match r with
  | .val d => U Γ n1 fun s n2 => tlSto2 i j (.val d) s E Γ n2
  | .new d => U (borG Γ) n1 fun s n2 => tlSto2 i j (.new d) s E Γ n2
  | _ => False
theorem rs_parAt {t u : TE} {T U : TX} {i j : Nat} (Z : Zx) (h : RE C Z t T) (h2 : ∀ Z, RE C Z u U) (G : List (V × Rv)) (Γ : Gm) (σ : L2.St) (H : Hp) (n : Nat) (E : TEn) (F : Ends) (M : Mt C Z G Γ σ H n) (L : Lk C Z G E F) (h1 : tlPar i j T U E Γ n) : tPar i j (tCons t (tCons u tNil)) F σ H := by
  refine h G Γ σ H n _ _ M h1 fun v H1 r n1 e1 p1 x1 r1 => ?_
  have M1 := M.bt e1 p1
  match r, x1, r1 with
  | .val d, x1, r1 =>
    refine h2 Z G Γ σ H1 n1 _ _ M1 r1 fun u H2 s n2 e2 p2 x2 r2 => ⟨v, u, rfl, ?_⟩
    have MV := M1.set_val (i := i) x1
    have sub : ∀ a, Ws Z (Γ.set i (some (.val d))) (σ.set i (some v)) a → Ws Z Γ σ a := fun a h => h.elim .inl fun ⟨j, h⟩ => .inr ⟨j, h.of_set.1⟩
    match s, x2, r2 with
    | .val e, x2, r2 => exact L.nx _ _ H2 n2 ((MV.bt e2 p2).set_val (Rep.mono (fun c o nc h => ⟨fun z => nc (sub c z), h⟩) x2)) r2
    | .new e, ⟨b, eb, nb, ro⟩, r2 =>
      subst eb
      exact L.nx _ _ H2 n2 (MV.set_new e2 p2 nb (ro.mono (fun c o nc h => ⟨fun z => nc (z.imp (sub c) id), h⟩) fun _ h => h)) r2
  | .new d, ⟨a, ea, na, ro⟩, r1 =>
    subst ea
    obtain ⟨oa, ha⟩ := ro.at
    have MN := M.set_new (i := i) e1 p1 na ro
    have pw : ∀ b, Z.p.On b → (Ws Z Γ σ b ∨ b = a) := fun b z => .inl (Ws.pw z)
    have dom : ∀ b, (Ws Z Γ σ b ∨ b = a) → ∃ o, H1 b = some o := fun b w => w.elim (fun z => M1.wdom z) fun z => ⟨oa, by rw [z]; exact ha⟩
    have MW := M.within (Dn := a) na e1 p1 (W := fun b => Ws Z Γ σ b ∨ b = a) (fun b => Iff.rfl) dom pw
    refine h2 _ [] _ σ H1 n1 _ _ MW r1 fun u H2 s n2 e2 p2 x2 r2 => ⟨_, u, rfl, ?_⟩
    have sub : ∀ c, Ws Z (Γ.set i (some (.new d))) (σ.set i (some (.ref a))) c → Ws (Zx.at Z.p (fun b => Ws Z Γ σ b ∨ b = a) H1 dom pw) (borG Γ) σ c := fun c h =>
      .inl (h.elim (fun z => .inl (.inl z)) fun ⟨k, h⟩ => h.of_setN.elim (fun z => .inr z.2) fun z => .inl (.inr ⟨k, z.1⟩))
    match s, x2, r2 with
    | .val e, x2, r2 => exact L.nx _ _ H2 n2 ((MN.bt e2 p2).set_val (Rep.mono (fun c o nc h => ⟨fun z => nc (sub c z), h⟩) x2)) r2
    | .new e, ⟨b, eb, nb, ro2⟩, r2 =>
      subst eb
      exact L.nx _ _ H2 n2 (MN.set_new e2 p2 nb (RepO.mono (fun c o nc h => ⟨fun z => nc (z.imp (sub c) id), h⟩) (fun _ h => h) ro2)) r2
theorem rs_par {t u : TE} {T U : TX} {i j : Nat} (h : ∀ Z, RE C Z t T) (h2 : ∀ Z, RE C Z u U) : RS C (tPar i j (tCons t (tCons u tNil))) (tlPar i j T U) := fun Z => rs_parAt Z (h Z) h2
/-! ### return, tests, walks -/
def tlRet (T : TX) : TSt := fun E Γ n => T Γ n fun r n1 => sto r = true ∧ E.rt r n1
/-- an own object is given back -/
def tlRetV (i : Nat) : TSt := fun E Γ n => match Γ[i]? with
  | some (some (.new d)) => E.rt (.new d) n
  | some (some (.val d)) => E.rt (.val d) n
  | _ => False
theorem XOk.ret {Z : Zx} {Γ : Gm} {σ : L2.St} {H0 H H' : Hp} (h0 : ∀ a, H a = none → H0 a = none) : ∀ {r : Rv} {v : V}, sto r = true → XOk C Z (Ws Z Γ σ) H H' r v → XOk C Z Z.W0 H0 H' r v
  | .val d, _, _, h => Rep.mono (fun c o nc h => ⟨fun z => nc (.inl z), h⟩) h
  | .new d, _, _, ⟨a, e, na, r⟩ => ⟨a, e, h0 a na, r.mono (fun c o nc h => ⟨fun z => nc (z.imp .inl id), h⟩) fun _ h => h⟩
theorem rs_ret {t : TE} {T : TX} (h : ∀ Z, RE C Z t T) : RS C (tRet t) (tlRet T) := by
  intro Z G Γ σ H n E F M L h1
  refine h Z G Γ σ H n _ _ M h1 fun v H1 r n1 e1 p1 x1 ⟨st, r1⟩ => ?_
  exact L.rt v H1 r n1 (M.fr.trans e1) p1 st (x1.ret (fun a na => M.fr.free M.pdom na) st) r1
theorem rs_retV {i : Nat} : RS C (tRet (tVar i)) (tlRetV i) := by
  intro Z G Γ σ H n E F M L h1
  unfold tlRetV at h1
  split at h1
  · next d e =>
    obtain ⟨v, hv, a, rfl, h0, r⟩ := M.sl i _ e
    have ow : Ow Γ σ i a := ⟨⟨d, e⟩, hv⟩
    exact ⟨_, hv, L.rt _ H (.new d) n M.fr M.pa rfl ⟨a, rfl, h0, r.mono (fun c o nc h => ⟨fun z => nc (z.elim .inl fun q => by rw [q]; exact .inr ⟨i, ow⟩), h⟩) fun _ h => h⟩ h1⟩
  · next d e =>
    obtain ⟨v, hv, r⟩ := M.sl i _ e
    exact ⟨_, hv, L.rt _ H (.val d) n M.fr M.pa rfl (Rep.mono (fun c o nc h => ⟨fun z => nc (.inl z), h⟩) r) h1⟩
  · exact h1.elim
def tlIf (c : TBx) (T U : TSt) : TSt := fun E Γ n => c Γ n fun b n1 => if b = true then T E Γ n1 else U E Γ n1
theorem rs_if {c : TT} {t u : TS} {Tc : TBx} {T U : TSt} (hc : ∀ Z, RT C Z c Tc) (h1 : RS C t T) (h2 : RS C u U) : RS C (tIfS c t u) (tlIf Tc T U) := by
  intro Z G Γ σ H n E F M L h
  refine hc Z G Γ σ H n _ _ M h fun b H1 n1 e1 p1 r1 => ?_
  have M1 := M.bt e1 p1
  cases b with
  | true => exact iteT (h1 Z G Γ σ H1 n1 E F M1 L r1)
  | false => exact iteF (h2 Z G Γ σ H1 n1 E F M1 L r1)
def tlEx (T : TX) : TSt := fun E Γ n => T Γ n fun _ n1 => E.nx Γ n1
theorem rs_ex {t : TE} {T : TX} (h : ∀ Z, RE C Z t T) : RS C (tDrop t) (tlEx T) := by
  intro Z G Γ σ H n E F M L h1
  exact h Z G Γ σ H n _ _ M h1 fun v H1 r n1 e1 p1 x1 r1 => L.nx Γ σ H1 n1 (M.bt e1 p1) r1
/-- ahead of a statement an own slot may be given free -/
def relG (i : Nat) (Γ : Gm) : Gm := match Γ[i]? with
  | some (some (.new d)) => Γ.set i (some (.val d))
  | _ => Γ
def tlRel (i : Nat) (T : TSt) : TSt := fun E Γ n => T E (relG i Γ) n
theorem rs_rel {t : TS} {T : TSt} (i : Nat) (h : RS C t T) : RS C t (tlRel i T) := by
  intro Z G Γ σ H n E F M L h1
  unfold tlRel relG at h1
  split at h1
  · next d e => exact h Z G _ σ H n E F (M.release e) L h1
  · exact h Z G Γ σ H n E F M L h1
/-- a walk, turn by turn -/
def forF (pt : Pat) (T : TSt) (E : TEn) : List D → Gm → Nat → Prop
  | [], Γ, n => E.nx Γ n
  | d :: r, Γ, n => match bindP pt d Γ with
    | some Γ' => T { nx := forF pt T E r, ct := forF pt T E r, bk := E.nx, rt := E.rt } Γ' n
    | none => False
def tlFor (I : TIx) (pt : Pat) (T : TSt) : TSt := fun E Γ n => I Γ n fun b ds n1 => 1 ≤ b ∧ forF pt T E ds Γ n1
theorem GOk.sok {Z : Zx} {W : Addr → Prop} {H : Hp} : ∀ {r : Rv} {v : V}, 1 ≤ rank r → GOk C Z W H r v → SOk C Z W H r v ∧ ∀ d, r ≠ .new d
  | .val d, _, _, h => ⟨h, fun e z => by cases z⟩
  | .bor d, _, _, h => ⟨h, fun e z => by cases z⟩
  | .tmp d, _, l, _ => (Nat.not_succ_le_zero 0 l).elim
theorem SOk.view {Z : Zx} {W : Addr → Prop} {H : Hp} (own : ∀ a, Z.H0 a = none → ¬ Z.p.On a) : ∀ {r : Rv} {v : V}, SOk C Z W H r v → View Z.p C W H r.d v
  | .val d, _, h => .inl h
  | .new d, _, ⟨a, e, h0, r⟩ => .inr ⟨a, e, own a h0, r.v⟩
  | .bor d, _, .inl h => .inl h
  | .bor d, _, .inr ⟨a, o, e, na, _, r⟩ => .inr ⟨a, e, na, r⟩
theorem rs_for {wi : TI} {g : TG} {tb : TS} {I : TIx} {pt : Pat} {T : TSt} (hi : ∀ Z, RI C Z wi I) (hg : RG C g pt) (hb : RS C tb T) : RS C (tFor wi g tb) (tlFor I pt T) := by
  intro Z G Γ σ H n E F M L h
  refine hi Z G Γ σ H n _ _ M h fun J H1 n1 ds gs b e1 p1 wok gok last ⟨eb, r1⟩ => ?_
  have lst : ∀ g ∈ gs, 1 ≤ rank g.2 := fun g hg => Nat.le_trans eb (last g hg)
  obtain ⟨Gd, Y, w, hG, hY⟩ := wok
  have M1 := M.bt e1 p1
  have M2 : Mt C Z (gs ++ G) Γ σ H1 n1 := ⟨M1.len, M1.fr, M1.pa, M1.sl, fun g hg => (List.mem_append.1 hg).elim (fun z => (gok g z).sok (lst g z)) (M1.gs g), M1.inj⟩
  have views : ∀ {Γ' : Gm} {σ' : L2.St} {H' : Hp} {k : Nat}, Mt C Z (gs ++ G) Γ' σ' H' k → ∀ g ∈ gs, View Z.p C (Ws Z Γ' σ') H' g.2.d g.1 := fun M' g hg => (M'.gs g (List.mem_append_left _ hg)).1.view fun a => Z.apart
  have drop : ∀ {Γ' : Gm} {σ' : L2.St} {H' : Hp} {k : Nat}, Mt C Z (gs ++ G) Γ' σ' H' k → Mt C Z G Γ' σ' H' k := fun M' => ⟨M'.len, M'.fr, M'.pa, M'.sl, fun g hg => M'.gs g (List.mem_append_right _ hg), M'.inj⟩
  refine for_it w (D := F) (fun i σ' H' => ∃ (Γ' : Gm) (k : Nat), Mt C Z (gs ++ G) Γ' σ' H' k ∧ forF pt T E (ds.drop i) Γ' k) ⟨Γ, n1, M2, r1⟩ ?_ ?_ ?_
  · rintro i σ' H' _ ⟨Γ', k, M', _⟩
    exact hG _ H' M'.fr.nl (views M')
  · rintro i x σ' H' H3 hi ⟨Γ', k, M', r2⟩ y
    obtain ⟨s3, d, hd, rd⟩ := hY _ i H' x H3 M'.fr.nl (fun a w => M'.wdom w) (views M') hi y
    rw [drop_cons hd] at r2
    unfold forF at r2
    split at r2
    · next Γ2 eb2 =>
      refine hg Z (gs ++ G) Γ' σ' H3 k d x Γ2 _ (M'.same s3) rd eb2 fun σ2 M3 _ => ?_
      refine hb Z (gs ++ G) Γ2 σ2 H3 k { nx := forF pt T E (ds.drop (i + 1)), ct := forF pt T E (ds.drop (i + 1)), bk := E.nx, rt := E.rt } _ M3 ⟨fun Γ4 σ4 H4 k4 M4 r4 => ⟨Γ4, k4, M4, r4⟩, L.rt, fun Γ4 σ4 H4 k4 M4 r4 => L.nx Γ4 σ4 H4 k4 (drop M4) r4, fun Γ4 σ4 H4 k4 M4 r4 => ⟨Γ4, k4, M4, r4⟩⟩ r2
    · exact r2.elim
  · rintro σ' H' ⟨Γ', k, M', r2⟩
    rw [List.drop_length] at r2
    exact L.nx Γ' σ' H' k (drop M') r2
def tlWhile (c : TBx) (T : TSt) : TSt := fun E Γ n => ∃ I : Nat → Gm → Nat → Prop, (∃ m, I m Γ n) ∧ ∀ m Γ n, I m Γ n →
  c Γ n fun b n1 => if b = true then T { nx := fun Γ' n' => ∃ m', m' < m ∧ I m' Γ' n', ct := fun Γ' n' => ∃ m', m' < m ∧ I m' Γ' n', bk := E.nx, rt := E.rt } Γ n1 else E.nx Γ n1
theorem rs_while {c : TT} {tb : TS} {Tc : TBx} {T : TSt} (hc : ∀ Z, RT C Z c Tc) (hb : RS C tb T) : RS C (tWhile c tb) (tlWhile Tc T) := by
  intro Z G Γ σ H n E F M L ⟨I, ⟨m0, i0⟩, turn⟩
  refine ⟨fun m σ' H' => ∃ Γ' n', Mt C Z G Γ' σ' H' n' ∧ I m Γ' n', ⟨m0, Γ, n, M, i0⟩, ?_⟩
  rintro m σ' H' ⟨Γ', n', M', i'⟩
  refine hc Z G Γ' σ' H' n' _ _ M' (turn m Γ' n' i') fun b H1 n1 e1 p1 r1 => ?_
  have M1 := M'.bt e1 p1
  cases b with
  | true =>
    refine iteT ⟨fun σ2 H2 => ∃ m', m' < m ∧ ∃ Γ2 n2, Mt C Z G Γ2 σ2 H2 n2 ∧ I m' Γ2 n2, fun _ _ h => h, ?_⟩
    refine hb Z G Γ' σ' H1 n1 { nx := fun Γ' n' => ∃ m', m' < m ∧ I m' Γ' n', ct := fun Γ' n' => ∃ m', m' < m ∧ I m' Γ' n', bk := E.nx, rt := E.rt } _ M1 ⟨fun Γ4 σ4 H4 k4 M4 ⟨m', l, i4⟩ => ⟨m', l, Γ4, k4, M4, i4⟩, L.rt, L.nx, fun Γ4 σ4 H4 k4 M4 ⟨m', l, i4⟩ => ⟨m', l, Γ4, k4, M4, i4⟩⟩ r1
  | false => exact iteF (L.nx Γ' σ' H1 n1 M1 r1)
/-! ### own lists changed -/
/-- x.append(e) -/
def tlApp (i : Nat) (T : TX) : TSt := fun E Γ n => match Γ[i]? with
  | some (some (.new (.lst ds))) => T Γ n fun r n1 => sto r = true ∧ ds.length ≤ 1000000 ∧ E.nx (Γ.set i (some (.new (.lst (ds ++ [r.d]))))) n1
  | _ => False
theorem rs_app {i : Nat} {t : TE} {T : TX} (h : ∀ Z, RE C Z t T) : RS C (tDrop (tBM K "list" rAppend (tVar i) (tCons t tNil))) (tlApp i T) := by
  intro Z G Γ σ H n E F M L h1
  unfold tlApp at h1
  split at h1
  · next ds e =>
    obtain ⟨v, hv, a, rfl, h0, vs, ha, rr⟩ := M.sl i _ e
    refine ⟨_, hv, .inl ⟨rfl, vs, SqL.of ha⟩, ?_⟩
    refine h Z G Γ σ H n _ _ M h1 fun v H1 r n1 e1 p1 x1 ⟨st, few, r1⟩ => ?_
    have M1 := M.bt e1 p1
    have ha1 := e1 a _ (Z.apart h0) ha
    have rr1 := rr.mono (keepB (fun _ => Ws.pw) e1)
    have rep := x1.rep (fun b w => M.wdom w) st
    have wa : Ws Z Γ σ a := .inr ⟨i, ⟨⟨_, e⟩, hv⟩⟩
    have key : ∀ c o, ¬ Ws Z Γ σ c → H1 c = some o → ¬ Ws Z Γ σ c ∧ upd H1 a (.lst (vs ++ [v])) c = some o := fun c o nc h => ⟨nc, by rw [upd_ne fun z => nc (by rw [z]; exact wa)]; exact h⟩
    refine ⟨a, vs, v, rfl, rfl, ha1, by rw [rr.len]; exact small6 few, ?_⟩
    exact L.nx _ σ _ n1 (M1.mut (d' := .lst (ds ++ [r.d])) e hv ⟨_, upd_same, (rr1.mono key).app ⟨v, [], rfl, rep.mono key, rfl⟩⟩) r1
  · exact h1.elim
end
end TL
end
-- TL8
section
set_option Elab.async false
set_option linter.all false
set_option maxRecDepth 100000
set_option maxHeartbeats 4100000
/-! TL8: defs and their calls; shelves; isinstance; places -/
variable [TL.Tb]
namespace TL
open L2 PyProof.Rows PySem PySem.Spec TS RZ
section
variable {C : Addr} {K : PySem.W.Frag}
/-! ### defs -/
/-- what a def gives back -/
def ROk (C : Addr) (p : Pz) (W : Addr → Prop) (H H' : Hp) : Rv → V → Prop
  | .val d, v => Rep p C W H' d v
  | .new d, v => ∃ a, v = .ref a ∧ H a = none ∧ RepO p C (fun c => W c ∨ c = a) H' a d
  | _, _ => False
/-- arguments: true where the place itself may be lent -/
def ARep (C : Addr) (p : Pz) (W : Addr → Prop) (H : Hp) : List Bool → List D → List V → Prop
  | [], ds, vs => ds = [] ∧ vs = []
  | k :: ks, ds, vs => ∃ d dr v vr, ds = d :: dr ∧ vs = v :: vr ∧ (if k = true then View p C W H d v else Rep p C W H d v) ∧ ARep C p W H ks dr vr
/-- the promise of a def, told by trees -/
def spOf (C : Addr) (ks : List Bool) (S : ST) : Sp := fun vs H Q _ => ∃ (p : Pz) (W : Addr → Prop) (n : Nat) (ds : List D) (R : Rv → Nat → Prop), (∀ a, W a → ∃ o, H a = some o) ∧ (∀ a, p.On a → W a) ∧ PAt p H n ∧
  ARep C p W H ks ds vs ∧ S ds n R ∧ ∀ v H' r n', Bt p H H' → PAt p H' n' → ROk C p W H H' r v → R r n' → Q v H'
theorem ARep.len {p : Pz} {W : Addr → Prop} {H : Hp} : ∀ {ks : List Bool} {ds : List D} {vs : List V}, ARep C p W H ks ds vs → vs.length = ks.length ∧ ds.length = ks.length
  | [], _, _, ⟨e1, e2⟩ => by rw [e1, e2]; exact ⟨rfl, rfl⟩
  | k :: ks, _, _, ⟨d, dr, v, vr, e1, e2, _, r⟩ => by
    rw [e1, e2, List.length_cons, List.length_cons, List.length_cons, r.len.1, r.len.2]
    exact ⟨rfl, rfl⟩
def slot (k : Bool) (d : D) : Option Rv := some (if k = true then .bor d else .val d)
def slots (ks : List Bool) (ds : List D) (m : Nat) : Gm := List.zipWith slot ks ds ++ List.replicate m none
theorem ARep.get {p : Pz} {W : Addr → Prop} {H : Hp} : ∀ {ks : List Bool} {ds : List D} {vs : List V} {i : Nat} {r : Rv}, ARep C p W H ks ds vs → (List.zipWith slot ks ds)[i]? = some (some r) →
    ∃ v d, vs[i]? = some v ∧ ((r = .val d ∧ Rep p C W H d v) ∨ (r = .bor d ∧ View p C W H d v))
  | [], _, _, i, r, _, e => by simp at e
  | k :: ks, _, _, i, r, ⟨d, dr, v, vr, e1, e2, h, q⟩, e => by
    subst e1 e2
    cases i with
    | zero =>
      have e : slot k d = some r := by simpa using e
      refine ⟨v, d, rfl, ?_⟩
      cases k with
      | true => exact .inr ⟨(Option.some.inj e).symm, h⟩
      | false => exact .inl ⟨(Option.some.inj e).symm, h⟩
    | succ i =>
      obtain ⟨u, d2, h1, h2⟩ := q.get (i := i) (r := r) (by simpa using e)
      exact ⟨u, d2, by simpa using h1, h2⟩
theorem slots_old {ks : List Bool} {ds : List D} {m i : Nat} {r : Rv} (e : (slots ks ds m)[i]? = some (some r)) : (List.zipWith slot ks ds)[i]? = some (some r) := by
  unfold slots at e
  rw [List.getElem?_append] at e
  split at e
  · exact e
  · rw [List.getElem?_replicate] at e
    split at e <;> cases e
theorem slot_not {k : Bool} {d e : D} : slot k d ≠ some (.new e) := by
  unfold slot
  cases k <;> intro h <;> cases h
theorem slots_not {ks : List Bool} {ds : List D} {m : Nat} : NoNew (slots ks ds m) := by
  intro i d e
  have e := slots_old e
  rw [List.getElem?_zipWith] at e
  split at e
  · exact slot_not (Option.some.inj e)
  · cases e
/-- the start of a def's body -/
theorem mt_start {p : Pz} {W : Addr → Prop} {H : Hp} {n : Nat} {ks : List Bool} {ds : List D} {vs : List V} {N : List Str} (dom : ∀ a, W a → ∃ o, H a = some o) (pw : ∀ a, p.On a → W a) (pa : PAt p H n) (ar : ARep C p W H ks ds vs) :
    Mt C (Zx.at p W H dom pw) [] (slots ks ds (N.length - ks.length)) (L2.start N vs) H n := by
  have nn : NoNew (slots ks ds (N.length - ks.length)) := slots_not
  refine ⟨?_, .refl, pa, fun i r hi => ?_, fun g hg => (nomatch hg), fun i j a h => absurd h.1.choose_spec (nn i _)⟩
  · unfold L2.start slots
    simp [ar.len.1, ar.len.2]
  · have hi := slots_old hi
    obtain ⟨v, d, hv, h⟩ := ar.get hi
    have ws : ∀ a, Ws (Zx.at p W H dom pw) (slots ks ds (N.length - ks.length)) (L2.start N vs) a → W a := nn.ws
    have key : ∀ c o, ¬ W c → H c = some o → ¬ Ws (Zx.at p W H dom pw) (slots ks ds (N.length - ks.length)) (L2.start N vs) c ∧ H c = some o := fun c o nc h => ⟨fun z => nc (ws c z), h⟩
    have lt := (List.getElem?_eq_some_iff.1 hv).1
    refine ⟨v, ?_, ?_⟩
    · unfold L2.start
      rw [List.getElem?_append_left (by rw [List.length_map]; exact lt), List.getElem?_map, hv]
      rfl
    · rcases h with ⟨rfl, h⟩ | ⟨rfl, h | ⟨a, e, na, h⟩⟩
      · exact Rep.mono key h
      · exact .inl (Rep.mono key h)
      · obtain ⟨o, ho⟩ := h.at
        exact .inr ⟨a, o, e, na, ho, h.mono key fun _ h => h⟩
/-- fewer draws may be left over -/
def dn (R : Rv → Nat → Prop) : Rv → Nat → Prop := fun r n => ∃ m, m ≤ n ∧ R r m
theorem dn_of {R : Rv → Nat → Prop} {r : Rv} {n : Nat} (h : R r n) : dn R r n := ⟨n, Nat.le.refl, h⟩
/-- what is wanted behind a body -/
def ends (R : Rv → Nat → Prop) : TEn := { nx := fun _ n => dn R (.val .non) n, rt := dn R }
theorem bridge {t : TS} {T : TSt} {ks : List Bool} {S : ST} {N : List Str} {vs : List V} {H : Hp} {Q : VK} {E : XK} (rs : RS C t T)
    (tree : ∀ ds n R, S ds n R → T (ends R) (slots ks ds (N.length - ks.length)) n) (h : spOf C ks S vs H Q E) : t { nx := fun _ H' => Q .non H', rt := Q } (L2.start N vs) H := by
  obtain ⟨p, W, n, ds, R, dom, pw, pa, ar, hS, q⟩ := h
  refine rs (Zx.at p W H dom pw) [] _ _ H n (ends R) _ (mt_start dom pw pa ar) ⟨fun Γ σ H' n' M ⟨m, l, h⟩ => ?_, fun v H' r n' b pa' st x ⟨m, l, h⟩ => ?_, fun Γ σ H' n' M h => h, fun Γ σ H' n' M h => h⟩ (tree ds n R hS)
  · exact q .non H' (.val .non) m M.fr (M.pa.le l) (rfl : V.non = V.non) h
  · refine q v H' r m b (pa'.le l) ?_ h
    match r, st, x with
    | .val d, _, x => exact x
    | .new d, _, x => exact x
section
variable {P : Program} {w : World} {mg : Str → Option Value} {base : Heap}
/-- a def keeps its promise: its body's term, its trees' reading -/
theorem def_ok {x q : Str} {st : Stmt} {f : Addr} {fd : FuncData} {N ps : List Str} {k : Nat} {ks : List Bool} {S : ST} {T : TSt} (F : Fun K x q st f fd) (sc : FnScope N ps (defScope st)) (hk : ks.length = ps.length)
    (body : ∀ (cdv : Value) (A : Around) (outer : List Env) (s : Shared) (H : Hp) (E : XK), Room k (A.deeper (envOfC q (defScope st) s.heap.objs.size f cdv)) → ∃ t, PSs (cxOf CX0 P w K mg base N q (defScope st) f cdv A outer s H E).nox (defBody st) t ∧ RS C t T)
    (tree : ∀ ds n R, S ds n R → T (ends R) (slots ks ds (N.length - ks.length)) n) : FnOk P w K mg base CX0 (k + 1) f fd ps (spOf C ks S) := by
  refine F.ok sc (fun vs H Q E h => ?_) (fun cdv A outer s H vs Q E hr h => ?_)
  · obtain ⟨p, W, n, ds, R, _, _, _, ar, _⟩ := h
    rw [ar.len.1, hk]
  · obtain ⟨t, h1, h2⟩ := body cdv A outer s H E hr
    exact ⟨t, h1, bridge h2 tree h⟩
/-- a def of the module's that keeps its promise -/
def Has (P : Program) (w : World) (K : PySem.W.Frag) (mg : Str → Option Value) (base : Heap) (C : Addr) (k : Nat) (x : Str) (ps : List Str) (ks : List Bool) (S : ST) : Prop :=
  ∃ f fd, FnOk P w K mg base CX0 k f fd ps (spOf C ks S) ∧ mg x = some (.ref f) ∧ PySem.W.keepIn K (.ref f) = true ∧ Binds K fd ps []
end
/-! ### calls -/
def kOk : List Bool → List Rv → Bool
  | [], [] => true
  | k :: ks, r :: rs => (k || sto r) && kOk ks rs
  | _, _ => false
def tlCall (ks : List Bool) (S : ST) (T : TXs) : TX := fun Γ n R => T Γ n fun rs n1 => kOk ks rs = true ∧ S (rs.map Rv.d) n1 R
theorem XOks.args {Z : Zx} {W : Addr → Prop} {H H1 : Hp} (dm : ∀ a, W a → ∃ o, H a = some o) (own : ∀ a, H a = none → ¬ Z.p.On a) : ∀ {ks : List Bool} {rs : List Rv} {vs : List V}, kOk ks rs = true → XOks C Z W H H1 rs vs → ARep C Z.p W H1 ks (rs.map Rv.d) vs
  | [], [], _, _, e => ⟨rfl, e⟩
  | k :: ks, r :: rs, _, h, ⟨v, vr, e, x, q⟩ => by
    rw [kOk, Bool.and_eq_true, Bool.or_eq_true] at h
    refine ⟨r.d, rs.map Rv.d, v, vr, rfl, e, ?_, q.args dm own h.2⟩
    cases k with
    | true => exact x.view own
    | false => exact x.rep dm (h.1.resolve_left (by simp))
theorem ROk.xok {Z : Zx} {W : Addr → Prop} {H H1 H2 : Hp} (e : Bt Z.p H H1) (dm : ∀ a, Z.p.On a → ∃ o, H1 a = some o) : ∀ {r : Rv} {v : V}, ROk C Z.p W H1 H2 r v → XOk C Z W H H2 r v
  | .val d, _, h => h
  | .new d, _, ⟨a, ea, na, r⟩ => ⟨a, ea, e.free dm na, r⟩
theorem re_call {Z : Zx} {ks : List Bool} {S : ST} {ta : TA} {T : TXs} {E : XK} (ha : RA C Z ta T) : RE C Z (tCall (spOf C ks S) [] E ta) (tlCall ks S T) := by
  intro G Γ σ H n Q R M h q
  refine ha G Γ σ H n _ _ M h fun vs H1 rs n1 e1 p1 x1 ⟨k1, h1⟩ => ?_
  have M1 := M.bt e1 p1
  rw [List.append_nil]
  exact ⟨Z.p, Ws Z Γ σ, n1, rs.map Rv.d, R, fun a w => M1.wdom w, fun a z => Ws.pw z, p1, x1.args (fun a w => M.wdom w) (fun a h => Z.papart M.pdom h) k1, h1, fun v H' r n' b pa ro hr => q v H' r n' (e1.trans b) pa (ro.xok e1 M1.pdom) hr⟩
/-- o.m(..) of a shelf -/
def tlMeth (ks : List Bool) (S : ST) (T : TX) (U : TXs) : TX := fun Γ n R => T Γ n fun r n1 => match r.d with
  | .sh _ _ => U Γ n1 fun rs n2 => kOk ks (r :: rs) = true ∧ S (r.d :: rs.map Rv.d) n2 R
  | _ => False
theorem re_meth {Z : Zx} {ks : List Bool} {S : ST} {to : TE} {ta : TA} {T : TX} {U : TXs} {E : XK} {m : Str} (hm1 : (m == "_catalogue") = false) (hm2 : (m == "_row") = false) (ho : RE C Z to T) (ha : RA C Z ta U) : RE C Z (tMeth C m (spOf C ks S) [] E to ta) (tlMeth ks S T U) := by
  intro G Γ σ H n Q R M h q
  refine ho G Γ σ H n _ _ M h fun v H1 r n1 e1 p1 x1 h1 => ?_
  have M1 := M.bt e1 p1
  cases hd : r.d with
  | sh xs ys =>
    have vw := x1.view fun a h => Z.papart M.pdom h
    rw [hd] at h1 vw
    obtain ⟨a, dx, c, rw_, rfl, ha1, _, _⟩ := vw.sh
    refine ⟨a, dx, _, rfl, ha1, ?_, ?_⟩
    · simp [List.lookup, hm1, hm2]
    refine ha G Γ σ H1 n1 _ _ M1 h1 fun vs H2 rs n2 e2 p2 x2 ⟨k2, h2⟩ => ?_
    have M2 := M1.bt e2 p2
    rw [List.append_nil]
    have xx : XOks C Z (Ws Z Γ σ) H H2 (r :: rs) (.ref a :: vs) := ⟨_, _, rfl, x1.bt (fun a z => Ws.pw z) M.pdom e2, x2.up e1 M1.pdom⟩
    refine ⟨Z.p, Ws Z Γ σ, n2, (r :: rs).map Rv.d, R, fun a w => M2.wdom w, fun a z => Ws.pw z, p2, xx.args (fun a w => M.wdom w) (fun a h => Z.papart M.pdom h) k2, ?_, fun v H' r n' b pa ro hr => q v H' r n' ((e1.trans e2).trans b) pa (ro.xok (e1.trans e2) M2.pdom) hr⟩
    rw [List.map_cons, hd]
    exact h2
  | _ => rw [hd] at h1; exact False.elim h1
/-! ### books, catalogues, rows -/
def isWord (z : Str) : Prop := 1 ≤ z.length ∧ z.length ≤ 8 ∧ ∀ c ∈ z.cps.toList, 97 ≤ c ∧ c ≤ 122
/-- a list of unlike books -/
def Cat (xs : List Str) : Prop := xs ≠ [] ∧ xs.length ≤ 100 ∧ (∀ x ∈ xs, isWord x) ∧ xs.Nodup
/-- a row of a catalogue -/
def Row (xs ys : List Str) : Prop := (∀ y ∈ ys, y ∈ xs) ∧ ys.Nodup ∧ ys.length = xs.length
/-- a shelf at a whose lists were not there at H -/
def ShNew (H H' : Hp) (C a : Addr) (xs ys : List Str) : Prop := ∃ dx c r, H' a = some (.ins C dx [("_catalogue", .ref c), ("_row", .ref r)]) ∧ H' c = some (.lst (xs.map V.str)) ∧ H' r = some (.lst (ys.map V.str)) ∧ H c = none ∧ H r = none
def spInit (C : Addr) : Sp := fun vs H Q _ => ∃ (a dx l m : Addr) (xs ys : List Str), vs = [.ref a, .ref l, .ref m] ∧ H a = some (.ins C dx []) ∧ H dx = some (.own a) ∧ H l = some (.lst (xs.map V.str)) ∧ H m = some (.lst (ys.map V.str)) ∧ Cat xs ∧ Row xs ys ∧
  ∀ H', (∀ b o, b ≠ a → H b = some o → H' b = some o) → ShNew H H' C a xs ys → Q .non H'
/-- Shelf(catalogue, row) -/
def tlShelf (T U : TX) : TX := fun Γ n R => T Γ n fun r n1 => U Γ n1 fun s n2 => ∃ xs ys, r.d = dS xs ∧ s.d = dS ys ∧ Cat xs ∧ Row xs ys ∧ R (.new (.sh xs ys)) n2
theorem re_shelf {Z : Zx} {t u : TE} {T U : TX} {E : XK} (h1 : RE C Z t T) (h2 : RE C Z u U) : RE C Z (tMake C (spInit C) [] E (tCons t (tCons u tNil))) (tlShelf T U) := by
  intro G Γ σ H n Q R M h q
  refine h1 G Γ σ H n _ _ M h fun v H1 r n1 e1 p1 x1 r1 => ?_
  have M1 := M.bt e1 p1
  refine h2 G Γ σ H1 n1 _ _ M1 r1 fun u H2 s n2 e2 p2 x2 ⟨xs, ys, er, es, cat, row, r2⟩ => ?_
  have M2 := M1.bt e2 p2
  have vw := (x1.view fun a h => Z.papart M.pdom h).bt (fun a z => Ws.pw z) e2
  have vu := x2.view fun a h => Z.papart M1.pdom h
  rw [er] at vw
  rw [es] at vu
  obtain ⟨l, vs, rfl, hl, rl⟩ := vw.lst
  obtain ⟨m, us, rfl, hm, rm⟩ := vu.lst
  rw [rl.strs] at hl
  rw [rm.strs] at hm
  intro x dx hx hdx ne
  have old : ∀ b o, H2 b = some o → (upd (upd H2 dx (.own x)) x (.ins C dx [])) b = some o := fun b o e => by
    rw [upd_ne (ne_of_none e hx), upd_ne (ne_of_none e hdx)]
    exact e
  have back : ∀ c, (upd (upd H2 dx (.own x)) x (.ins C dx [])) c = none → H2 c = none := fun c h => by
    cases e : H2 c with
    | none => rfl
    | some o => rw [old c o e] at h; cases h
  refine ⟨x, dx, l, m, xs, ys, rfl, upd_same, by rw [upd_ne ne]; exact upd_same, old _ _ hl, old _ _ hm, cat, row, fun H' keep ⟨dx', c, rr, g1, g2, g3, g4, g5⟩ => ⟨rfl, ?_⟩⟩
  have s3 : Same H2 H' := fun b o e => keep b o (ne_of_none e hx) (old b o e)
  have e12 := e1.trans e2
  have apart : ∀ c, H2 c = none → ¬ Ws Z Γ σ c := fun c h w => by
    obtain ⟨o, ho⟩ := M2.wdom w
    rw [h] at ho
    cases ho
  have gx : ∀ c {o : HO}, H' c = some o → (upd (upd H2 dx (.own x)) x (.ins C dx [])) c = none → c ≠ x := fun c o _ h z => by
    rw [z, upd_same] at h
    cases h
  refine q _ H' (.new (.sh xs ys)) n2 (e12.trans (.same s3)) (p2.same s3) ⟨x, rfl, e12.free M2.pdom hx, dx', c, rr, g1, g2, g3, fun z => z.elim (apart c (back c g4)) (gx c g2 g4), fun z => z.elim (apart rr (back rr g5)) (gx rr g3 g5)⟩ r2
/-! ### isinstance -/
/-- what the class of shelves is, for isinstance -/
structure IsC (K : PySem.W.Frag) (C : Addr) : Prop where
  ty : ∀ (H : Hp) (a dx : Addr) (fs : List (Str × V)), H a = some (.ins C dx fs) → TyX K H (.ref a) (.ref C)
  own : PySem.W.kitOne K (.ref C) (.ref C) = some true
  str : PySem.W.kitOne K (.ref C) (.type "str") = some false
  list : PySem.W.kitOne K (.ref C) (.type "list") = some false
  tuple : PySem.W.kitOne K (.ref C) (.type "tuple") = some false
  dict : PySem.W.kitOne K (.ref C) (.type "dict") = some false
  int : PySem.W.kitOne K (.ref C) (.type "int") = some false
  bool : PySem.W.kitOne K (.ref C) (.type "bool") = some false
  of : ∀ t, t ∈ ["NoneType", "bool", "int", "str", "list", "tuple", "dict"] → PySem.W.kitOne K (.type t) (.ref C) = some false
/-- the built-in class of a tree -/
def tyD : D → Option String
  | .non => some "NoneType"
  | .bl _ => some "bool"
  | .int _ => some "int"
  | .str _ => some "str"
  | .lst _ => some "list"
  | .tup _ => some "tuple"
  | .dk _ _ => some "dict"
  | .dt _ _ => some "dict"
  | .sh _ _ => none
  | .ob _ _ _ => none
  | .purse => some "list"
  | .pin _ => none
  | .er _ _ => none
theorem tyX_of {p : Pz} {W : Addr → Prop} {H : Hp} (hp : ∀ a, p.pu = some a → ∃ xs, H a = some (.lst xs)) : ∀ {d : D} {v : V} {t : String}, View p C W H d v → tyD d = some t → TyX K H v (.type t)
  | .non, _, _, h, e => by cases e; rw [h.non]; exact .base .non
  | .bl b, _, _, h, e => by cases e; rw [h.bl]; exact .base (.bl b)
  | .int b, _, _, h, e => by cases e; rw [h.int]; exact .base (.int b)
  | .str b, _, _, h, e => by cases e; rw [h.str]; exact .base (.str b)
  | .lst ds, _, _, h, e => by cases e; obtain ⟨a, vs, rfl, ha, _⟩ := h.lst; exact .base (.lst ha)
  | .tup ds, _, _, h, e => by cases e; obtain ⟨a, vs, rfl, ha, _⟩ := h.tup; exact .base (.tup ha)
  | .dk ks ds, _, _, h, e => by cases e; obtain ⟨a, vs, rfl, ha, _⟩ := h.dk; exact ha.elim (fun e => .base (.dK e)) fun ⟨o, e⟩ => .fDict e
  | .dt ks ds, _, _, h, e => by
    cases e
    rcases h with ⟨a, rfl, _, vs, ha, _⟩ | ⟨a, rfl, _, vs, ha, _⟩
    · exact .base (.dT ha)
    · exact .base (.dT ha)
  | .purse, _, _, h, e => by
    cases e
    rcases h with ⟨a, rfl, e⟩ | ⟨a, _, _, h⟩
    · obtain ⟨xs, hx⟩ := hp a e
      exact .base (.lst hx)
    · exact h.elim
theorem PAt.lst {p : Pz} {H : Hp} {n : Nat} (h : PAt p H n) : ∀ a, p.pu = some a → ∃ xs, H a = some (.lst xs) := fun a e => by
  have h := h.1
  rw [e] at h
  obtain ⟨b, ⟨_, _, _, _, hp, _⟩, _⟩ := h
  exact ⟨_, hp⟩
/-- isinstance(x, T) of a built-in class -/
def tlIsB (t : String) (T : TX) : TX := fun Γ n R => T Γ n fun r n1 => match tyD r.d with
  | some u => ∃ b, kitB u t = some b ∧ R (.val (.bl b)) n1
  | none => match r.d with
    | .sh _ _ => R (.val (.bl false)) n1
    | _ => False
theorem re_isB {Z : Zx} {t : String} {te : TE} {T : TX} (I : IsC K C) (ht : t ∈ ["str", "list", "tuple", "dict", "int", "bool"]) (h : RE C Z te T) : RE C Z (tCB (rIsi K) (tCons te (tCons (tC (.ty t)) tNil))) (tlIsB t T) := by
  intro G Γ σ H n Q R M h1 q
  refine h G Γ σ H n _ _ M h1 fun v H1 r n1 e1 p1 x1 r1 => ?_
  have vw := x1.view fun a h => Z.papart M.pdom h
  have fin : ∀ b, R (.val (.bl b)) n1 → Q (.bl b) H1 := fun b hb => q _ H1 (.val (.bl b)) n1 e1 p1 (rfl : V.bl b = V.bl b) hb
  split at r1
  · next u e =>
    obtain ⟨b, hb, r1⟩ := r1
    exact ⟨v, .ty t, _, _, b, rfl, .ty t, tyX_of p1.lst vw e, kit_ty hb, fin b r1⟩
  · next e =>
    cases hd : r.d with
    | sh xs ys =>
      rw [hd] at vw r1
      obtain ⟨a, dx, c, rr, rfl, ha, _, _⟩ := vw.sh
      refine ⟨.ref a, .ty t, .ref C, .type t, false, rfl, .ty t, I.ty H1 a dx _ ha, ?_, fin false r1⟩
      simp only [List.mem_cons, List.mem_nil_iff, or_false] at ht
      rcases ht with rfl | rfl | rfl | rfl | rfl | rfl
      · exact I.str
      · exact I.list
      · exact I.tuple
      · exact I.dict
      · exact I.int
      · exact I.bool
    | ob _ _ _ => rw [hd] at r1; exact False.elim r1
    | pin _ => rw [hd] at r1; exact False.elim r1
    | er _ _ => rw [hd] at r1; exact False.elim r1
    | _ => rw [hd] at e; cases e
/-- isinstance(x, (T, U)) of two built-in classes -/
def tlIsT (t u : String) (T : TX) : TX := fun Γ n R => T Γ n fun r n1 => match tyD r.d with
  | some k => ∃ b c, kitB k t = some b ∧ kitB k u = some c ∧ R (.val (.bl (b || c))) n1
  | none => match r.d with
    | .sh _ _ => R (.val (.bl false)) n1
    | _ => False
theorem kit_two {a b c : Value} {x y : Bool} (h1 : PySem.W.kitOne K a b = some x) (h2 : PySem.W.kitOne K a c = some y) : PySem.W.kitAny K a [b, c] = some (x || y) := by
  refine kitAny_cons h1 (fun e => ?_) fun e => by rw [e]; rfl
  rw [e, Bool.false_or]
  exact kitAny_cons h2 (fun e => by rw [e]; exact kitAny_nil) fun e => e
theorem re_isT {Z : Zx} {t u : String} {te : TE} {T : TX} (I : IsC K C) (ht : t = "list") (hu : u = "tuple") (h : RE C Z te T) : RE C Z (tCB (rIsiT K) (tCons te (tCons (tTup (tCons (tC (.ty t)) (tCons (tC (.ty u)) tNil))) tNil))) (tlIsT t u T) := by
  subst ht hu
  intro G Γ σ H n Q R M h1 q
  refine h G Γ σ H n _ _ M h1 fun v H1 r n1 e1 p1 x1 r1 => ?_
  refine ⟨by show 2 ≤ sizeLine; decide +kernel, fun a na => ?_⟩
  have s := same_upd (o := .tup [V.ty "list", V.ty "tuple"]) na
  have p2 := p1.same s
  have vw := (x1.view fun a h => Z.papart M.pdom h).bt (fun a z => Ws.pw z) (.same s)
  have fin : ∀ b, R (.val (.bl b)) n1 → Q (.bl b) (upd H1 a (.tup [V.ty "list", V.ty "tuple"])) := fun b hb => q _ _ (.val (.bl b)) n1 (e1.trans (.same s)) p2 (rfl : V.bl b = V.bl b) hb
  split at r1
  · next k e =>
    obtain ⟨b, c, hb, hc, r1⟩ := r1
    exact ⟨v, a, _, .type k, _, b || c, rfl, upd_same, .cons (.ty _) (.cons (.ty _) .nil), tyX_of p2.lst vw e, kit_two (kit_ty hb) (kit_ty hc), fin _ r1⟩
  · next e =>
    cases hd : r.d with
    | sh xs ys =>
      rw [hd] at vw r1
      obtain ⟨b, dx, c, rr, rfl, ha, _, _⟩ := vw.sh
      exact ⟨.ref b, a, _, .ref C, _, false, rfl, upd_same, .cons (.ty _) (.cons (.ty _) .nil), I.ty _ b dx _ ha, kit_two (x := false) (y := false) I.list I.tuple, fin _ r1⟩
    | ob _ _ _ => rw [hd] at r1; exact False.elim r1
    | pin _ => rw [hd] at r1; exact False.elim r1
    | er _ _ => rw [hd] at r1; exact False.elim r1
    | _ => rw [hd] at e; cases e
end
end TL
end
-- TL9
section
set_option Elab.async false
set_option linter.all false
set_option maxRecDepth 100000
set_option maxHeartbeats 4100000
/-! TL9: further rules -/
variable [TL.Tb]
namespace TL
open L2 PyProof.Rows PySem PySem.Spec TS RZ
theorem units62 {k : Nat} {A : Around} (r : Room k A) : A.units + 62 < cLine := by
  have := r.units
  omega
/-! ### the names of the built-in functions -/
theorem b_len : bootBuiltins "len" = some (.builtin "len") := by decide +kernel
theorem b_list : bootBuiltins "list" = some (.type "list") := by decide +kernel
theorem b_tuple : bootBuiltins "tuple" = some (.type "tuple") := by decide +kernel
theorem b_dict : bootBuiltins "dict" = some (.type "dict") := by decide +kernel
theorem b_bool : bootBuiltins "bool" = some (.type "bool") := by decide +kernel
theorem b_int : bootBuiltins "int" = some (.type "int") := by decide +kernel
theorem b_all : bootBuiltins "all" = some (.builtin "all") := by decide +kernel
theorem b_min : bootBuiltins "min" = some (.builtin "min") := by decide +kernel
theorem b_max : bootBuiltins "max" = some (.builtin "max") := by decide +kernel
theorem b_sorted : bootBuiltins "sorted" = some (.builtin "sorted") := by decide +kernel
theorem b_isinstance : bootBuiltins "isinstance" = some (.builtin "isinstance") := by decide +kernel
/-- the built-in names that no module's name hides -/
structure Nm (mg : Str → Option Value) : Prop where
  len : mg "len" = none
  list : mg "list" = none
  tuple : mg "tuple" = none
  str : mg "str" = none
  dict : mg "dict" = none
  bool : mg "bool" = none
  int : mg "int" = none
  sum : mg "sum" = none
  all : mg "all" = none
  any : mg "any" = none
  min : mg "min" = none
  max : mg "max" = none
  sorted : mg "sorted" = none
  isinstance : mg "isinstance" = none
  range : mg "range" = none
  zip : mg "zip" = none
  enumerate : mg "enumerate" = none
  set : mg "set" = none
  repr : mg "repr" = none
section
variable {C : Addr} {Z : Zx} {K : PySem.W.Frag}
/-! ### a sign in a text; x in .. -/
def rInA (K : PySem.W.Frag) : R2 := orR (rInP K) fun x y H Q => ∃ (c : Nat) (z : Str), x = .str ⟨#[c]⟩ ∧ y = .str z ∧ Q (.bl (decide (c ∈ z.cps.toList))) H
theorem op_inA {X : Cx} (hu : X.A.units + 62 < cLine) : OpR X (compareOp .In) (rInA X.K) := OpR.or (op_inP hu) op_in_sign
def dInA : D → D → (Rv → Prop) → Prop
  | .str x, .str z, R => ∃ c, x = ⟨#[c]⟩ ∧ R (.val (.bl (decide (c ∈ z.cps.toList))))
  | d, e, R => dIn d e R
theorem r2_inA : R2T C Z (rInA K) dInA := by
  intro W H x y d e R Q hp dm hx hy h q
  unfold dInA at h
  split at h
  · obtain ⟨c, rfl, h⟩ := h
    exact .inr ⟨c, _, hx.str, hy.str, same_bl h q⟩
  · exact .inl (r2_in W H x y d e R Q hp dm hx hy h q)
/-! ### chains -/
def tlChain (f g : D → D → (Rv → Prop) → Prop) (T U V1 : TX) : TX := fun Γ n R => T Γ n fun x n1 => U Γ n1 fun y n2 => f x.d y.d fun b => match b with
  | .val (.bl true) => V1 Γ n2 fun z n3 => g y.d z.d fun r => R r n3
  | .val (.bl false) => R (.val (.bl false)) n2
  | _ => False
theorem re_chain {r s : R2} {ta tb tc : TE} {T U V1 : TX} {f g : D → D → (Rv → Prop) → Prop} (hr : R2T C Z r f) (hs : R2T C Z s g) (ha : RE C Z ta T) (hb : RE C Z tb U) (hc : RE C Z tc V1) : RE C Z (tChain r s ta tb tc) (tlChain f g T U V1) := by
  intro G Γ σ H n Q R M h q
  refine ha G Γ σ H n _ _ M h fun v H1 x n1 e1 p1 x1 h1 => ?_
  have M1 := M.bt e1 p1
  refine hb G Γ σ H1 n1 _ _ M1 h1 fun u H2 y n2 e2 p2 x2 h2 => ?_
  have M2 := M1.bt e2 p2
  refine hr _ H2 v u _ _ _ _ (fun a z => Ws.pw z) (fun a w => M2.wdom w) ((x1.view fun a h => Z.papart M.pdom h).bt (fun a z => Ws.pw z) e2) (x2.view fun a h => Z.papart M1.pdom h) h2 fun w H3 b s3 x3 h3 => ?_
  have M3 := M2.same s3
  have hb : b = .val (.bl true) ∨ b = .val (.bl false) := by
    clear x3
    match b, h3 with
    | .val (.bl true), _ => exact .inl rfl
    | .val (.bl false), _ => exact .inr rfl
  rcases hb with rfl | rfl
  · refine ⟨true, x3, iteT ?_⟩
    refine hc G Γ σ H3 n2 _ _ M3 h3 fun t H4 z n3 e4 p4 x4 h4 => ?_
    have M4 := M3.bt e4 p4
    refine hs _ H4 u t _ _ _ _ (fun a z => Ws.pw z) (fun a w => M4.wdom w) ((x2.view fun a h => Z.papart M1.pdom h).bt (fun a z => Ws.pw z) ((Bt.same s3).trans e4)) (x4.view fun a h => Z.papart M3.pdom h) h4 fun w H5 r5 s5 x5 h5 => ?_
    have e14 := ((e1.trans e2).trans (.same s3)).trans e4
    exact q w H5 r5 n3 (e14.trans (.same s5)) (p4.same s5) (x5.up e14 M4.pdom) h5
  · exact ⟨false, x3, iteF (q _ H3 (.val (.bl false)) n2 ((e1.trans e2).trans (.same s3)) (p2.same s3) (rfl : V.bl false = V.bl false) h3)⟩
/-! ### list(range(..)), len(set(..)), xs[::-1], xs.index(x) -/
def tlLRg1 (T : TX) : TX := fun Γ n R => T Γ n fun r n1 => match r.d with
  | .int j => 0 ≤ j ∧ j ≤ 1000000 ∧ R (.new (.lst ((rng 0 j).map .int))) n1
  | _ => False
theorem rgV_rng {j : Int} (h : 0 ≤ j) : rgV 0 j = (rng 0 j).map V.int := by
  unfold rgV rng
  simp
theorem re_lrg1 {t : TE} {T : TX} (h : RE C Z t T) : RE C Z (tLstRg (tRg1 t)) (tlLRg1 T) := by
  intro G Γ σ H n Q R M h1 q
  refine h G Γ σ H n _ _ M h1 fun v H1 r n1 e1 p1 x1 r1 => ?_
  have vw := x1.view fun a h => Z.papart M.pdom h
  cases hd : r.d with
  | int j =>
    rw [hd] at r1 vw
    obtain ⟨h0, h6, r1⟩ := r1
    refine ⟨j, vw.int, ?_, fun a na => ?_⟩
    · unfold RgOk
      have : sizeLine = 16777216 := sizeLine_eq
      omega
    · rw [rgV_rng h0]
      exact q _ _ (.new (.lst ((rng 0 j).map .int))) n1 (e1.trans (.same (same_upd na))) (p1.same (same_upd na)) ⟨a, rfl, e1.free (fun b z => p1.at z) na, _, upd_same, (repL_ints _)⟩ r1
  | _ => rw [hd] at r1; exact False.elim r1
theorem idx_at {α : Type} [DecidableEq α] : ∀ {xs : List α} {z : α}, z ∈ xs → xs[xs.idxOf z]? = some z ∧ ∀ (m : Nat) (y : α), m < xs.idxOf z → xs[m]? = some y → y ≠ z
  | x :: r, z, h => by
    by_cases e : x = z
    · subst e
      simp
    · have ih := idx_at ((List.mem_cons.1 h).resolve_left fun q => e q.symm)
      have ix : (x :: r).idxOf z = r.idxOf z + 1 := by simp [List.idxOf_cons, show (x == z) = false from by simpa using e]
      rw [ix]
      refine ⟨by simpa using ih.1, fun m y lt hy => ?_⟩
      cases m with
      | zero => rintro rfl; exact e (Option.some.inj (by simpa using hy))
      | succ m => exact ih.2 m y (by omega) (by simpa using hy)
end
end TL
end
-- TLA
section
set_option Elab.async false
set_option linter.all false
set_option maxRecDepth 100000
set_option maxHeartbeats 4100000
/-! TLA: comprehensions with two walks; own lists changed further -/
namespace TL
open L2 PyProof.Rows PySem PySem.Spec TS RZ
end TL
end
-- TLC
section
set_option Elab.async false
set_option linter.all false
set_option maxRecDepth 100000
set_option maxHeartbeats 4100000
/-! TLC: own lists changed further -/
variable [TL.Tb]
namespace TL
open L2 PyProof.Rows PySem PySem.Spec TS RZ
section
variable {C : Addr} {K : PySem.W.Frag}
def rInsert : V → List V → Hp → VK → Prop := fun x vs H Q => ∃ (l : Addr) (xs : List V) (i : Int) (y : V), x = .ref l ∧ vs = [.int i, y] ∧ H l = some (.lst xs) ∧ xs.length < sizeLine ∧ 0 ≤ i ∧ i < 2 ^ 63 ∧ Q .non (upd H l (.lst (xs.take i.toNat ++ [y] ++ xs.drop i.toNat)))
theorem mt_ins {X : Cx} : MtR X "list.insert" rInsert := L2.mt_insert
/-- what an own list's writing keeps -/
theorem own_key {Z : Zx} {Γ : Gm} {σ : L2.St} {H : Hp} {i : Nat} {a : Addr} {d : D} {o : HO} (e : Γ[i]? = some (some (.new d))) (hv : σ[i]? = some (some (.ref a))) : ∀ c u, ¬ Ws Z Γ σ c → H c = some u → ¬ Ws Z Γ σ c ∧ upd H a o c = some u := fun c u nc h =>
  ⟨nc, by rw [upd_ne fun z => nc (by rw [z]; exact .inr ⟨i, ⟨⟨_, e⟩, hv⟩⟩)]; exact h⟩
/-- x.insert(k, e) -/
def tlIns (i : Nat) (T U : TX) : TSt := fun E Γ n => match Γ[i]? with
  | some (some (.new (.lst ds))) => T Γ n fun r n1 => U Γ n1 fun s n2 => match r.d with
    | .int k => sto s = true ∧ ds.length ≤ 1000000 ∧ 0 ≤ k ∧ k ≤ 1000000 ∧ E.nx (Γ.set i (some (.new (.lst (ds.take k.toNat ++ [s.d] ++ ds.drop k.toNat))))) n2
    | _ => False
  | _ => False
theorem rs_ins {i : Nat} {t u : TE} {T U : TX} (h : ∀ Z, RE C Z t T) (h2 : ∀ Z, RE C Z u U) : RS C (tDrop (tBM K "list" rInsert (tVar i) (tCons t (tCons u tNil)))) (tlIns i T U) := by
  intro Z G Γ σ H n E F M L h1
  unfold tlIns at h1
  split at h1
  · next ds e =>
    obtain ⟨v, hv, a, rfl, h0, vs, ha, rr⟩ := M.sl i _ e
    refine ⟨_, hv, .inl ⟨rfl, vs, SqL.of ha⟩, ?_⟩
    refine h Z G Γ σ H n _ _ M h1 fun v H1 r n1 e1 p1 x1 r1 => ?_
    have M1 := M.bt e1 p1
    refine h2 Z G Γ σ H1 n1 _ _ M1 r1 fun u H2 s n2 e2 p2 x2 r2 => ?_
    have M2 := M1.bt e2 p2
    have vw := x1.view fun a h => Z.papart M.pdom h
    cases hd : r.d with
    | int k =>
      rw [hd] at r2 vw
      obtain ⟨st, few, k0, k6, r2⟩ := r2
      have e12 := e1.trans e2
      have ha2 := e12 a _ (Z.apart h0) ha
      have rr2 := rr.mono (keepB (fun _ => Ws.pw) e12)
      have rep := x2.rep (fun b w => M1.wdom w) st
      refine ⟨a, vs, k, u, rfl, by rw [vw.int], ha2, by rw [rr.len]; exact small6 few, k0, by omega, ?_⟩
      have key := own_key (Z := Z) (H := H2) (o := .lst (vs.take k.toNat ++ [u] ++ vs.drop k.toNat)) e hv
      exact L.nx _ σ _ n2 (M2.mut (d' := .lst (ds.take k.toNat ++ [s.d] ++ ds.drop k.toNat)) e hv ⟨_, upd_same, (((rr2.mono key).take k.toNat).app (show RepL Z.p C (Ws Z Γ σ) _ [s.d] [u] from ⟨u, [], rfl, rep.mono key, rfl⟩)).app ((rr2.mono key).drop k.toNat)⟩) r2
    | _ => rw [hd] at r2; exact False.elim r2
  · exact h1.elim
end
end TL
end
-- EQ
section
set_option Elab.async false
set_option linter.all false
set_option maxRecDepth 100000
set_option maxHeartbeats 4100000
/-! ### == and != by an own __eq__ that gives True or False, beside anything -/
namespace OE
open L2 PyProof.Rows PySem PySem.Spec PySem.Calls
/-- what the class at C says: an own __eq__ at f, no own __ne__ -/
structure EqC (K : PySem.W.Frag) (C f : Addr) : Prop where
  eq : PySem.W.findIn K (.ref C) "__eq__" = some (some (.ref f))
  ne : PySem.W.findIn K (.ref C) "__ne__" = some (some (.builtin "object.__ne__"))
  fn : (PySem.W.isFn K (.ref f)) = true
  ob : PySem.W.mroIn K C (.type "object") = some true
/-- the promise of such an __eq__ : R tells its answer; it makes nothing that stays -/
def spB (R : Addr → V → Hp → Bool → Prop) : Sp := fun vs H Q _ => ∃ a y b, vs = [.ref a, y] ∧ R a y H b ∧ Q (.bl b) H
/-- an instance beside any value -/
def rB (K : PySem.W.Frag) (C : Addr) (R : Addr → V → Hp → Bool → Prop) (g : Bool → Bool) : R2 := fun x y H Q => ∃ a dx fs t b, x = .ref a ∧ H a = some (.ins C dx fs) ∧ TyX K H y t ∧ PySem.W.notFirst K C t = true ∧ R a y H b ∧ Q (.bl (g b)) H
section
variable {X : Cx} {CX : CXT} {C f : Addr} {fd : FuncData} {ps : List Str} {R : Addr → V → Hp → Bool → Prop} {k : Nat} {E : XK} {pins : List (Addr × Obj)} {σ : L2.St} {H : Hp} {s : Shared}
/-- the call of __eq__ itself, around any A with the same frames -/
theorem asked {A : Around} (F : FnOk X.prog X.w X.K X.mg X.base CX k f fd ps (spB R)) (hb : Binds X.K fd ps []) (hx : Passes CX X E) (hr : Room k A) (fr : A.frames = X.A.frames)
    (I : Inv X pins σ H s) {a : Addr} {y : V} {v : Value} {b : Bool} (ry : RelV y v) (hR : R a y H b) :
    wpAny (model X.prog X.w) A (call (.ref f) [.ref a, v]) (fun u s' => u = .bool b ∧ Inv X pins σ H s') X.xe s := by
  have sp : spB R [.ref a, y] H (fun u H' => u = .bl b ∧ H' = H) E := ⟨a, y, b, rfl, hR, rfl, rfl⟩
  have env : Env0 X.prog X.w X.K X.mg X.base A X.stack s H := ⟨fr.trans I.env0.frames, I.env0.mod, I.env0.bs, I.env0.bsz, I.env0.funs, I.env0.frf, I.env0.hok, I.env0.bare⟩
  have rel : Vals [V.ref a, y] [Value.ref a, v] := .cons rfl (.cons ry .nil)
  have many : [Value.ref a, v].length = ps.length := F.len _ _ _ _ sp
  have bound := hb s [.ref a, v] I.kIn (by simpa using many)
  rw [List.append_nil] at bound
  refine wpAny_call (codeAny_mono (F.run A X.stack s H ⟨[.ref a, v], []⟩ _ _ _ E hr env bound rel sp) fun r s' back => ?_)
  match r, back with
  | .error e, back => exact hx _ _ _ _ _ _ I back
  | .ok (.ret u), back =>
    obtain ⟨_, _, J, ru, rfl, rfl⟩ := I.after back
    exact ⟨ru, J⟩
  | .ok .next, no => exact no.elim
  | .ok .brk, no => exact no.elim
  | .ok .cont, no => exact no.elim
theorem op_eq {K : PySem.W.Frag} (F : FnOk X.prog X.w X.K X.mg X.base CX k f fd ps (spB R)) (T : EqC X.K C f) (hr : Room k X.A) (hb : Binds X.K fd ps []) (hx : Passes CX X E) (hK : X.K = K := by rfl) : OpR X (compareOp .Eq) (rB K C R id) := by
  subst hK
  rintro pins s σ H x y v u Q I rx ry ⟨a, dx, fs, t, b, rfl, hins, ty, nf, hR, q⟩
  obtain rfl : v = .ref a := rx
  obtain ⟨_, J, _⟩ := ins_get I.hok hins
  obtain ⟨_, J, _⟩ := J.look
  obtain ⟨Pk, kit, pk, _⟩ := kit_of I ry ty
  obtain ⟨m, hF⟩ := I.fr
  change wpAny (model X.prog X.w) X.A (richCompare .Eq (.ref a) u) (EP X pins σ Q) X.xe s
  refine PySem.W.cmp_K (op := .Eq) (tb := t) hr.units0 hF I.ok.mod.kin J (kit.ty _ _ I.kIn pk) nf T.eq T.fn ?_
  refine thn (asked F hb hx hr rfl I ry hR) ?_
  rintro w s' ⟨rfl, J'⟩
  exact ⟨.bl b, H, J', rfl, q⟩
theorem op_ne {K : PySem.W.Frag} (F : FnOk X.prog X.w X.K X.mg X.base CX k f fd ps (spB R)) (T : EqC X.K C f) (hr : Room (k + 1) X.A) (hb : Binds X.K fd ps []) (hx : Passes CX X E) (hK : X.K = K := by rfl) : OpR X (compareOp .NotEq) (rB K C R not) := by
  subst hK
  rintro pins s σ H x y v u Q I rx ry ⟨a, dx, fs, t, b, rfl, hins, ty, nf, hR, q⟩
  obtain rfl : v = .ref a := rx
  obtain ⟨_, J, _⟩ := ins_get I.hok hins
  obtain ⟨_, J, _⟩ := J.look
  obtain ⟨Pk, kit, pk, _⟩ := kit_of I ry ty
  have tyU := kit.ty (model X.prog X.w) _ I.kIn pk
  -- object.__ne__ asks __eq__
  have entry : ∀ {Q' : PySem.Fin → Shared → Prop}, (∀ s', Inv X pins σ H s' → Q' (.done (.ret (.bool (!b)))) s') → wpAny (model X.prog X.w) X.A.in1 (Builtin.«object.__ne__» ⟨[.ref a, u], []⟩) Q' X.xe s := by
    intro Q' q'
    unfold PySem.Builtin.«object.__ne__»
    refine wpAny_bind (wpAny_of_eq (a := ((Value.ref a : Value), [u])) (by first | rfl | (simp only [slotArgs]; rfl)) ?_)
    dsimp only
    refine wpAny_bind (wpAny_cRoomFor (by have := hr.un; change X.A.units + 1 < cLine; omega) ?_)
    refine wpAny_bind (PySem.W.ifBound_K I.kIn J T.eq T.fn (thn (asked F hb hx hr.in1 rfl I ry hR) ?_))
    rintro w s' ⟨rfl, J'⟩
    dsimp only
    exact wpAny_bind (wpAny_truthy_bool (wpAny_pure (q' _ J')))
  have told : ∀ {Q' : Option Value → Shared → Prop}, (∀ s', Inv X pins σ H s' → Q' (some (.bool (!b))) s') → wpAny (model X.prog X.w) X.A (call (.builtin "object.__ne__") ([.ref a] ++ [u]) >>= fun v => pure (some v)) Q' X.xe s := by
    intro Q' q'
    refine wpAny_bind (wpAny_call (codeAny_call_builtin PySem.F.cmp_object.ne.plain PySem.F.cmpEntry_ne ?_))
    exact PySem.W.check_slot PySem.F.cmpKind_ne PySem.F.cmpSplit_ne (J.type.andThen (PySem.W.looks_mroIn I.kIn T.ob)) (PySem.F.cmpArgs_ne _ _) (entry fun s' J' => wpAny_pure (q' s' J'))
  have once : wpAny (model X.prog X.w) X.A (tryCompare (.ref a) "__ne__" u) (fun r s' => r = some (.bool (!b)) ∧ Inv X pins σ H s') X.xe s := by
    unfold tryCompare
    simp only [bindSpecialIfBound?, callSpecialIfBound?]
    refine wpAny_bind (wpAny_holding (wpAny_bind (wpAny_bind (wpAny_bind (J.type.here ((PySem.W.looks_findIn I.kIn T.ne).here (wpAny_bind (wpAny_askSetting (wpAny_ite ?_)))))))))
    split
    · exact wpAny_bind (wpAny_of_eq (PySem.F.cmp_object.ne.bind _) (wpAny_pure (told fun s' J' => wpAny_pure ⟨rfl, J'⟩)))
    · exact wpAny_tryCatch (wpAny_bind (wpAny_of_eq (PySem.F.cmp_object.ne.bind _) (wpAny_pure (told fun s' J' => wpAny_pure ⟨rfl, J'⟩))))
  change wpAny (model X.prog X.w) X.A (richCompare .NotEq (.ref a) u) (EP X pins σ Q) X.xe s
  unfold richCompare
  simp only [oneThing_ref, cmpInfo_NotEq]
  refine wpAny_holding (wpAny_bind (wpAny_cRoomFor hr.units0 (wpAny_bind (J.type.here (wpAny_bind (tyU.here ?_))))))
  have done_ : ∀ {r : Option Value} {s' : Shared}, (r = some (.bool (!b)) ∧ Inv X pins σ H s') → ∃ v', r = some v' ∧ EP X pins σ Q v' s' := fun ⟨e, J'⟩ => ⟨_, e, .bl (!b), H, J', rfl, q⟩
  split
  · next differ =>
    have below : PySem.W.subIn X.K t (.ref C) = some false := by
      rcases Bool.or_eq_true_iff.mp nf with e | e
      · rw [beq_iff_eq.mp e] at differ
        simp at differ
      · exact beq_iff_eq.mp e
    refine wpAny_bind ((PySem.W.looks_subIn I.kIn below).here ?_)
    simp only [if_false, Bool.false_eq_true]
    refine wpAny_bind (thn once fun r s' z => ?_)
    obtain ⟨v', rfl, z'⟩ := done_ z
    exact wpAny_pure z'
  · refine (wpAny_bind (wpAny_pure ?_))
    simp only [if_false, Bool.false_eq_true]
    refine wpAny_bind (thn once fun r s' z => ?_)
    obtain ⟨v', rfl, z'⟩ := done_ z
    exact wpAny_pure z'
end
end OE
end
-- TLD
section
set_option Elab.async false
set_option linter.all false
set_option maxRecDepth 100000
set_option maxHeartbeats 4100000
/-! TLD: == and != of shelves beside all else -/
variable [TL.Tb]
namespace TL
open L2 PyProof.Rows PySem PySem.Spec TS RZ
/-- a shelf at a, its lists at c and r -/
def ShAt (H : Hp) (C a : Addr) (xs ys : List Str) : Prop := ∃ dx c r, H a = some (.ins C dx [("_catalogue", .ref c), ("_row", .ref r)]) ∧ H c = some (.lst (xs.map V.str)) ∧ H r = some (.lst (ys.map V.str))
/-- the answer of shelf == y -/
def EqR (K : PySem.W.Frag) (C : Addr) : Addr → V → Hp → Bool → Prop := fun a y H b => ∃ xs ys, ShAt H C a xs ys ∧ (∀ x ∈ xs, isWord x) ∧ (∀ x ∈ ys, isWord x) ∧
  ((∃ a' xs' ys', y = .ref a' ∧ ShAt H C a' xs' ys' ∧ (∀ x ∈ xs', isWord x) ∧ (∀ x ∈ ys', isWord x) ∧ b = (decide (xs = xs') && decide (ys = ys'))) ∨ (∃ t, TyX K H y t ∧ PySem.W.kitOne K t (.ref C) = some false ∧ b = false))
def rEqA (K : PySem.W.Frag) (C : Addr) : R2 := orR (rEqP K) (OE.rB K C (EqR K C) id)
def rNeA (K : PySem.W.Frag) (C : Addr) : R2 := orR (rNeP K) (OE.rB K C (EqR K C) not)
section
variable {X : Cx} {C fq : Addr} {fdq : FuncData}
theorem op_eqA (hu : X.A.units + 62 < cLine) (F : FnOk X.prog X.w X.K X.mg X.base CX0 1 fq fdq ["self", "other"] (OE.spB (EqR X.K C))) (T : OE.EqC X.K C fq) (hr : Room 1 X.A) (hb : Binds X.K fdq ["self", "other"] []) : OpR X (compareOp .Eq) (rEqA X.K C) :=
  OpR.or (op_eqP hu) (OE.op_eq F T hr hb pass0)
theorem op_neA (hu : X.A.units + 62 < cLine) (F : FnOk X.prog X.w X.K X.mg X.base CX0 1 fq fdq ["self", "other"] (OE.spB (EqR X.K C))) (T : OE.EqC X.K C fq) (hr : Room 2 X.A) (hb : Binds X.K fdq ["self", "other"] []) : OpR X (compareOp .NotEq) (rNeA X.K C) :=
  OpR.or (op_neP hu) (OE.op_ne F T hr hb pass0)
end
def wrds (xs : List Str) : Prop := ∀ x ∈ xs, isWord x
def dEqA : D → D → (Rv → Prop) → Prop
  | .sh xs ys, .sh us ws, R => wrds xs ∧ wrds ys ∧ wrds us ∧ wrds ws ∧ R (.val (.bl (decide (xs = us) && decide (ys = ws))))
  | d, e, R => dEq d e R
def dNeA : D → D → (Rv → Prop) → Prop
  | .sh xs ys, .sh us ws, R => wrds xs ∧ wrds ys ∧ wrds us ∧ wrds ws ∧ R (.val (.bl (!(decide (xs = us) && decide (ys = ws)))))
  | d, e, R => dNe d e R
section
variable {C : Addr} {Z : Zx} {K : PySem.W.Frag}
theorem r2_eqA (I : IsC K C) : R2T C Z (rEqA K C) dEqA := by
  intro W H x y d e R Q hp dm hx hy h q
  unfold dEqA at h
  split at h
  · next xs ys us ws =>
    obtain ⟨w1, w2, w3, w4, h⟩ := h
    obtain ⟨a, dx, c, r, rfl, h1, h2, h3⟩ := hx.sh
    obtain ⟨b, dy, c2, r2, rfl, g1, g2, g3⟩ := hy.sh
    exact .inr ⟨a, dx, _, .ref C, _, rfl, h1, I.ty H b dy _ g1, by simp [PySem.W.notFirst], ⟨xs, ys, ⟨dx, c, r, h1, h2, h3⟩, w1, w2, .inl ⟨b, us, ws, rfl, ⟨dy, c2, r2, g1, g2, g3⟩, w3, w4, rfl⟩⟩, same_bl h q⟩
  · exact .inl (r2_eq W H x y d e R Q hp dm hx hy h q)
theorem r2_neA (I : IsC K C) : R2T C Z (rNeA K C) dNeA := by
  intro W H x y d e R Q hp dm hx hy h q
  unfold dNeA at h
  split at h
  · next xs ys us ws =>
    obtain ⟨w1, w2, w3, w4, h⟩ := h
    obtain ⟨a, dx, c, r, rfl, h1, h2, h3⟩ := hx.sh
    obtain ⟨b, dy, c2, r2, rfl, g1, g2, g3⟩ := hy.sh
    exact .inr ⟨a, dx, _, .ref C, _, rfl, h1, I.ty H b dy _ g1, by simp [PySem.W.notFirst], ⟨xs, ys, ⟨dx, c, r, h1, h2, h3⟩, w1, w2, .inl ⟨b, us, ws, rfl, ⟨dy, c2, r2, g1, g2, g3⟩, w3, w4, rfl⟩⟩, same_bl h q⟩
  · exact .inl (r2_ne W H x y d e R Q hp dm hx hy h q)
end
end TL
end
-- TLB
section
set_option Elab.async false
set_option linter.all false
set_option maxRecDepth 100000
set_option maxHeartbeats 4100000
/-! TLB: promises that many laws share; lemmas for walks -/
variable [TL.Tb]
namespace TL
open L2 PyProof.Rows PySem PySem.Spec TS RZ
/-- the entries of the row's books -/
def rnk (xs ys : List Str) : List Int := ys.map fun y => ((xs.idxOf y : Nat) : Int)
def S_catalogue : ST := fun ds n R => ∃ xs ys, ds = [.sh xs ys] ∧ R (.new (dS xs)) n
def S_row : ST := fun ds n R => ∃ xs ys, ds = [.sh xs ys] ∧ R (.new (dS ys)) n
def S_check : ST := fun ds n R => ∃ xs ys, ds = [.sh xs ys] ∧ R (.val .non) n
def S_ranks : ST := fun ds n R => ∃ xs ys, ds = [.sh xs ys] ∧ Cat xs ∧ Row xs ys ∧ R (.new (dI (rnk xs ys))) n
def S_draw : ST := fun ds n R => ∃ m : Nat, ds = [.purse, .int m] ∧ 1 ≤ m ∧ m < 2 ^ 27 ∧ 1 ≤ n ∧ ∀ r : Nat, r < m → R (.val (.int r)) (n - 1)
def S_word : ST := fun ds n R => ds = [.purse] ∧ 20 ≤ n ∧ ∀ z, isWord z → R (.val (.str z)) (n - 20)
def S_is_catalogue : ST := fun ds n R => ∃ xs : List Str, ds = [dS xs] ∧ Cat xs ∧ R (.val (.bl true)) n
def S_are_unlike : ST := fun ds n R => ∃ xs ys : List Str, ds = [dS xs, dS ys] ∧ xs.length ≤ 100 ∧ ys.length ≤ 100 ∧ (∀ y ∈ ys, y ∈ xs) ∧ ys.Nodup ∧ R (.val (.bl true)) n
section
variable {C : Addr} {p : Pz} {W : Addr → Prop} {H : Hp}
theorem ARep.a1 {k : Bool} {d : D} {vs : List V} (h : ARep C p W H [k] [d] vs) : ∃ v, vs = [v] ∧ View p C W H d v := by
  obtain ⟨d0, dr, v, vr, e1, e2, h, e3, e4⟩ := h
  cases e1
  refine ⟨v, by rw [e2, e4], ?_⟩
  cases k with
  | true => exact h
  | false => exact .inl h
theorem ARep.a2 {k j : Bool} {d e : D} {vs : List V} (h : ARep C p W H [k, j] [d, e] vs) : ∃ v u, vs = [v, u] ∧ View p C W H d v ∧ View p C W H e u := by
  obtain ⟨d0, dr, v, vr, e1, e2, h, q⟩ := h
  cases e1
  obtain ⟨u, e5, h2⟩ := q.a1
  refine ⟨v, u, by rw [e2, e5], ?_, h2⟩
  cases k with
  | true => exact h
  | false => exact .inl h
theorem View.purse {v : V} (h : View p C W H .purse v) : ∃ a, v = .ref a ∧ p.pu = some a := by
  rcases h with h | ⟨_, _, _, h⟩
  · exact h
  · exact h.elim
end
/-! ### walks over trees -/
section
variable {pt : Pat} {c : TBx} {e : TX} {Γ : Gm}
/-- a comprehension of pure parts: f of each -/
theorem lcF_map {α : Type} {enc : α → D} {f : α → D} {i : Nat} : ∀ {xs : List α} {acc : List D} {n : Nat} {k : List D → Nat → Prop}, (∀ x ∈ xs, ∀ n R, (∀ r, r.d = f x → sto r = true → R r n) → e (Γ.set i (some (.val (enc x)))) n R) →
    k (acc ++ xs.map f) n → lcF (.nm i) tlYes e Γ (xs.map enc) acc n k
  | [], acc, n, k, _, h => by rw [List.map_nil, List.append_nil] at h; exact h
  | x :: r, acc, n, k, hs, h => by
    change (if true = true then e (Γ.set i (some (.val (enc x)))) n (fun rv n2 => sto rv = true ∧ lcF (.nm i) tlYes e Γ (r.map enc) (acc ++ [rv.d]) n2 k) else lcF (.nm i) tlYes e Γ (r.map enc) acc n k)
    rw [if_pos rfl]
    refine hs x List.mem_cons_self n _ fun rv e st => ⟨st, ?_⟩
    rw [e]
    exact lcF_map (fun y hy => hs y (List.mem_cons_of_mem _ hy)) (by rw [List.append_assoc]; exact h)
/-- a comprehension that keeps some -/
theorem lcF_filter {α : Type} {enc : α → D} {f : α → D} {b : α → Bool} {i : Nat} : ∀ {xs : List α} {acc : List D} {n : Nat} {k : List D → Nat → Prop}, (∀ x ∈ xs, ∀ n (R : Bool → Nat → Prop), R (b x) n → c (Γ.set i (some (.val (enc x)))) n R) → (∀ x ∈ xs, b x = true → ∀ n R, (∀ r, r.d = f x → sto r = true → R r n) → e (Γ.set i (some (.val (enc x)))) n R) →
    k (acc ++ (xs.filter b).map f) n → lcF (.nm i) c e Γ (xs.map enc) acc n k
  | [], acc, n, k, _, _, h => by rw [List.filter_nil, List.map_nil, List.append_nil] at h; exact h
  | x :: r, acc, n, k, hc, hs, h => by
    change c (Γ.set i (some (.val (enc x)))) n (fun b n1 => if b = true then e (Γ.set i (some (.val (enc x)))) n1 (fun rv n2 => sto rv = true ∧ lcF (.nm i) c e Γ (r.map enc) (acc ++ [rv.d]) n2 k) else lcF (.nm i) c e Γ (r.map enc) acc n1 k)
    refine hc x List.mem_cons_self n _ ?_
    have ih := fun (acc : List D) (h : k (acc ++ (r.filter b).map f) n) => lcF_filter (fun y hy => hc y (List.mem_cons_of_mem _ hy)) (fun y hy => hs y (List.mem_cons_of_mem _ hy)) h
    cases hb : b x with
    | true =>
      rw [if_pos rfl]
      refine hs x List.mem_cons_self hb n _ fun rv e st => ⟨st, ?_⟩
      rw [e]
      refine ih _ ?_
      rw [List.filter_cons, hb, if_pos rfl] at h
      rw [List.append_assoc]
      exact h
    | false =>
      rw [if_neg (by simp)]
      refine ih _ ?_
      rw [List.filter_cons, hb, if_neg (by simp)] at h
      exact h
end
/-- a walk's invariant -/
theorem forF_inv {pt : Pat} {T : TSt} {E : TEn} (Iv : Nat → Gm → Nat → Prop) : ∀ {ds : List D} {j : Nat} {Γ : Gm} {n : Nat}, Iv j Γ n →
    (∀ (i : Nat) (d : D) (Γ : Gm) (n : Nat), ds[i]? = some d → Iv (j + i) Γ n → ∃ Γ', bindP pt d Γ = some Γ' ∧ ∀ k : Gm → Nat → Prop, (∀ Γ n, Iv (j + i + 1) Γ n → k Γ n) → T { nx := k, ct := k, bk := E.nx, rt := E.rt } Γ' n) →
    (∀ Γ n, Iv (j + ds.length) Γ n → E.nx Γ n) → forF pt T E ds Γ n
  | [], j, Γ, n, h0, _, hd => hd Γ n h0
  | d :: r, j, Γ, n, h0, hs, hd => by
    obtain ⟨Γ', eb, h⟩ := hs 0 d Γ n rfl h0
    unfold forF
    rw [eb]
    refine h _ fun Γ2 n2 h1 => forF_inv Iv h1 (fun i d Γ n hi hI => ?_) fun Γ n h => hd Γ n (by rw [List.length_cons, show j + (r.length + 1) = j + 1 + r.length by omega]; exact h)
    have := hs (i + 1) d Γ n (by simpa using hi) (by rw [show j + (i + 1) = j + 1 + i by omega]; exact hI)
    rw [show j + (i + 1) + 1 = j + 1 + i + 1 by omega] at this
    exact this
end TL
end
-- R
section
set_option Elab.async false
set_option linter.all false
set_option maxRecDepth 100000
set_option maxHeartbeats 4100000
variable [TL.Tb]
namespace LW
open L2 PyProof.Rows PySem PySem.Spec TS TL
/-- the row's i-th statement -/
def top (i : Nat) : Stmt := PySem.Challenge.pw_runturns_k06_whole_shelves_numbered.main.body.getD i (.Pass ⟨0, 0, 0, 0⟩)
abbrev sPurse : Stmt := top 25
abbrev sMixed : Stmt := top 26
abbrev sDraw : Stmt := top 27
abbrev sPurses : Stmt := top 28
abbrev sWord : Stmt := top 31
theorem op_powW {X : Cx} : OpR X (binaryOp .Pow) (rI (fun i j => 0 ≤ j ∧ (Builtin.Int.intBits i : Int) * j ≤ 2 ^ 27) fun i j => .int (i ^ j.toNat)) := opI fun _ _ _ _ _ _ _ hc q => pow_int hc.1 hc.2 q
theorem cut_ints (ns : List Int) (lo hi : Option Int) : ∃ ms : List Int, cutV (ns.map V.int) lo hi = ms.map V.int := by
  unfold cutV
  exact ⟨_, by rw [← List.map_drop, ← List.map_take]⟩
/-- the names of the built-ins that the law's defs use -/
structure Bl (mg : Str → Option Value) : Prop where
  sum : mg "sum" = none
  int : mg "int" = none
  max : mg "max" = none
  min : mg "min" = none
  len : mg "len" = none
  range : mg "range" = none
  isi : mg "isinstance" = none
  repr : mg "repr" = none
  all : mg "all" = none
  ve : mg "ValueError" = none
section
variable {base : Heap} {mg : Str → Option Value} {K : PySem.W.Frag} {w : World} {P : Program}
theorem scPurse : FnScope ["_law_script", "_law_at", "_law_seed"] ["_law_script", "_law_at"] (defScope sPurse) := ⟨rfl, rfl, rfl, by decide +kernel, rfl, by decide +kernel, by decide +kernel⟩
def spPurse (K : PySem.W.Frag) : Sp := fun vs H Q _ => ∃ (a : Addr) (ns : List Int) (i : Nat), vs = [.ref a, .int i] ∧ SqL K H a (ns.map V.int) ∧ ns.length ≤ 63 ∧ i ≤ 1000 ∧ ∀ H' p, Same H H' → H p = none → PurseAt H' p 0 → Q (.ref p) H'
theorem ok_purse {f : Addr} {fd : FuncData} (F : Fun K "_law_purse" "_law_purse" sPurse f fd) (B : Bl mg) : FnOk P w K mg base CX0 1 f fd ["_law_script", "_law_at"] (spPurse K) := by
  refine F.ok scPurse (fun vs H Q E h => ?_) (fun cdv A outer s H vs Q E hr h => ?_)
  · obtain ⟨a, ns, i, rfl, _⟩ := h
    rfl
  · obtain ⟨a, ns, i, rfl, hS, hlen, hi, q⟩ := h
    refine ⟨_, pss_cons (ps_set (i := 2) scPurse.nd rfl (.inl rfl) (pe_callB (cr_sum rfl) (by rfl) B.sum (by decide +kernel) (pa_cons (pe_slice sl_list (pv 0) (po_some (pv 1)) (po_some (pe_op op_add (pv 1) pe_int))) pa_nil)))
      (pss_one (ps_ret (pe_lst (pa_cons (pe_op op_mod (pe_callTy call_int1 (by rfl) B.int (by decide +kernel) (pa_cons (pe_callB (call_max2 rfl) (by rfl) B.max (by decide +kernel) (pa_cons (pe_op op_sub (pv 2) (pe_op op_powW pe_int pe_int)) (pa_cons pe_int pa_nil))) pa_nil)) (pe_op op_powW (pe_op op_powW pe_int pe_int) pe_int))
        (pa_cons (pe_op op_mod (pe_callTy call_int1 (by rfl) B.int (by decide +kernel) (pa_cons (pv 2) pa_nil)) pe_int) (pa_cons pe_int (pa_cons (pv 1) pa_nil))))))), ?_⟩
    refine ⟨_, rfl, _, rfl, _, rfl, _, rfl, _, _, rfl, rfl, _, rfl, a, _, rfl, hS, fun c nc => ?_⟩
    obtain ⟨ms, em⟩ := cut_ints ns (some (i : Int)) (some ((i : Int) + 1))
    refine ⟨c, ms, rfl, .inl (.inl (em ▸ upd_same)), ?_⟩
    generalize ms.sum = S
    have s1 : Same H (upd H c (.lst (cutV (ns.map V.int) (some (i : Int)) (some ((i : Int) + 1))))) := same_upd nc
    generalize upd H c (.lst (cutV (ns.map V.int) (some (i : Int)) (some ((i : Int) + 1)))) = H1 at s1 ⊢
    refine ⟨_, rfl, _, _, rfl, rfl, ⟨by decide, by decide +kernel⟩, _, _, rfl, rfl, _, _, rfl, .inl ⟨_, rfl, ?_⟩⟩
    refine ⟨_, _, rfl, rfl, ⟨by decide, by decide +kernel⟩, _, _, rfl, rfl, ⟨by decide, by decide +kernel⟩, _, _, rfl, rfl, ?_, ?_⟩
    · show (0 : Int) < (10 ^ Int.toNat 60) ^ Int.toNat 8
      decide +kernel
    refine ⟨_, rfl, .inl ⟨_, rfl, _, _, rfl, rfl, (show (0 : Int) < 2147483629 by decide), _, rfl, (show 4 ≤ sizeLine by decide +kernel), fun p np => ?_⟩⟩
    refine q _ p (s1.trans (same_upd np)) (s1.free np) ?_
    refine ⟨_, _, _, _, upd_same, Int.emod_nonneg _ (by decide), ?_, Int.le_refl _, Int.le_refl _, by omega, by omega⟩
    exact Int.lt_trans (Int.emod_lt_of_pos _ (by decide)) (by decide)
/-! ### mixed: some count -/
theorem scMixed : FnScope ["_law_seed", "_law_turn", "_law_at", "_law_mixed_here"] ["_law_seed", "_law_turn", "_law_at"] (defScope sMixed) := ⟨rfl, rfl, rfl, by decide +kernel, rfl, by decide +kernel, by decide +kernel⟩
def spMixed : Sp := fun vs H Q _ => ∃ s t a : Int, vs = [.int s, .int t, .int a] ∧ (-(2 ^ 64) < t ∧ t < 2 ^ 64) ∧ ∀ r : Int, Q (.int r) H
theorem ok_mixed {f : Addr} {fd : FuncData} (F : Fun K "_law_mixed" "_law_mixed" sMixed f fd) (B : Bl mg) : FnOk P w K mg base CX0 1 f fd ["_law_seed", "_law_turn", "_law_at"] spMixed := by
  refine F.ok scMixed (fun vs H Q E h => ?_) (fun cdv A outer s H vs Q E hr h => ?_)
  · obtain ⟨s, t, a, rfl, _⟩ := h
    rfl
  · obtain ⟨sd, tn, at_, rfl, ht, q⟩ := h
    refine ⟨_, pss_cons (ps_set (i := 3) scMixed.nd rfl (.inl rfl) (pe_op op_add (pe_op op_mul (pv 0) pe_int) (pe_op op_mul (pe_op op_mul pe_int (pv 1)) (pv 1))))
      (pss_cons (ps_set (i := 3) scMixed.nd rfl (.inl rfl) (pe_op op_mod (pe_callTy call_int1 (by rfl) B.int (by decide +kernel) (pa_cons (pe_op op_add (pe_op op_add (pv 3) (pe_op op_mul pe_int (pv 2))) (pv 1)) pa_nil)) pe_int))
      (pss_cons (ps_set (i := 3) scMixed.nd rfl (.inl rfl) (pe_op op_mod (pe_callTy call_int1 (by rfl) B.int (by decide +kernel) (pa_cons (pe_op op_add (pe_op op_mul (pv 3) (pv 3)) pe_int) pa_nil)) pe_int))
      (pss_one (ps_ret (pe_op op_mod (pe_callTy call_int1 (by rfl) B.int (by decide +kernel) (pa_cons (pe_op op_mul (pv 3) pe_int) pa_nil)) pe_int))))), ?_⟩
    refine ⟨_, rfl, _, _, rfl, rfl, .inr ⟨by decide, by decide⟩, _, rfl, _, _, rfl, rfl, .inl ⟨by decide, by decide⟩, _, rfl, _, _, rfl, rfl, .inr ht, _, _, rfl, rfl, ?_⟩
    generalize sd * 69069 + 104729 * tn * tn = m1
    refine ⟨_, rfl, _, rfl, _, _, rfl, rfl, .inl ⟨by decide, by decide⟩, _, _, rfl, rfl, _, rfl, _, _, rfl, rfl, .inl ⟨_, rfl, _, _, rfl, rfl, (show (0 : Int) < 2147483647 by decide), ?_⟩⟩
    generalize m1 + 7919 * at_ + tn = m2
    have b1 := Int.emod_nonneg m2 (show (2147483647 : Int) ≠ 0 by decide)
    have b2 := Int.emod_lt_of_pos m2 (show (0 : Int) < 2147483647 by decide)
    generalize m2 % 2147483647 = m3 at b1 b2
    refine ⟨_, rfl, _, rfl, _, _, rfl, rfl, .inl ⟨by omega, by omega⟩, _, _, rfl, rfl, .inl ⟨_, rfl, _, _, rfl, rfl, (show (0 : Int) < 2147483629 by decide), ?_⟩⟩
    generalize (m3 * m3 + 40503) % 2147483629 = m4
    exact ⟨_, rfl, _, _, rfl, rfl, .inr ⟨by decide, by decide⟩, .inl ⟨_, rfl, _, _, rfl, rfl, (show (0 : Int) < 2147483587 by decide), q _⟩⟩
/-! ### draw: a count below many; the purse goes on -/
theorem scDraw : FnScope ["_law_purse_here", "_law_many_here", "_law_drawn", "_law_found", "_law_piece"] ["_law_purse_here", "_law_many_here"] (defScope sDraw) := ⟨rfl, rfl, rfl, by decide +kernel, rfl, by decide +kernel, by decide +kernel⟩
/-- so often is drawn for one number -/
def dks (n : Nat) : Int := if n < 2 ^ 27 then 1 else 2
theorem dks_few {n : Nat} (h : n < 2 ^ 27) : dks n = 1 := if_pos h
def spDraw : Sp := fun vs H Q _ => ∃ (p : Addr) (n : Nat) (b : Int), vs = [.ref p, .int n] ∧ 1 ≤ n ∧ n < 2 ^ 29 ∧ PurseAt H p b ∧ b ≤ 2 ^ 60 ∧
  ∀ (H' : Hp) (r : Nat), r < n → PurseAt H' p (b + dks n) → (∀ c, c ≠ p → H' c = H c) → Q (.int r) H'
theorem ok_draw {f g : Addr} {fd gd : FuncData} (F : Fun K "_law_draw" "_law_draw" sDraw f fd) (B : Bl mg) (G : FnOk P w K mg base CX0 1 g gd ["_law_seed", "_law_turn", "_law_at"] spMixed) (gG : mg "_law_mixed" = some (.ref g)) (kG : PySem.W.keepIn K (.ref g) = true) (bG : Binds K gd ["_law_seed", "_law_turn", "_law_at"] []) :
    FnOk P w K mg base CX0 2 f fd ["_law_purse_here", "_law_many_here"] spDraw := by
  refine F.ok scDraw (fun vs H Q E h => ?_) (fun cdv A outer s H vs Q E hr h => ?_)
  · obtain ⟨p, n, b, rfl, _⟩ := h
    rfl
  · obtain ⟨p, n, b, rfl, hn1, hn2, hP, hb, q⟩ := h
    refine ⟨_, pss_cons (ps_if (pt_cmpR op_gt (pe_ix ix_list (pv 0) pe_int (fun _ _ => rfl)) pe_int (nomark _))
        (pss_cons (ps_set (i := 2) scDraw.nd rfl (.inl rfl) (pe_op op_mod (pe_callTy call_int1 (by rfl) B.int (by decide +kernel) (pa_cons (pe_ix ix_list (pv 0) pe_int (fun _ _ => rfl)) pa_nil)) (pv 1)))
        (pss_cons (ps_asg (pe_op op_fdivW (pe_ix ix_list (pv 0) pe_int (fun _ _ => rfl)) (pv 1)) (pg_sub (pv 0) pe_int set_list))
        (pss_one (ps_ret (pv 2))))) pss_nil)
      (pss_cons (ps_set (i := 3) scDraw.nd rfl (.inl rfl) pe_int)
      (pss_cons (ps_for PassesOwn.never rfl (pi_range1 rfl B.range (pa_cons (pe_op op_add pe_int (pe_op op_fdiv (pe_bits (pv 1)) pe_int)) pa_nil)) (pg_name (i := 4) scDraw.nd rfl (Or.inl rfl))
        (pss_cons (ps_asg (pe_op op_add (pe_ix ix_list (pv 0) pe_int (fun _ _ => rfl)) pe_int) (pg_sub (pv 0) pe_int set_list))
        (pss_one (ps_set (i := 3) scDraw.nd rfl (.inl rfl) (pe_op op_add (pe_op op_mul (pv 3) pe_int) (pe_call G hr rfl gG kG bG .nil pass0 (pa_cons (pe_ix ix_list (pv 0) pe_int (fun _ _ => rfl)) (pa_cons (pe_ix ix_list (pv 0) pe_int (fun _ _ => rfl)) (pa_cons (pe_ix ix_list (pv 0) pe_int (fun _ _ => rfl)) pa_nil)))))))))
      (pss_one (ps_ret (pe_op op_mod (pe_callTy call_int1 (by rfl) B.int (by decide +kernel) (pa_cons (pv 3) pa_nil)) (pv 1)))))), ?_⟩
    obtain ⟨p0, p1, p2, p3, hp, h1, h2, h3, h4, h5, h6⟩ := hP
    refine ⟨_, rfl, p, _, _, _, rfl, rfl, SqL.of hp, rfl, _, _, rfl, rfl, _, rfl, ?_⟩
    refine (ite2 (fun _ => ?_) (fun _ => ?_))
    · refine ⟨_, rfl, p, _, _, _, rfl, rfl, SqL.of hp, rfl, .inl ⟨_, rfl, _, rfl, _, _, rfl, rfl, (by omega : (0 : Int) < (n : Int)), ?_⟩⟩
      have m1 := Int.emod_nonneg p0 (show (n : Int) ≠ 0 by omega)
      have m2 := Int.emod_lt_of_pos p0 (show (0 : Int) < (n : Int) by omega)
      have dk0 : 1 ≤ dks n := by unfold dks; split <;> decide
      refine ⟨_, rfl, p, _, _, _, rfl, rfl, SqL.of hp, rfl, _, rfl, _, _, rfl, rfl, wide_div (b := 29) (by omega) (by rw [Int.natAbs_natCast]; exact hn2) (by decide) (by decide), ?_⟩
      refine ⟨_, rfl, p, _, _, 0, rfl, rfl, hp, rfl, ?_⟩
      refine ⟨_, rfl, ?_⟩
      show Q (.int (p0 % (n : Int))) _
      rw [show p0 % (n : Int) = ((p0 % (n : Int)).toNat : Int) from by omega]
      exact q _ _ (by omega) ⟨_, p1, p2, p3, upd_same, h1, h2, h3, by omega, h5, h6⟩ fun c hc => upd_ne hc
    · have bits : ∀ c : Nat, n < 2 ^ c → Builtin.Int.intBits (n : Int) ≤ c := fun c hc => by
        unfold Builtin.Int.intBits
        split
        · omega
        · rw [Int.natAbs_natCast]
          have := (Nat.log2_lt (by omega)).mpr hc
          omega
      obtain ⟨k, eb, k2, kd⟩ : ∃ k : Nat, (1 : Int) + ((Builtin.Int.intBits (n : Int) : Nat) : Int) / 28 = (k : Int) ∧ k ≤ 2 ∧ (k : Int) ≤ dks n := by
        have b1 := bits 29 hn2
        refine ⟨1 + Builtin.Int.intBits (n : Int) / 28, by omega, by omega, ?_⟩
        unfold dks
        split
        · next h => have := bits 27 h; omega
        · omega
      refine ⟨_, rfl, _, rfl, _, _, rfl, rfl, ⟨by decide, by decide⟩, _, _, rfl, rfl, _, rfl, ?_, ?_, ?_⟩
      · show -(2 ^ 62) ≤ (1 : Int) + ((Builtin.Int.intBits (n : Int) : Nat) : Int) / 28
        rw [eb]; omega
      · show (1 : Int) + ((Builtin.Int.intBits (n : Int) : Nat) : Int) / 28 < 2 ^ 62
        rw [eb]; omega
      show ∃ W : Nat → Nat → L2.St → Hp → Prop, _
      rw [eb]
      refine for_range (n := k) (fun i σ H' => ∃ (z : Int) (d v : Option V), i ≤ k ∧ σ = [some (.ref p), some (.int n), d, some (.int z), v] ∧ PurseAt H' p (b + (i : Int)) ∧ ∀ c, c ≠ p → H' c = H c) ?_ ?_ ?_
      · exact ⟨0, none, none, by omega, rfl, ⟨p0, p1, p2, p3, hp, h1, h2, h3, by omega, h5, h6⟩, fun c _ => rfl⟩
      · rintro i σ H' hi ⟨z, d, v, _, rfl, ⟨q0, q1, q2, q3, hq, g1, g2, g3, g4, g5, g6⟩, hc⟩
        refine ⟨_, rfl, p, _, _, _, rfl, rfl, SqL.of hq, rfl, _, _, rfl, rfl, _, rfl, p, _, _, 2, rfl, rfl, hq, rfl, ?_⟩
        have eq : (upd H' p (.lst ([V.int q0, V.int q1, V.int q2, V.int q3].set 2 (V.int (q2 + 1))))) p = some (.lst [V.int q0, V.int q1, V.int (q2 + 1), V.int q3]) := upd_same
        refine ⟨_, rfl, _, _, rfl, rfl, .inr ⟨by decide, by decide⟩, _, rfl, p, _, _, _, rfl, rfl, SqL.of eq, rfl, _, rfl, p, _, _, _, rfl, rfl, SqL.of eq, rfl, _, rfl, p, _, _, _, rfl, rfl, SqL.of eq, rfl, ?_⟩
        refine ⟨q1, q2 + 1, q3, rfl, ⟨by omega, by omega⟩, fun r => ⟨_, _, rfl, rfl, ?_⟩⟩
        exact ⟨_, d, _, by omega, rfl, ⟨q0, q1, q2 + 1, q3, eq, g1, g2, by omega, by omega, g5, g6⟩, fun c hcp => (upd_ne hcp).trans (hc c hcp)⟩
      · rintro σ H' ⟨z, d, v, _, rfl, hP', hc⟩
        refine ⟨_, rfl, .inl ⟨_, rfl, _, rfl, _, _, rfl, rfl, (by omega : (0 : Int) < (n : Int)), ?_⟩⟩
        have m1 := Int.emod_nonneg z (show (n : Int) ≠ 0 by omega)
        have m2 := Int.emod_lt_of_pos z (show (0 : Int) < (n : Int) by omega)
        show Q (.int (z % (n : Int))) _
        rw [show z % (n : Int) = ((z % (n : Int)).toNat : Int) from by omega]
        obtain ⟨q0, q1, q2, q3, hq, g1, g2, g3, g4, g5, g6⟩ := hP'
        exact q _ _ (by omega) ⟨q0, q1, q2, q3, hq, g1, g2, g3, by omega, g5, g6⟩ hc
end
section
variable {base : Heap} {mg : Str → Option Value} {K : PySem.W.Frag} {w : World} {P : Program}
theorem _root_.TL.PurseAt.same {H H' : Hp} {p : Addr} {b : Int} (e : Same H H') (h : PurseAt H p b) : PurseAt H' p b := by
  obtain ⟨p0, p1, p2, p3, hp, r⟩ := h
  exact ⟨p0, p1, p2, p3, e _ _ hp, r⟩
theorem _root_.TL.PurseAt.le {H : Hp} {p : Addr} {b c : Int} (h : PurseAt H p b) (hb : b ≤ c) : PurseAt H p c := by
  obtain ⟨p0, p1, p2, p3, hp, h1, h2, h3, h4, r⟩ := h
  exact ⟨p0, p1, p2, p3, hp, h1, h2, h3, by omega, r⟩
theorem scPurses : FnScope ["_law_script", "_law_few", "_law_at"] ["_law_script", "_law_few"] (defScope sPurses) := ⟨rfl, rfl, rfl, by decide +kernel, rfl, by decide +kernel, by decide +kernel⟩
def spPurses (K : PySem.W.Frag) : Sp := fun vs H Q _ => ∃ (a : Addr) (ns : List Int) (n : Nat), vs = [.ref a, .int n] ∧ SqL K H a (ns.map V.int) ∧ ns.length ≤ 63 ∧ n ≤ 100 ∧
  ∀ H' p (ps : List Addr), Same H H' → H p = none → H' p = some (.lst (ps.map V.ref)) → ps.length ≤ 100 → (∀ x ∈ ps, PurseAt H' x 0) → (∀ x ∈ ps, H x = none) → Q (.ref p) H'
theorem ok_purses {f g : Addr} {fd gd : FuncData} (F : Fun K "_law_purses" "_law_purses" sPurses f fd) (B : Bl mg) (G : FnOk P w K mg base CX0 1 g gd ["_law_script", "_law_at"] (spPurse K)) (gG : mg "_law_purse" = some (.ref g)) (kG : PySem.W.keepIn K (.ref g) = true) (bG : Binds K gd ["_law_script", "_law_at"] []) :
    FnOk P w K mg base CX0 2 f fd ["_law_script", "_law_few"] (spPurses K) := by
  refine F.ok scPurses (fun vs H Q E h => ?_) (fun cdv A outer s H vs Q E hr h => ?_)
  · obtain ⟨a, ns, n, rfl, _⟩ := h
    rfl
  · obtain ⟨a, ns, n, rfl, hS, hlen, hn, q⟩ := h
    refine ⟨_, pss_one (ps_ret (pe_lc (own := [("_law_at", 2)]) (g := gName 2) (tt := tYes) rfl scPurses.nd
      (pi_range1 rfl B.range (pa_cons (pe_callB (call_max2 rfl) (by rfl) B.max (by decide +kernel) (pa_cons pe_int (pa_cons (pe_callB (call_min2 rfl) (by rfl) B.min (by decide +kernel) (pa_cons (pv 1) (pa_cons (pe_callB call_len_seq (by rfl) B.len PySem.boot_len (pa_cons (pv 0) pa_nil)) pa_nil))) pa_nil))) pa_nil))
      (blkOk_by (N := ["_law_script", "_law_few", "_law_at"]) (sc := defScope sPurses) (by decide +kernel)) (fun _ _ _ _ _ => pg_name (i := 2) scPurses.nd rfl (Or.inl rfl)) (fun _ _ _ _ _ => pts_nil)
      (fun _ _ _ _ _ => pe_call G hr rfl gG kG bG .nil pass0 (pa_cons (pv 0) (pa_cons (pv 2) pa_nil))))), ?_⟩
    have el : (List.map V.int ns).length = ns.length := List.length_map _
    refine ⟨_, rfl, _, rfl, a, _, rfl, .inl hS, _, _, rfl, _, _, rfl, _, rfl, ?_⟩
    have key : ∀ J : Int, J = (if (if ((List.map V.int ns).length : Int) < (n : Int) then ((List.map V.int ns).length : Int) else (n : Int)) > 1 then (if ((List.map V.int ns).length : Int) < (n : Int) then ((List.map V.int ns).length : Int) else (n : Int)) else 1) → 1 ≤ J ∧ J ≤ 100 := by
      intro J e
      rw [el] at e
      split at e <;> split at e <;> omega
    obtain ⟨j1, j2⟩ := key _ rfl
    generalize (if (if ((List.map V.int ns).length : Int) < (n : Int) then ((List.map V.int ns).length : Int) else (n : Int)) > 1 then (if ((List.map V.int ns).length : Int) < (n : Int) then ((List.map V.int ns).length : Int) else (n : Int)) else 1) = J at j1 j2 ⊢
    refine ⟨by omega, by omega, fun D hD => ?_⟩
    refine lc_range (fun i H' => ∃ ps : List Addr, H' D = some (.lst (ps.map V.ref)) ∧ ps.length = i ∧ (∀ x ∈ ps, PurseAt H' x 0) ∧ Same H H' ∧ ∀ x ∈ ps, H x = none) ⟨[], upd_same, rfl, (fun x hx => nomatch hx), same_upd hD, (fun x hx => nomatch hx)⟩ ?_ ?_
    · rintro i H1 hi ⟨ps, h1, h2, h3, h4, h5⟩
      refine ⟨rfl, ?_⟩
      refine ⟨_, rfl, _, rfl, a, ns, i, ?_, h4.seq hS, hlen, by omega, fun H2 x s2 hx hP => ?_⟩
      · show [V.ref a, V.int (0 + (i : Int))] = [V.ref a, V.int (i : Int)]
        rw [Int.zero_add]
      have nxD : ∀ y, PurseAt H2 y 0 → y ≠ D := fun y hy e => by
        obtain ⟨_, _, _, _, hp, _⟩ := hy
        rw [e, s2 _ _ h1] at hp
        have := congrArg (fun o => match o with | some (HO.lst l) => l | _ => []) hp
        match ps, this with
        | [], z => cases z
        | b :: r, z => cases z
      refine ⟨_, s2 _ _ h1, by rw [List.length_map, h2]; exact small1000 (by omega), ps ++ [x], ?_, by rw [List.length_append, h2]; rfl, fun y hy => ?_, fun b o e => ?_, fun y hy => ?_⟩
      · rw [upd_same, List.map_append]
        rfl
      · have hy2 : PurseAt H2 y 0 := by
          rcases List.mem_append.mp hy with z | z
          · exact (h3 y z).same s2
          · rw [List.mem_singleton.mp z]; exact hP
        obtain ⟨p0, p1, p2, p3, hp, r⟩ := hy2
        exact ⟨p0, p1, p2, p3, by rw [upd_ne (nxD y ⟨p0, p1, p2, p3, hp, r⟩)]; exact hp, r⟩
      · rw [upd_ne (ne_of_none e hD)]
        exact s2 _ _ (h4 _ _ e)
      · rcases List.mem_append.mp hy with z | z
        · exact h5 y z
        · rw [List.mem_singleton.mp z]
          cases q : H x with
          | none => rfl
          | some o => rw [h4 _ _ q] at hx; cases hx
    · rintro H1 ⟨ps, h1, h2, h3, h4, h5⟩
      exact q H1 D ps h4 hD h1 (by omega) h3 h5
/-! ### word: one to eight letters -/
def isLet (y : Str) : Prop := ∃ c : Nat, y = ⟨#[c]⟩ ∧ 97 ≤ c ∧ c ≤ 122
theorem join_let : ∀ ys : List Str, (∀ y ∈ ys, isLet y) → (Str.join "" ys).cps.toList.length = ys.length ∧ ∀ c ∈ (Str.join "" ys).cps.toList, 97 ≤ c ∧ c ≤ 122
  | [], _ => ⟨rfl, fun c hc => by cases hc⟩
  | [x], h => by
    obtain ⟨c, rfl, hc⟩ := h x List.mem_cons_self
    exact ⟨rfl, fun d hd => by cases hd with | head => exact hc | tail _ z => cases z⟩
  | x :: y :: r, h => by
    obtain ⟨c, rfl, hc⟩ := h x List.mem_cons_self
    obtain ⟨i1, i2⟩ := join_let (y :: r) fun z hz => h z (List.mem_cons_of_mem _ hz)
    have e : (Str.join "" ((⟨#[c]⟩ : Str) :: y :: r)).cps.toList = c :: (Str.join "" (y :: r)).cps.toList := by
      show ((#[c] ++ (#[] : Array Nat)) ++ (Str.join "" (y :: r)).cps).toList = _
      simp
    rw [e]
    exact ⟨by rw [List.length_cons, i1]; rfl, fun d hd => by
      rcases List.mem_cons.1 hd with rfl | hd
      · exact hc
      · exact i2 d hd⟩
theorem abc_eq : (("abcdefghijklmnopqrstuvwxyz" : Str)).cps.toList = (List.range 26).map (97 + ·) := by decide +kernel
theorem sum_let : ∀ ys : List Str, (∀ y ∈ ys, isLet y) → (ys.map (·.length)).sum = ys.length
  | [], _ => rfl
  | y :: r, h => by
    obtain ⟨c, rfl, hc⟩ := h y List.mem_cons_self
    rw [List.map_cons, List.sum_cons, sum_let r fun z hz => h z (List.mem_cons_of_mem _ hz)]
    change 1 + r.length = r.length + 1
    omega
theorem scWord : FnScope ["_law_purse_here", "_law_size", "_law_turn"] ["_law_purse_here"] (defScope sWord) := ⟨rfl, rfl, rfl, by decide +kernel, rfl, by decide +kernel, by decide +kernel⟩
def spWord : Sp := fun vs H Q _ => ∃ (p : Addr) (b : Int), vs = [.ref p] ∧ PurseAt H p b ∧ b ≤ 2 ^ 40 ∧
  ∀ H' z, isWord z → PurseAt H' p (b + 20) → (∀ c o, c ≠ p → H c = some o → H' c = some o) → Q (.str z) H'
theorem ok_word {f g : Addr} {fd gd : FuncData} (F : Fun K "_law_word" "_law_word" sWord f fd) (B : Bl mg) (G : FnOk P w K mg base CX0 2 g gd ["_law_purse_here", "_law_many_here"] spDraw) (gG : mg "_law_draw" = some (.ref g)) (kG : PySem.W.keepIn K (.ref g) = true) (bG : Binds K gd ["_law_purse_here", "_law_many_here"] []) :
    FnOk P w K mg base CX0 3 f fd ["_law_purse_here"] spWord := by
  refine F.ok scWord (fun vs H Q E h => ?_) (fun cdv A outer s H vs Q E hr h => ?_)
  · obtain ⟨p, b, rfl, _⟩ := h
    rfl
  · obtain ⟨p, b, rfl, hP, hb, q⟩ := h
    refine ⟨_, pss_cons (ps_set (i := 1) scWord.nd rfl (.inl rfl) (pe_op op_add pe_int (pe_call G hr rfl gG kG bG .nil pass0 (pa_cons (pv 0) (pa_cons (pe_ifExp (pt_cmpR op_eq (pe_call G hr rfl gG kG bG .nil pass0 (pa_cons (pv 0) (pa_cons pe_int pa_nil))) pe_int (nomark _)) pe_int pe_int) pa_nil)))))
      (pss_one (ps_ret (pe_join pe_str (pe_lc (own := [("_law_turn", 2)]) (g := gName 2) (tt := tYes) rfl scWord.nd (pi_range1 rfl B.range (pa_cons (pv 1) pa_nil))
        (blkOk_by (N := ["_law_purse_here", "_law_size", "_law_turn"]) (sc := defScope sWord) (by decide +kernel)) (fun _ _ _ _ _ => pg_name (i := 2) scWord.nd rfl (Or.inl rfl)) (fun _ _ _ _ _ => pts_nil)
        (fun _ _ _ _ _ => pe_ix ix_str pe_str (pe_call G hr rfl gG kG bG .nil pass0 (pa_cons (pv 0) (pa_cons pe_int pa_nil))) (fun _ _ => rfl)))))), ?_⟩
    -- the size
    refine ⟨_, rfl, _, rfl, p, 3, b, rfl, by decide, by decide, hP, by omega, fun H1 r1 hr1 hP1 hc1 => ⟨rfl, _, rfl, ?_⟩⟩
    refine ite2 (fun _ => ⟨p, 8, b + 1, rfl, by decide, by decide, hP1, by omega, fun H2 r2 hr2' hP2 hc2 => ⟨_, _, rfl, rfl, ?_⟩⟩) (fun _ => ⟨p, 3, b + 1, rfl, by decide, by decide, hP1, by omega, fun H2 r2 hr2' hP2 hc2 => ⟨_, _, rfl, rfl, ?_⟩⟩)
    all_goals
      have hr2 : r2 < 8 := by omega
      rw [dks_few (by decide)] at hP1 hP2
      have hc : ∀ c, c ≠ p → H2 c = H c := fun c n => (hc2 c n).trans (hc1 c n)
      refine ⟨⟨_, rfl⟩, _, rfl, _, rfl, by omega, by omega, fun D hD => ?_⟩
      have npD : p ≠ D := by
        obtain ⟨_, _, _, _, hp, _⟩ := hP2
        exact ne_of_none hp hD
      refine lc_range (fun i H' => ∃ ys : List Str, H' D = some (.lst (ys.map V.str)) ∧ ys.length = i ∧ (∀ y ∈ ys, isLet y) ∧ PurseAt H' p (b + 2 + (i : Int)) ∧ ∀ c o, c ≠ p → H c = some o → H' c = some o) ⟨[], upd_same, rfl, (fun x hx => nomatch hx), (hP2.le (by omega)).same (same_upd hD), fun c o n e => ?_⟩ ?_ ?_
      · have e2 : H2 c = some o := (hc c n).trans e
        exact same_upd hD _ _ e2
      · rintro i H3 hi ⟨ys, h1, h2, h3, h4, h5⟩
        refine ⟨rfl, ?_⟩
        refine ⟨_, rfl, p, 26, _, rfl, by decide, by decide, h4, by omega, fun H4 r3 hr3 hP3 hc3 => ?_⟩
        rw [dks_few (by decide)] at hP3
        have hl : (("abcdefghijklmnopqrstuvwxyz" : Str)).cps.toList[r3]? = some (97 + r3) := by
          rw [abc_eq, List.getElem?_map, List.getElem?_range hr3]
          rfl
        have hD4 : H4 D = some (.lst (ys.map V.str)) := (hc3 D npD.symm).trans h1
        refine ⟨_, (r3 : Int), 97 + r3, rfl, rfl, by decide +kernel, atI_nat hl, _, hD4, by rw [List.length_map, h2]; exact small1000 (by omega), ys ++ [⟨#[97 + r3]⟩], ?_, by rw [List.length_append, h2]; rfl, fun y hy => ?_, ?_, fun c o n e => ?_⟩
        · rw [upd_same, List.map_append]
          rfl
        · rcases List.mem_append.mp hy with z | z
          · exact h3 y z
          · exact ⟨97 + r3, List.mem_singleton.mp z, by omega, by omega⟩
        · obtain ⟨p0, p1, p2, p3, hp, g1, g2, g3, g4, g5⟩ := hP3
          exact ⟨p0, p1, p2, p3, by rw [upd_ne npD]; exact hp, g1, g2, g3, by omega, g5⟩
        · have e3 := h5 c o n e
          have ncD : c ≠ D := fun z => by
            rw [z] at e n
            have q1 : H2 D = some o := (hc D n).trans e
            rw [hD] at q1
            cases q1
          rw [upd_ne ncD, hc3 c n]
          exact e3
      · rintro H3 ⟨ys, h1, h2, h3, h4, h5⟩
        refine ⟨_, D, ys, rfl, rfl, .inl (SqL.of h1), ?_, ?_⟩
        · rw [sum_let ys h3]
          show ys.length + ys.length * 0 ≤ 16777216
          omega
        · rw [TL.join_eq]
          obtain ⟨i1, i2⟩ := join_let ys h3
          have size : (Str.join "" ys).length = ys.length := by
            change (Str.join "" ys).cps.size = ys.length
            rw [← Array.length_toList, i1]
          refine q H3 _ ⟨?_, ?_, i2⟩ (h4.le (by omega)) h5
          · rw [size]; omega
          · rw [size]; omega
end
/-! ### runturns.shelves: books, catalogues, shelves -/
abbrev sIsBook : Stmt := top 13
abbrev sIsCat : Stmt := top 14
abbrev sUnlike : Stmt := top 15
section
variable {base : Heap} {mg : Str → Option Value} {K : PySem.W.Frag} {w : World} {P : Program}
theorem boot_isi : bootBuiltins "isinstance" = some (.builtin "isinstance") := by decide +kernel
theorem boot_all : PySem.bootBuiltins "all" = some (.builtin "all") := by decide +kernel
theorem boot_strT : PySem.bootBuiltins "str" = some (.type "str") := by decide +kernel
theorem boot_listT : PySem.bootBuiltins "list" = some (.type "list") := by decide +kernel
/-- what the module's names hold -/
structure Md (mg : Str → Option Value) : Prop where
  isi : mg "isinstance" = none
  all : mg "all" = none
  len : mg "len" = none
  set : mg "set" = none
  str : mg "str" = none
  list : mg "list" = none
  letters : ∃ t, mg "LETTERS" = some (.str "abcdefghijklmnopqrstuvwxyz" t)
  most : ∃ t, mg "MOST_LETTERS" = some (.int 8 t)
theorem word_ok {z : Str} (hz : isWord z) : PyData.canLay0 (.str z) = true := by
  change (z.cps.all (· < 0x110000)) = true
  rw [← Array.all_toList]
  rw [List.all_eq_true]
  intro c hc
  have := hz.2.2 c hc
  exact (decide_eq_true (by omega))
theorem letter_in {z : Str} {i c : Nat} (hz : isWord z) (h : z.cps[i]? = some c) : c ∈ (("abcdefghijklmnopqrstuvwxyz" : Str)).cps.toList := by
  have m : c ∈ z.cps.toList := by
    rw [← Array.getElem?_toList] at h
    exact List.mem_of_getElem? h
  obtain ⟨lo, hi⟩ := hz.2.2 c m
  rw [abc_eq, List.mem_map]
  exact ⟨c - 97, List.mem_range.2 (by omega), by omega⟩
theorem scIsBook : FnScope ["value", "letter"] ["value"] (defScope sIsBook) := ⟨rfl, rfl, rfl, by decide +kernel, rfl, by decide +kernel, by decide +kernel⟩
def spIsBook : Sp := fun vs H Q _ => ∃ z, vs = [.str z] ∧ isWord z ∧ ∀ H', Same H H' → Q (.bl true) H'
theorem ok_isBook {f : Addr} {fd : FuncData} (F : Fun K "is_book" "is_book" sIsBook f fd) (M : Md mg) : FnOk P w K mg base CX0 1 f fd ["value"] spIsBook := by
  obtain ⟨tL, gL⟩ := M.letters
  obtain ⟨tM, gM⟩ := M.most
  refine F.ok scIsBook (fun vs H Q E h => ?_) (fun cdv A outer s H vs Q E hr h => ?_)
  · obtain ⟨z, rfl, _⟩ := h
    rfl
  · obtain ⟨z, rfl, hz, q⟩ := h
    refine ⟨_, pss_cons (ps_if (PW.pt (pw_or (pt_not (pt_val (pe_callB call_isi (by rfl) M.isi boot_isi (pa_cons (pv 0) (pa_cons (pe_bltn (v := .ty "str") rfl M.str boot_strT rfl) pa_nil)))))
          (pw_or (pt_cmpR op_eq (pv 0) pe_str (nomark _)) (pw_or1 (pt_cmpR op_gt (pe_callB call_len_str (by rfl) M.len PySem.boot_len (pa_cons (pv 0) pa_nil)) (pe_glob (v := .int 8) rfl gM ⟨_, rfl⟩) (nomark _)))))) (pss_one (ps_ret pe_bl)) pss_nil)
      (pss_one (ps_ret (pe_callB (cr_all rfl) (by rfl) M.all boot_all (pa_cons (pe_lc (own := [("letter", 1)]) (g := gName 1) (tt := tYes) rfl scIsBook.nd (pi_str (pv 0)) (blkOk_by (N := ["value", "letter"]) (sc := defScope sIsBook) (by decide +kernel))
        (fun _ _ _ _ _ => pg_name (i := 1) scIsBook.nd rfl (Or.inl rfl)) (fun _ _ _ _ _ => pts_nil)
        (fun _ _ _ _ _ => pe_cmpR op_in_sign (pv 1) (pe_glob (v := .str "abcdefghijklmnopqrstuvwxyz") rfl gL ⟨_, rfl⟩) rfl)) pa_nil)))), ?_⟩
    refine ⟨_, rfl, _, _, _, _, _, rfl, .ty _, .base (.str _), kit_ty (by decide +kernel), true, rfl, iteF ?_⟩
    refine ⟨_, rfl, ?_⟩
    refine ⟨rfl, _, rfl, ?_⟩
    have ne : (V.str z = V.str "") = False := by
      simp only [V.str.injEq, eq_iff_iff, iff_false]
      rintro rfl
      exact absurd hz.1 (by decide)
    rw [decide_eq_false (of_eq_false ne)]
    refine iteF ⟨_, rfl, z, rfl, Nat.le_trans hz.2.1 (by decide +kernel), _, _, rfl, rfl, _, rfl, ?_⟩
    rw [decide_eq_false (by have := hz.2.1; omega)]
    refine iteF ?_
    refine ⟨_, rfl, _, rfl, fun D hD => ?_⟩
    refine lc_it (walk_str (z := z)) (fun i H' => H' D = some (.lst ((List.replicate i true).map V.bl)) ∧ Same H H') ⟨upd_same, same_upd hD⟩ (fun _ _ _ _ => trivial) ?_ ?_
    · rintro i x H1 H2 hi ⟨h1, h2⟩ ⟨rfl, c, hc, rfl⟩
      refine ⟨rfl, ?_⟩
      refine ⟨_, rfl, c, _, rfl, rfl, _, h1, by rw [List.length_map, List.length_replicate]; exact small1000 (by have : z.cps.size ≤ 8 := hz.2.1; omega), ?_, fun b o e => ?_⟩
      · rw [upd_same, decide_eq_true (letter_in hz hc)]
        simp [List.replicate_succ']
      · rw [upd_ne (ne_of_none e hD)]
        exact h2 _ _ e
    · rintro H1 ⟨h1, h2⟩
      refine ⟨D, List.replicate z.cps.size true, rfl, SqL.of h1, ?_⟩
      have e : (List.replicate z.cps.size true).all id = true := by simp
      rw [e]
      exact q _ h2
theorem op_in_seqK {X : Cx} {K : PySem.W.Frag} (hK : X.K = K) : OpR X (compareOp .In) (rIn K false) := by
  subst hK
  exact op_in_seq
/-! ### catalogues -/
theorem dp_strs {H : Hp} : ∀ xs : List Str, DpAll K H (xs.map V.str) (xs.map PyData.str)
  | [] => .nil
  | x :: r => .cons (.str x) (dp_strs r)
theorem lay_strs : ∀ xs : List Str, (∀ x ∈ xs, isWord x) → PyData.canLayAll0 (xs.map PyData.str) = true
  | [], _ => rfl
  | x :: r, h => by
    have one : PyData.canLay0 (.str x) = true := word_ok (h x List.mem_cons_self)
    simp only [List.map_cons, PyData.canLayAll0, one, lay_strs r fun y hy => h y (List.mem_cons_of_mem _ hy), Bool.and_true]
theorem deep_strs : ∀ xs : List Str, PyData.depthAll (xs.map PyData.str) ≤ 1
  | [] => Nat.zero_le _
  | x :: r => by
    have := deep_strs r
    simp only [PyData.depthAll, PyData.depth, List.map_cons]
    omega
theorem shaped_strs {xs : List Str} (h : ∀ x ∈ xs, isWord x) : SeqAt.shaped (.list (xs.map PyData.str)) = true := by
  have d := deep_strs xs
  simp only [SeqAt.shaped, PyData.canLay0, lay_strs xs h, PyData.depth, Bool.true_and, decide_eq_true_eq]
  exact decide_eq_true (show PyData.depthAll (xs.map PyData.str) + 1 ≤ 64 by omega)
theorem eqv_nil {xs : List Str} (h : xs ≠ []) : PyData.eqv (.list (xs.map PyData.str)) (.list []) = false := by
  cases xs with
  | nil => exact absurd rfl h
  | cons x r => rfl
theorem scIsCat : FnScope ["value", "book"] ["value"] (defScope sIsCat) := ⟨rfl, rfl, rfl, by decide +kernel, rfl, by decide +kernel, by decide +kernel⟩
def spIsCat : Sp := fun vs H Q _ => ∃ (l : Addr) (xs : List Str), vs = [.ref l] ∧ H l = some (.lst (xs.map V.str)) ∧ Cat xs ∧ ∀ H', Same H H' → Q (.bl true) H'
theorem ok_isCat {f g : Addr} {fd gd : FuncData} (F : Fun K "is_catalogue" "is_catalogue" sIsCat f fd) (M : Md mg) (G : FnOk P w K mg base CX0 1 g gd ["value"] spIsBook) (gG : mg "is_book" = some (.ref g)) (kG : PySem.W.keepIn K (.ref g) = true) (bG : Binds K gd ["value"] []) :
    FnOk P w K mg base CX0 2 f fd ["value"] spIsCat := by
  refine F.ok scIsCat (fun vs H Q E h => ?_) (fun cdv A outer s H vs Q E hr h => ?_)
  · obtain ⟨l, xs, rfl, _⟩ := h
    rfl
  · obtain ⟨l, xs, rfl, hl, ⟨ne, few, words, nd⟩, q⟩ := h
    refine ⟨_, pss_cons (ps_if (PW.pt (pw_or (pt_not (pt_val (pe_callB call_isi (by rfl) M.isi boot_isi (pa_cons (pv 0) (pa_cons (pe_bltn (v := .ty "list") rfl M.list boot_listT rfl) pa_nil)))))
          (pw_or1 (pt_cmpR (op_eqD hr.units) (pv 0) (pe_lst pa_nil) (nomark _))))) (pss_one (ps_ret pe_bl)) pss_nil)
      (pss_one (ps_ret (pe_and (pe_callB (cr_all rfl) (by rfl) M.all boot_all (pa_cons (pe_lc (own := [("book", 1)]) (g := gName 1) (tt := tYes) rfl scIsCat.nd (pi_list (pv 0)) (blkOk_by (N := ["value", "book"]) (sc := defScope sIsCat) (by decide +kernel))
        (fun _ _ _ _ _ => pg_name (i := 1) scIsCat.nd rfl (Or.inl rfl)) (fun _ _ _ _ _ => pts_nil)
        (fun _ _ _ _ _ => pe_call G hr rfl gG kG bG .nil pass0 (pa_cons (pv 1) pa_nil))) pa_nil))
        (pe_one (pe_cmpR op_eq (pe_lenSetT rfl (by rfl) M.len (by rfl) M.set (pv 0) (K := K)) (pe_callB call_len_seq (by rfl) M.len PySem.boot_len (pa_cons (pv 0) pa_nil)) (nomark _)))))), ?_⟩
    refine ⟨_, rfl, _, _, _, _, _, rfl, .ty _, .base (.lst hl), kit_ty (by decide +kernel), true, rfl, iteF ?_⟩
    refine ⟨_, rfl, Nat.zero_le _, fun e he => ?_⟩
    have s1 : Same H (upd H e (.lst [])) := same_upd he
    refine ⟨.list (xs.map PyData.str), .list [], .lst (SqL.of (s1 _ _ hl)) (dp_strs xs), .lst (SqL.of upd_same) .nil, shaped_strs words, by decide +kernel, _, rfl, ?_⟩
    rw [eqv_nil ne]
    refine iteF ?_
    generalize upd H e (.lst []) = H0 at s1
    refine ⟨_, rfl, l, rfl, ⟨_, SqL.of (s1 _ _ hl)⟩, fun D hD => ?_⟩
    refine lc_list (K := K) (a := l) (xs := xs.map V.str) (fun i H' => H' D = some (.lst ((List.replicate i true).map V.bl)) ∧ Same H0 H') ⟨upd_same, same_upd hD⟩ (fun i H' _ ⟨_, h2⟩ => SqL.of (h2 _ _ (s1 _ _ hl))) ?_ ?_
    · rintro i x H1 hx ⟨h1, h2⟩
      rw [List.getElem?_map] at hx
      obtain ⟨z, hz, rfl⟩ := Option.map_eq_some_iff.1 hx
      have lt := (List.getElem?_eq_some_iff.1 hz).1
      refine ⟨rfl, ?_⟩
      refine ⟨_, rfl, z, rfl, words z (List.mem_of_getElem? hz), fun H2 h3 => ?_⟩
      refine ⟨_, h3 _ _ h1, by rw [List.length_map, List.length_replicate]; exact small1000 (by omega), ?_, fun b o eb => ?_⟩
      · rw [upd_same]
        simp [List.replicate_succ']
      · rw [upd_ne (ne_of_none eb hD)]
        exact h3 _ _ (h2 _ _ eb)
    · rintro H1 ⟨h1, h2⟩
      refine ⟨D, List.replicate xs.length true, rfl, SqL.of (by rw [← List.length_map (f := V.str)]; exact h1), ?_⟩
      have ea : (List.replicate xs.length true).all id = true := by simp
      rw [ea]
      refine ⟨_, rfl, iteT ?_⟩
      have stands : SqL K H1 l (xs.map V.str) := SqL.of (h2 _ _ (s1 _ _ hl))
      refine ⟨_, rfl, l, xs, rfl, stands, by omega, _, rfl, l, _, rfl, .inl stands, rfl, ?_⟩
      have e2 : (V.int ((met xs xs.length : Nat) : Int) = V.int (((xs.map V.str).length : Nat) : Int)) := by rw [met_all nd xs.length Nat.le.refl, List.length_map]
      rw [decide_eq_true e2]
      exact q _ (s1.trans h2)
/-! ### lists of some of a catalogue's books -/
theorem flat_strs (xs : List Str) : (xs.map V.str).all flatV = true := by
  rw [List.all_eq_true]
  intro v hv
  obtain ⟨z, _, rfl⟩ := List.mem_map.1 hv
  rfl
theorem inV_strs (z : Str) : ∀ xs : List Str, inV (.str z) (xs.map V.str) = decide (z ∈ xs)
  | [] => by simp [inV]
  | x :: r => by
    have ih := inV_strs z r
    unfold inV at ih ⊢
    rw [List.map_cons, List.any_cons, ih]
    change (x == z || decide (z ∈ r)) = decide (z ∈ x :: r)
    by_cases e : x = z
    · simp [e]
    · have e' : ¬ z = x := fun q => e q.symm
      simp [e, e']
theorem scUnlike : FnScope ["books", "value", "book"] ["books", "value"] (defScope sUnlike) := ⟨rfl, rfl, rfl, by decide +kernel, rfl, by decide +kernel, by decide +kernel⟩
def spUnlike : Sp := fun vs H Q _ => ∃ (l m : Addr) (xs ys : List Str), vs = [.ref l, .ref m] ∧ H l = some (.lst (xs.map V.str)) ∧ H m = some (.lst (ys.map V.str)) ∧ xs.length ≤ 100 ∧ ys.length ≤ 100 ∧ (∀ y ∈ ys, y ∈ xs) ∧ ys.Nodup ∧ ∀ H', Same H H' → Q (.bl true) H'
theorem ok_unlike {f : Addr} {fd : FuncData} (F : Fun K "are_unlike_of" "are_unlike_of" sUnlike f fd) (M : Md mg) : FnOk P w K mg base CX0 1 f fd ["books", "value"] spUnlike := by
  refine F.ok scUnlike (fun vs H Q E h => ?_) (fun cdv A outer s H vs Q E hr h => ?_)
  · obtain ⟨l, m, xs, ys, rfl, _⟩ := h
    rfl
  · obtain ⟨l, m, xs, ys, rfl, hl, hm, few, few2, sub, nd, q⟩ := h
    refine ⟨_, pss_cons (ps_if (pt_not (pt_val (pe_callB call_isi (by rfl) M.isi boot_isi (pa_cons (pv 1) (pa_cons (pe_bltn (v := .ty "list") rfl M.list boot_listT rfl) pa_nil))))) (pss_one (ps_ret pe_bl)) pss_nil)
      (pss_one (ps_ret (pe_and (pe_callB (cr_all rfl) (by rfl) M.all boot_all (pa_cons (pe_lc (own := [("book", 2)]) (g := gName 2) (tt := tYes) rfl scUnlike.nd (pi_list (pv 1)) (blkOk_by (N := ["books", "value", "book"]) (sc := defScope sUnlike) (by decide +kernel))
        (fun _ _ _ _ _ => pg_name (i := 2) scUnlike.nd rfl (Or.inl rfl)) (fun _ _ _ _ _ => pts_nil)
        (fun _ _ _ _ _ => pe_cmpR (op_in_seqK (K := K) rfl) (pv 2) (pv 0) rfl)) pa_nil))
        (pe_one (pe_cmpR op_eq (pe_lenSetT rfl (by rfl) M.len (by rfl) M.set (pv 1) (K := K)) (pe_callB call_len_seq (by rfl) M.len PySem.boot_len (pa_cons (pv 1) pa_nil)) (nomark _)))))), ?_⟩
    refine ⟨_, rfl, _, _, _, _, _, rfl, .ty _, .base (.lst hm), kit_ty (by decide +kernel), true, rfl, iteF ?_⟩
    refine ⟨_, rfl, m, rfl, ⟨_, SqL.of hm⟩, fun D hD => ?_⟩
    refine lc_list (K := K) (a := m) (xs := ys.map V.str) (fun i H' => H' D = some (.lst ((List.replicate i true).map V.bl)) ∧ Same H H') ⟨upd_same, same_upd hD⟩ (fun i H' _ ⟨_, h2⟩ => SqL.of (h2 _ _ hm)) ?_ ?_
    · rintro i x H1 hx ⟨h1, h2⟩
      rw [List.getElem?_map] at hx
      obtain ⟨z, hz, rfl⟩ := Option.map_eq_some_iff.1 hx
      have lt := (List.getElem?_eq_some_iff.1 hz).1
      refine ⟨rfl, ?_⟩
      refine ⟨_, rfl, _, rfl, l, xs.map V.str, rfl, .inl (SqL.of (h2 _ _ hl)), rfl, flat_strs xs, ?_⟩
      rw [inV_strs, decide_eq_true (sub z (List.mem_of_getElem? hz))]
      refine ⟨_, h1, by rw [List.length_map, List.length_replicate]; exact small1000 (by omega), ?_, fun b o eb => ?_⟩
      · rw [upd_same]
        simp [List.replicate_succ']
      · rw [upd_ne (ne_of_none eb hD)]
        exact h2 _ _ eb
    · rintro H1 ⟨h1, h2⟩
      refine ⟨D, List.replicate ys.length true, rfl, SqL.of (by rw [← List.length_map (f := V.str)]; exact h1), ?_⟩
      have ea : (List.replicate ys.length true).all id = true := by simp
      rw [ea]
      refine ⟨_, rfl, iteT ?_⟩
      have stands : SqL K H1 m (ys.map V.str) := SqL.of (h2 _ _ hm)
      refine ⟨_, rfl, m, ys, rfl, stands, by omega, _, rfl, m, _, rfl, .inl stands, rfl, ?_⟩
      have e2 : (V.int ((met ys ys.length : Nat) : Int) = V.int (((ys.map V.str).length : Nat) : Int)) := by rw [met_all nd ys.length Nat.le.refl, List.length_map]
      rw [decide_eq_true e2]
      exact q _ h2
abbrev sRowOf : Stmt := top 16
theorem scRowOf : FnScope ["catalogue", "value"] ["catalogue", "value"] (defScope sRowOf) := ⟨rfl, rfl, rfl, by decide +kernel, rfl, by decide +kernel, by decide +kernel⟩
def spRowOf : Sp := fun vs H Q _ => ∃ (l m : Addr) (xs ys : List Str), vs = [.ref l, .ref m] ∧ H l = some (.lst (xs.map V.str)) ∧ H m = some (.lst (ys.map V.str)) ∧ Cat xs ∧ Row xs ys ∧ ∀ H', Same H H' → Q (.bl true) H'
theorem ok_rowOf {f g : Addr} {fd gd : FuncData} (F : Fun K "is_row_of" "is_row_of" sRowOf f fd) (M : Md mg)
    (G : FnOk P w K mg base CX0 1 g gd ["books", "value"] spUnlike) (mG : mg "are_unlike_of" = some (.ref g)) (kG : PySem.W.keepIn K (.ref g) = true) (bG : Binds K gd ["books", "value"] []) : FnOk P w K mg base CX0 2 f fd ["catalogue", "value"] spRowOf := by
  refine F.ok scRowOf (fun vs H Q E h => ?_) (fun cdv A outer s H vs Q E hr h => ?_)
  · obtain ⟨l, m, xs, ys, rfl, _⟩ := h
    rfl
  · obtain ⟨l, m, xs, ys, rfl, hl, hm, cat, row, q⟩ := h
    refine ⟨_, pss_one (ps_ret (pe_and (pe_call G (hr.mono (by decide)) rfl mG kG bG .nil pass0 (pa_cons (pv 0) (pa_cons (pv 1) pa_nil)))
      (pe_one (pe_cmpR op_eq (pe_callB call_len_seq (by rfl) M.len PySem.boot_len (pa_cons (pv 1) pa_nil)) (pe_callB call_len_seq (by rfl) M.len PySem.boot_len (pa_cons (pv 0) pa_nil)) (nomark _))))), ?_⟩
    refine ⟨_, rfl, _, rfl, l, m, xs, ys, rfl, hl, hm, cat.2.1, by rw [row.2.2]; exact cat.2.1, row.1, row.2.1, fun H2 s2 => ⟨_, rfl, iteT ?_⟩⟩
    refine ⟨_, rfl, m, _, rfl, .inl (SqL.of (s2 _ _ hm)), _, rfl, l, _, rfl, .inl (SqL.of (s2 _ _ hl)), rfl, ?_⟩
    rw [decide_eq_true (show V.int (((ys.map V.str).length : Nat) : Int) = V.int (((xs.map V.str).length : Nat) : Int) by rw [List.length_map, List.length_map, row.2.2])]
    exact q _ s2
end
/-! ### runturns.shelves: the class Shelf -/
def clsB : Stmt → List Stmt
  | .ClassDef _ _ _ b _ _ _ _ _ _ _ => b
  | _ => []
def inShelf (i : Nat) : Stmt := (clsB (top 17)).getD i (.Pass ⟨0, 0, 0, 0⟩)
abbrev sInit : Stmt := inShelf 0
abbrev sEq : Stmt := inShelf 1
abbrev sCats : Stmt := inShelf 2
abbrev sRow : Stmt := inShelf 3
/-- what the class at C says -/
structure ShC (K : PySem.W.Frag) (C fi fq fc fr : Addr) : Prop where
  makes : Mk K C fi
  cl : Cls K C
  noC : NoAttr K C "_catalogue"
  noR : NoAttr K C "_row"
  mc : Meth K C "catalogue" fc
  mr : Meth K C "row" fr
  eq : OE.EqC K C fq
  ha : PySem.W.findIn K (.ref C) "__class__" = some (some (Value.builtin "object.__class__"))
  hn : PySem.W.specialIn K (Value.builtin "object.__class__") "__get__" = some (some (.builtin "getset_descriptor.__get__"))
  ht : PySem.W.takesIn K (Value.builtin "object.__class__") = some true
  isS : PySem.W.kitOne K (.ref C) (.ref C) = some true
theorem _root_.TL.ShAt.mono {H H' : Hp} {C a : Addr} {xs ys : List Str} (e : Same H H') : ShAt H C a xs ys → ShAt H' C a xs ys := fun ⟨dx, c, r, h1, h2, h3⟩ => ⟨dx, c, r, e _ _ h1, e _ _ h2, e _ _ h3⟩
theorem none_under {H H' : Hp} {a : Addr} (e : Same H H') (h : H' a = none) : H a = none := by
  cases q : H a with
  | none => rfl
  | some o => rw [e _ _ q] at h; cases h
theorem _root_.TL.ShNew.at {H H' : Hp} {C a : Addr} {xs ys : List Str} : ShNew H H' C a xs ys → ShAt H' C a xs ys := fun ⟨dx, c, r, h1, h2, h3, _⟩ => ⟨dx, c, r, h1, h2, h3⟩
/-- what was there may have been changed since -/
theorem _root_.TL.ShNew.kept {H H' H2 : Hp} {C a : Addr} {xs ys : List Str} (ha : H a = none) (k : ∀ b o, H b = none → H' b = some o → H2 b = some o) : ShNew H H' C a xs ys → ShAt H2 C a xs ys := fun ⟨dx, c, r, h1, h2, h3, h4, h5⟩ => ⟨dx, c, r, k _ _ ha h1, k _ _ h4 h2, k _ _ h5 h3⟩
theorem _root_.TL.ShNew.mono {H H' H2 : Hp} {C a : Addr} {xs ys : List Str} (e : Same H' H2) : ShNew H H' C a xs ys → ShNew H H2 C a xs ys := fun ⟨dx, c, r, h1, h2, h3, h4, h5⟩ => ⟨dx, c, r, e _ _ h1, e _ _ h2, e _ _ h3, h4, h5⟩
section
variable {base : Heap} {mg : Str → Option Value} {K : PySem.W.Frag} {w : World} {P : Program} {C fi fq fc fr : Addr}
theorem scInit : FnScope ["self", "catalogue", "row"] ["self", "catalogue", "row"] (defScope sInit) := ⟨rfl, rfl, rfl, by decide +kernel, rfl, by decide +kernel, by decide +kernel⟩
theorem ok_init {g1 g2 : Addr} {gd1 gd2 : FuncData} {fd : FuncData} (F : Fun K "__init__" "Shelf.__init__" sInit fi fd) (M : Md mg) (T : ShC K C fi fq fc fr)
    (G1 : FnOk P w K mg base CX0 2 g1 gd1 ["value"] spIsCat) (m1 : mg "is_catalogue" = some (.ref g1)) (k1 : PySem.W.keepIn K (.ref g1) = true) (b1 : Binds K gd1 ["value"] [])
    (G2 : FnOk P w K mg base CX0 2 g2 gd2 ["catalogue", "value"] spRowOf) (m2 : mg "is_row_of" = some (.ref g2)) (k2 : PySem.W.keepIn K (.ref g2) = true) (b2 : Binds K gd2 ["catalogue", "value"] []) :
    FnOk P w K mg base CX0 3 fi fd ["self", "catalogue", "row"] (spInit C) := by
  refine F.ok scInit (fun vs H Q E h => ?_) (fun cdv A outer s H vs Q E hr h => ?_)
  · obtain ⟨a, dx, l, m, xs, ys, rfl, _⟩ := h
    rfl
  · obtain ⟨a, dx, l, m, xs, ys, rfl, ha, hdx, hl, hm, cat, row, q⟩ := h
    refine ⟨_, pss_cons (ps_if (pt_not (pt_val (pe_call G1 hr rfl m1 k1 b1 .nil pass0 (pa_cons (pv 1) pa_nil)))) pss_never pss_nil)
      (pss_cons (ps_if (pt_not (pt_val (pe_call G2 hr rfl m2 k2 b2 .nil pass0 (pa_cons (pv 1) (pa_cons (pv 2) pa_nil))))) pss_never pss_nil)
      (pss_cons (ps_fld (pv 0) (pe_callTy call_list_of (by rfl) M.list boot_listT (pa_cons (pv 1) pa_nil)) rfl)
      (pss_one (ps_fld (pv 0) (pe_callTy call_list_of (by rfl) M.list boot_listT (pa_cons (pv 2) pa_nil)) rfl)))), ?_⟩
    refine ⟨_, rfl, l, xs, rfl, hl, cat, fun H1 s1 => ⟨true, rfl, iteF ?_⟩⟩
    refine ⟨_, rfl, _, rfl, l, m, xs, ys, rfl, s1 _ _ hl, s1 _ _ hm, cat, row, fun H2 s2 => ⟨true, rfl, iteF ?_⟩⟩
    have s02 := s1.trans s2
    have ha2 := s02 _ _ ha
    have hl2 := s02 _ _ hl
    have hm2 := s02 _ _ hm
    refine ⟨_, rfl, l, _, rfl, .inl (SqL.of hl2), fun c nc => ?_⟩
    have nca : a ≠ c := ne_of_none ha2 nc
    refine ⟨_, rfl, a, C, dx, [], rfl, by rw [upd_ne nca]; exact ha2, T.cl, T.noC, (by decide), ?_⟩
    have nma : m ≠ a := ne_of hm2 ha2 (by intro z; cases z)
    have nmc : m ≠ c := ne_of_none hm2 nc
    refine ⟨_, rfl, m, _, rfl, .inl (SqL.of (by rw [upd_ne nma, upd_ne nmc]; exact hm2)), fun r nr => ?_⟩
    have nra : a ≠ r := ne_of_none upd_same nr
    have ncr : c ≠ r := ne_of_none (o := .lst (xs.map V.str)) (by rw [upd_ne nca.symm]; exact upd_same) nr
    refine ⟨_, rfl, a, C, dx, [("_catalogue", .ref c)], rfl, by rw [upd_ne nra]; exact upd_same, T.cl, T.noR, (show 1 < 1000 by decide), ?_⟩
    have nr2 : H2 r = none := by
      rw [upd_ne nra.symm, upd_ne ncr.symm] at nr
      exact nr
    refine q _ (fun b o nb e => ?_) ⟨dx, c, r, upd_same, ?_, ?_, none_under s02 nc, none_under s02 nr2⟩
    · have e2 := s02 _ _ e
      have nbc : b ≠ c := ne_of_none e2 nc
      have nbr : b ≠ r := ne_of_none (o := o) (by rw [upd_ne nb, upd_ne nbc]; exact e2) nr
      rw [upd_ne nb, upd_ne nbr, upd_ne nb, upd_ne nbc]
      exact e2
    · rw [upd_ne nca.symm, upd_ne ncr, upd_ne nca.symm]
      exact upd_same
    · rw [upd_ne nra.symm]
      exact upd_same
/-! ### its methods -/
theorem scCats : FnScope ["self"] ["self"] (defScope sCats) := ⟨rfl, rfl, rfl, by decide +kernel, rfl, by decide +kernel, by decide +kernel⟩
theorem scRow : FnScope ["self"] ["self"] (defScope sRow) := ⟨rfl, rfl, rfl, by decide +kernel, rfl, by decide +kernel, by decide +kernel⟩
/-- a new list of it: l tells which -/
def spNew (C : Addr) (l : List Str → List Str → List Str) : Sp := fun vs H Q _ => ∃ (a : Addr) (xs ys : List Str), vs = [.ref a] ∧ ShAt H C a xs ys ∧ ∀ p, H p = none → Q (.ref p) (upd H p (.lst ((l xs ys).map V.str)))
theorem ok_cats {fd : FuncData} (F : Fun K "catalogue" "Shelf.catalogue" sCats fc fd) (M : Md mg) (T : ShC K C fi fq fc fr) : FnOk P w K mg base CX0 1 fc fd ["self"] (spNew C fun xs _ => xs) := by
  refine F.ok scCats (fun vs H Q E h => ?_) (fun cdv A outer s H vs Q E hr h => ?_)
  · obtain ⟨a, xs, ys, rfl, _⟩ := h
    rfl
  · obtain ⟨a, xs, ys, rfl, ⟨dx, c, r, ha, hc, hr'⟩, q⟩ := h
    refine ⟨_, pss_one (ps_ret (pe_callTy call_list_of (by rfl) M.list boot_listT (pa_cons (pe_fld (pv 0) rfl) pa_nil))), ?_⟩
    exact ⟨_, rfl, a, C, dx, _, _, rfl, ha, T.cl, T.noC, rfl, c, _, rfl, .inl (SqL.of hc), fun p np => q p np⟩
theorem ok_row {fd : FuncData} (F : Fun K "row" "Shelf.row" sRow fr fd) (M : Md mg) (T : ShC K C fi fq fc fr) : FnOk P w K mg base CX0 1 fr fd ["self"] (spNew C fun _ ys => ys) := by
  refine F.ok scRow (fun vs H Q E h => ?_) (fun cdv A outer s H vs Q E hr h => ?_)
  · obtain ⟨a, xs, ys, rfl, _⟩ := h
    rfl
  · obtain ⟨a, xs, ys, rfl, ⟨dx, c, r, ha, hc, hr'⟩, q⟩ := h
    refine ⟨_, pss_one (ps_ret (pe_callTy call_list_of (by rfl) M.list boot_listT (pa_cons (pe_fld (pv 0) rfl) pa_nil))), ?_⟩
    exact ⟨_, rfl, a, C, dx, _, _, rfl, ha, T.cl, T.noR, rfl, r, _, rfl, .inl (SqL.of hr'), fun p np => q p np⟩
/-! ### == of it -/
theorem eqv_strs : ∀ xs ys : List Str, PyData.eqvAll (xs.map PyData.str) (ys.map PyData.str) = decide (xs = ys)
  | [], [] => rfl
  | [], y :: r => rfl
  | x :: r, [] => rfl
  | x :: r, y :: q => by
    simp only [List.map_cons, PyData.eqvAll, PyData.eqv, eqv_strs r q]
    by_cases e : x = y
    · simp [e]
    · simp [e]
theorem scEq : FnScope ["self", "other"] ["self", "other"] (defScope sEq) := ⟨rfl, rfl, rfl, by decide +kernel, rfl, by decide +kernel, by decide +kernel⟩
theorem ok_eq {fd : FuncData} (F : Fun K "__eq__" "Shelf.__eq__" sEq fq fd) (M : Md mg) (gS : mg "Shelf" = some (.ref C)) (T : ShC K C fi fq fc fr) : FnOk P w K mg base CX0 1 fq fd ["self", "other"] (OE.spB (EqR K C)) := by
  refine F.ok scEq (fun vs H Q E h => ?_) (fun cdv A outer s H vs Q E hr h => ?_)
  · obtain ⟨a, y, b, rfl, _⟩ := h
    rfl
  · obtain ⟨a, y, b, rfl, ⟨xs, ys, ⟨dx, c, r, ha, hc, hr'⟩, w1, w2, alt⟩, q⟩ := h
    have hu : A.units + 3 + 64 < cLine := hr.units
    refine ⟨_, pss_one (ps_ret (pe_and (pe_callB call_isi (by rfl) M.isi boot_isi (pa_cons (pv 1) (pa_cons (pe_glob (v := .ref C) rfl gS rfl) pa_nil)))
      (pe_and (pe_cmpR (op_eqD hu) (pe_fld (pv 0) rfl) (pe_fld (pv 1) rfl) (nomark _)) (pe_one (pe_cmpR (op_eqD hu) (pe_fld (pv 0) rfl) (pe_fld (pv 1) rfl) (nomark _)))))), ?_⟩
    rcases alt with ⟨a', xs', ys', rfl, ⟨dx', c', r', ha', hc', hr2⟩, w3, w4, rfl⟩ | ⟨t, ty, no, rfl⟩
    · refine ⟨_, rfl, _, _, _, _, _, rfl, .own _, .base (.ins ha' T.cl T.ha T.hn T.ht T.eq.ob), T.isS, true, rfl, iteT ?_⟩
      refine ⟨_, rfl, a, C, dx, _, _, rfl, ha, T.cl, T.noC, rfl, _, rfl, a', C, dx', _, _, rfl, ha', T.cl, T.noC, rfl, ?_⟩
      refine ⟨_, _, .lst (SqL.of hc) (dp_strs xs), .lst (SqL.of hc') (dp_strs xs'), shaped_strs w1, shaped_strs w3, _, rfl, ?_⟩
      change (if PyData.eqvAll (xs.map PyData.str) (xs'.map PyData.str) = true then _ else _)
      rw [eqv_strs]
      by_cases e : xs = xs'
      · rw [decide_eq_true e] at q ⊢
        refine iteT ⟨_, rfl, a, C, dx, _, _, rfl, ha, T.cl, T.noR, rfl, _, rfl, a', C, dx', _, _, rfl, ha', T.cl, T.noR, rfl, ?_⟩
        refine ⟨_, _, .lst (SqL.of hr') (dp_strs ys), .lst (SqL.of hr2) (dp_strs ys'), shaped_strs w2, shaped_strs w4, ?_⟩
        change Q (V.bl (PyData.eqvAll (ys.map PyData.str) (ys'.map PyData.str))) H
        rw [eqv_strs]
        simpa using q
      · rw [decide_eq_false e] at q ⊢
        exact iteF (by simpa using q)
    · refine ⟨_, rfl, _, _, _, _, _, rfl, .own _, ty, no, false, rfl, iteF q⟩
end
/-! ### runturns.shelves: ranks, places, entries -/
abbrev sCheck : Stmt := top 18
abbrev sRanks : Stmt := top 19
/-- book by book its entry, from k on -/
def ent : List Str → Nat → List (Key × V)
  | [], _ => []
  | x :: r, k => (.inr x, .int (k : Int)) :: ent r (k + 1)
theorem ent_len : ∀ (xs : List Str) (k : Nat), (ent xs k).length = xs.length
  | [], _ => rfl
  | x :: r, k => congrArg Nat.succ (ent_len r (k + 1))
theorem ent_app : ∀ (xs : List Str) (y : Str) (k : Nat), ent (xs ++ [y]) k = ent xs k ++ [(.inr y, .int ((k + xs.length : Nat) : Int))]
  | [], y, k => rfl
  | x :: r, y, k => by
    simp only [List.cons_append, ent, ent_app r y (k + 1), List.length_cons]
    rw [show k + 1 + r.length = k + (r.length + 1) from by omega]
theorem ent_keys : ∀ (xs : List Str) (k : Nat) (p : Key × V), p ∈ ent xs k → ∃ x ∈ xs, p.1 = .inr x
  | x :: r, k, p, h => by
    rcases List.mem_cons.1 h with e | e
    · exact ⟨x, List.mem_cons_self, by rw [e]⟩
    · obtain ⟨z, hz, e2⟩ := ent_keys r (k + 1) p e
      exact ⟨z, List.mem_cons_of_mem _ hz, e2⟩
theorem ent_put {xs : List Str} {y : Str} (h : y ∉ xs) (v : V) : putK (ent xs 0) (.inr y) v = ent xs 0 ++ [(.inr y, v)] := by
  unfold putK
  rw [if_neg]
  intro e
  obtain ⟨p, hp, e⟩ := List.any_eq_true.1 e
  obtain ⟨x, hx, ex⟩ := ent_keys xs 0 p hp
  rw [ex] at e
  exact h (by have := of_decide_eq_true e; injection this with z; exact z ▸ hx)
theorem ent_val : ∀ (xs : List Str) (k : Nat) (y : Str), y ∈ xs → valV (ent xs k) (.inr y) = some (.int ((k + xs.idxOf y : Nat) : Int))
  | x :: r, k, y, h => by
    by_cases e : x = y
    · subst e
      simp [valV, ent]
    · have hr : y ∈ r := (List.mem_cons.1 h).resolve_left fun z => e z.symm
      have ih := ent_val r (k + 1) y hr
      have ix : (x :: r).idxOf y = r.idxOf y + 1 := by simp [List.idxOf_cons, show (x == y) = false from by simpa using e]
      rw [ix, show k + (r.idxOf y + 1) = k + 1 + r.idxOf y from by omega, ← ih]
      simp [valV, ent, List.find?_cons, e]
/-- a dict comprehension over any walk -/
theorem dc_it {J : It} {n : Nat} {G : Hp → Prop} {Y : Nat → Hp → V → Hp → Prop} (w : Walk J n G Y) {g : TG} {tt : TT} {tk tv : TE} {vs : List Nat} {σ : L2.St} {H1 : Hp} {D : Addr} {Qd : Hp → Prop} (Pv : Nat → Hp → Prop) (start_ : Pv 0 (upd H1 D (.dK [])))
    (while_ : ∀ i H, i ≤ n → Pv i H → G H)
    (turn : ∀ i x H H', i < n → Pv i H → Y i H x H' → g x (wipe σ vs) H' fun σ2 H2 => wipe σ2 vs = wipe σ vs ∧ tt σ2 H2 fun b H3 =>
      if b = true then tk σ2 H3 fun y H4 => tv σ2 H4 fun z H5 => ∃ kvs k, y = kV k ∧ H5 D = some (.dK kvs) ∧ kvs.length < sizeLine ∧ Pv (i + 1) (upd H5 D (.dK (putK kvs k z))) else Pv (i + 1) H3) (after : ∀ H, Pv n H → Qd H) :
    ∃ W : Nat → Nat → Hp → Prop, (∃ k, W 0 k (upd H1 D (.dK []))) ∧ ∀ i m H, W i m H →
      (J.stop i H ∧ Qd H) ∨ (J.go i H ∧ ∃ More : Hp → Prop, (∀ H', More H' → ∃ m', m' < m ∧ W (i + 1) m' H') ∧ ∀ x H', J.yld i H x H' → g x (wipe σ vs) H' fun σ2 H2 => wipe σ2 vs = wipe σ vs ∧ tt σ2 H2 fun b H3 =>
        if b = true then tk σ2 H3 fun y H4 => tv σ2 H4 fun z H5 => ∃ kvs k, y = kV k ∧ H5 D = some (.dK kvs) ∧ kvs.length < sizeLine ∧ More (upd H5 D (.dK (putK kvs k z))) else More H3) := by
  refine ⟨fun i m H => i + m = n ∧ Pv i H, ⟨n, Nat.zero_add n, start_⟩, fun i m H ⟨e, p⟩ => ?_⟩
  rcases Nat.eq_zero_or_pos m with z | z
  · have last : i = n := by omega
    subst last
    exact .inl ⟨w.stops H (while_ i H Nat.le.refl p), after H p⟩
  · have lt : i < n := by omega
    have g' := while_ i H (by omega) p
    exact .inr ⟨w.goes i H lt g', Pv (i + 1), fun H' p' => ⟨m - 1, by omega, by omega, p'⟩, fun x H' y => turn i x H H' lt p (w.yields i H x H' lt g' y)⟩
section
variable {base : Heap} {mg : Str → Option Value} {K : PySem.W.Frag} {w : World} {P : Program} {C fi fq fc fr : Addr}
theorem scCheck : FnScope ["shelf"] ["shelf"] (defScope sCheck) := ⟨rfl, rfl, rfl, by decide +kernel, rfl, by decide +kernel, by decide +kernel⟩
def spCheck (C : Addr) : Sp := fun vs H Q _ => ∃ (a : Addr) (xs ys : List Str), vs = [.ref a] ∧ ShAt H C a xs ys ∧ Q .non H
theorem ok_check {f : Addr} {fd : FuncData} (F : Fun K "check_shelf" "check_shelf" sCheck f fd) (M : Md mg) (gS : mg "Shelf" = some (.ref C)) (T : ShC K C fi fq fc fr) : FnOk P w K mg base CX0 1 f fd ["shelf"] (spCheck C) := by
  refine F.ok scCheck (fun vs H Q E h => ?_) (fun cdv A outer s H vs Q E hr h => ?_)
  · obtain ⟨a, xs, ys, rfl, _⟩ := h
    rfl
  · obtain ⟨a, xs, ys, rfl, ⟨dx, c, r, ha, hc, hr'⟩, q⟩ := h
    refine ⟨_, pss_one (ps_if (pt_not (pt_val (pe_callB call_isi (by rfl) M.isi boot_isi (pa_cons (pv 0) (pa_cons (pe_glob (v := .ref C) rfl gS rfl) pa_nil))))) pss_never pss_nil), ?_⟩
    exact ⟨_, rfl, _, _, _, _, _, rfl, .own _, .base (.ins ha T.cl T.ha T.hn T.ht T.eq.ob), T.isS, true, rfl, iteF q⟩
theorem scRanks : FnScope ["shelf", "entries", "entry", "book"] ["shelf"] (defScope sRanks) := ⟨rfl, rfl, rfl, by decide +kernel, rfl, by decide +kernel, by decide +kernel⟩
def spRanks (C : Addr) : Sp := fun vs H Q _ => ∃ (a : Addr) (xs ys : List Str), vs = [.ref a] ∧ ShAt H C a xs ys ∧ Cat xs ∧ Row xs ys ∧ ∀ H' p, Same H H' → H p = none → H' p = some (.lst ((rnk xs ys).map V.int)) → Q (.ref p) H'
theorem ok_ranks {f g : Addr} {fd gd fdc fdr : FuncData} (F : Fun K "ranks" "ranks" sRanks f fd) (M : Md mg) (T : ShC K C fi fq fc fr) (en : mg "enumerate" = none)
    (G : FnOk P w K mg base CX0 1 g gd ["shelf"] (spCheck C)) (mG : mg "check_shelf" = some (.ref g)) (kG : PySem.W.keepIn K (.ref g) = true) (bG : Binds K gd ["shelf"] [])
    (Gc : FnOk P w K mg base CX0 1 fc fdc ["self"] (spNew C fun xs _ => xs)) (bc : Binds K fdc ["self"] []) (Gr : FnOk P w K mg base CX0 1 fr fdr ["self"] (spNew C fun _ ys => ys)) (br : Binds K fdr ["self"] []) :
    FnOk P w K mg base CX0 2 f fd ["shelf"] (spRanks C) := by
  refine F.ok scRanks (fun vs H Q E h => ?_) (fun cdv A outer s H vs Q E hr h => ?_)
  · obtain ⟨a, xs, ys, rfl, _⟩ := h
    rfl
  · obtain ⟨a, xs, ys, rfl, sh, cat, row, q⟩ := h
    have hu : A.units + 3 + 1 < cLine := by have := hr.units; have e : (A.deeper (envOfC "ranks" (defScope sRanks) s.heap.objs.size f cdv)).units = A.units + 3 := rfl; omega
    refine ⟨_, pss_cons (ps_expr (pe_call G hr rfl mG kG bG .nil pass0 (pa_cons (pv 0) pa_nil)))
      (pss_cons (ps_set (i := 1) scRanks.nd rfl (Or.inr rfl) (pe_dc (own := [("entry", 2), ("book", 3)]) (g := gTup K 2 (gCons (gName 2) (gCons (gName 3) gNil))) (tt := tYes) rfl scRanks.nd
          (pi_enum rfl en (pa_cons (pe_meth0 (pv 0) T.cl T.mc Gc hr bc .nil pass0) pa_nil)) (blkOk_by (N := ["shelf", "entries", "entry", "book"]) (sc := defScope sRanks) (by decide +kernel))
          (fun _ _ _ _ _ => pg_tup rfl (pgs_cons (pg_name (i := 2) scRanks.nd rfl (Or.inl rfl)) (pgs_cons (pg_name (i := 3) scRanks.nd rfl (Or.inl rfl)) pgs_nil))) (fun _ _ _ _ _ => pts_nil)
          (fun _ _ _ _ _ => pv 3) (fun _ _ _ _ _ => pv 2)))
      (pss_one (ps_ret (pe_lc (own := [("book", 3)]) (g := gName 3) (tt := tYes) rfl scRanks.nd (pi_list (pe_meth0 (pv 0) T.cl T.mr Gr hr br .nil pass0)) (blkOk_by (N := ["shelf", "entries", "entry", "book"]) (sc := defScope sRanks) (by decide +kernel))
          (fun _ _ _ _ _ => pg_name (i := 3) scRanks.nd rfl (Or.inl rfl)) (fun _ _ _ _ _ => pts_nil)
          (fun _ _ _ _ _ => pe_dget hu (pv 1) (pv 3) (fun _ _ => rfl)))))), ?_⟩
    obtain ⟨dx, c, r, ha, hc, hr'⟩ := id sh
    refine ⟨_, rfl, a, xs, ys, rfl, sh, ?_⟩
    refine ⟨_, rfl, a, dx, _, rfl, ha, rfl, a, xs, ys, rfl, sh, fun l nl => ?_⟩
    have s1 : Same H (upd H l (.lst (xs.map V.str))) := same_upd nl
    have hl : (upd H l (.lst (xs.map V.str))) l = some (.lst (xs.map V.str)) := upd_same
    generalize upd H l (.lst (xs.map V.str)) = H1 at s1 hl
    refine ⟨l, _, rfl, SqL.of hl, fun D hD => ?_⟩
    refine dc_it (walk_enum (K := K) (a := l) (xs := xs.map V.str)) (fun i H' => H' D = some (.dK (ent (xs.take i) 0)) ∧ Same H1 H') ⟨upd_same, same_upd hD⟩ (fun i H' _ ⟨_, h2⟩ => SqL.of (h2 _ _ hl)) ?_ ?_
    · rintro i x H2 H3 hi ⟨h1, h2⟩ ⟨t, u, v, rfl, nt, rfl, eu, ev⟩
      rw [List.length_map] at hi
      have hi' : xs[i]? = some xs[i] := List.getElem?_eq_getElem hi
      change some (V.int ((i : Nat) : Int)) = some u at eu
      change (xs.map V.str)[i]? = some v at ev
      rw [List.getElem?_map, hi'] at ev
      obtain rfl := Option.some.inj ev
      obtain rfl := Option.some.inj eu
      have nDt : D ≠ t := ne_of_none h1 nt
      have new : xs[i] ∉ xs.take i := fun z => by
        have u' : (xs.take (i + 1)).Nodup := cat.2.2.2.sublist (List.take_sublist _ _)
        rw [List.take_succ, hi', List.nodup_append] at u'
        exact u'.2.2 _ z _ (List.mem_singleton_self _) rfl
      refine ⟨t, _, rfl, .inl (.inl upd_same), rfl, _, _, rfl, _, _, rfl, rfl, rfl, ?_⟩
      refine ⟨_, rfl, _, rfl, _, .inr xs[i], rfl, by rw [upd_ne nDt]; exact h1, by rw [ent_len]; exact small1000 (by have := cat.2.1; rw [List.length_take]; omega), ?_, fun b o eb => ?_⟩
      · rw [upd_same, ent_put new, List.take_succ, hi']
        simp only [Option.toList, ent_app, List.length_take, Nat.zero_add]
        rw [Nat.min_eq_left (by omega)]
      · have nb : b ≠ D := ne_of_none eb hD
        have e2 := h2 _ _ eb
        rw [upd_ne nb, upd_ne (ne_of_none e2 nt)]
        exact e2
    · rintro H2 ⟨h1, h2⟩
      rw [List.length_map, List.take_length] at h1
      have s2 : Same H H2 := s1.trans h2
      obtain ⟨e1, e2, e3⟩ := (⟨s2 _ _ ha, s2 _ _ hc, s2 _ _ hr'⟩ : _ ∧ _ ∧ _)
      refine ⟨_, rfl, a, dx, _, rfl, e1, rfl, a, xs, ys, rfl, sh.mono s2, fun m nm => ?_⟩
      have s3 : Same H2 (upd H2 m (.lst (ys.map V.str))) := same_upd nm
      have hm : (upd H2 m (.lst (ys.map V.str))) m = some (.lst (ys.map V.str)) := upd_same
      refine ⟨m, rfl, ⟨_, SqL.of hm⟩, fun p np => ?_⟩
      change ∃ W : Nat → Nat → Hp → Prop, _
      dsimp only at np ⊢
      generalize upd H2 m (.lst (ys.map V.str)) = H3 at s3 hm np ⊢
      have s03 := s2.trans s3
      refine lc_list (K := K) (a := m) (xs := ys.map V.str) (fun i H' => H' p = some (.lst ((rnk xs (ys.take i)).map V.int)) ∧ Same H3 H') ⟨upd_same, same_upd np⟩ (fun i H' _ ⟨_, h2⟩ => SqL.of (h2 _ _ hm)) ?_ ?_
      · rintro i x H4 hx ⟨g1, g2⟩
        rw [List.getElem?_map] at hx
        obtain ⟨z, hz, rfl⟩ := Option.map_eq_some_iff.1 hx
        have lt := (List.getElem?_eq_some_iff.1 hz).1
        refine ⟨rfl, ?_⟩
        have hd4 : H4 D = some (.dK (ent xs 0)) := g2 _ _ (s3 _ _ h1)
        have val := ent_val xs 0 z (row.1 z (List.mem_of_getElem? hz))
        have get := DGet.k (k := Sum.inr z) hd4
        rw [val] at get
        refine ⟨_, rfl, _, rfl, D, _, rfl, get, ?_⟩
        refine ⟨_, g1, by rw [List.length_map, rnk, List.length_map, List.length_take]; exact small1000 (by have := cat.2.1; have := row.2.2; omega), ?_, fun b o eb => ?_⟩
        · rw [upd_same, List.take_succ, hz]
          simp [rnk]
        · rw [upd_ne (ne_of_none eb np)]
          exact g2 _ _ eb
      · rintro H4 ⟨g1, g2⟩
        rw [List.length_map, List.take_length] at g1
        exact q H4 p (s03.trans g2) (by
          cases e : H p with
          | none => rfl
          | some o => rw [s03 _ _ e] at np; cases np) g1
end
end LW
end
-- RB
section
set_option Elab.async false
set_option linter.all false
set_option maxRecDepth 100000
set_option maxHeartbeats 4100000
namespace TL
open L2 PyProof.Rows PySem
/-- a draw of more, in two -/
def S_drawW : ST := fun ds n R => ∃ m : Nat, ds = [.purse, .int m] ∧ 1 ≤ m ∧ m < 2 ^ 29 ∧ 2 ≤ n ∧ ∀ r : Nat, r < m → R (.val (.int r)) (n - 2)
end TL
/-! ### what the raw promises say by trees -/
namespace LW
variable [TL.Tb]
open L2 PyProof.Rows PySem PySem.Spec TS TL
theorem tabs_ne {T : List (Addr × Str)} {H : Hp} {a : Addr} {o : HO} (t : LamX.Tabs T H) (h : H a = some o) (n : ∀ ps, o ≠ .tbl ps) : ∀ q ∈ T, q.1 ≠ a := fun q hq e => by
  obtain ⟨ps, h1, _⟩ := t q hq
  rw [e, h] at h1
  exact n ps (Option.some.inj h1)
/-- a def of the module's -/
def RawF (K : PySem.W.Frag) (mg : Str → Option Value) (x : Str) (st : Stmt) : Prop := ∃ f fd, mg x = some (.ref f) ∧ Fun K x x st f fd
section
variable (P : Program) (w : World) (K : PySem.W.Frag) (mg : Str → Option Value) (base : Heap) (C : Addr)
/-- the class of shelves and its defs -/
structure ShL : Prop where
  x : ∃ (fi fq fc fr : Addr) (fdi fdq fdc fdr : FuncData), ShC K C fi fq fc fr ∧ mg "Shelf" = some (.ref C) ∧ FnOk P w K mg base CX0 3 fi fdi ["self", "catalogue", "row"] (spInit C) ∧ Binds K fdi ["self", "catalogue", "row"] [] ∧ FnOk P w K mg base CX0 1 fq fdq ["self", "other"] (OE.spB (EqR K C)) ∧ Binds K fdq ["self", "other"] [] ∧
    FnOk P w K mg base CX0 1 fc fdc ["self"] (spOf C [true] S_catalogue) ∧ Binds K fdc ["self"] [] ∧ FnOk P w K mg base CX0 1 fr fdr ["self"] (spOf C [true] S_row) ∧ Binds K fdr ["self"] [] ∧ IsC K C
end
section
variable {P : Program} {w : World} {K : PySem.W.Frag} {mg : Str → Option Value} {base : Heap} {C : Addr}
theorem has_no {k : Nat} {x : Str} {st : Stmt} {N ps : List Str} {ks : List Bool} (r : RawF K mg x st) (b : ∀ {f : Addr} {fd : FuncData}, Fun K x x st f fd → Binds K fd ps []) : Has P w K mg base C k x ps ks (fun _ _ _ => False) := by
  obtain ⟨f, fd, m, F⟩ := r
  exact ⟨f, fd, ⟨fun vs H Q E h => by obtain ⟨_, _, _, _, _, _, _, _, _, h, _⟩ := h; exact h.elim, fun A outer s H args us vs Q E _ _ _ _ h => by obtain ⟨_, _, _, _, _, _, _, _, _, h, _⟩ := h; exact h.elim⟩, m, F.kp, b F⟩
theorem conv_draw {k : Nat} {f : Addr} {fd : FuncData} {ps : List Str} (F : FnOk P w K mg base CX0 k f fd ps spDraw) : FnOk P w K mg base CX0 k f fd ps (spOf C [true, true] S_draw) := by
  refine F.imp fun vs H Q E h => ?_
  obtain ⟨p, W, n, ds, R, dom, pw, pa, ar, ⟨m, rfl, h1, h2, h3, hk⟩, q⟩ := h
  obtain ⟨v, u, rfl, hv, hu⟩ := ar.a2
  obtain ⟨a, rfl, hpu⟩ := hv.purse
  obtain ⟨pa, tb⟩ := pa
  rw [hpu] at pa
  obtain ⟨b, hP, hb⟩ := pa
  have ha := hP
  obtain ⟨_, _, _, _, ha, _⟩ := ha
  refine ⟨a, m, b, by rw [hu.int], h1, by omega, hP, by omega, fun H' r hr hP' hc => ?_⟩
  rw [show dks m = 1 from if_pos h2] at hP'
  exact q _ H' (.val (.int r)) (n - 1) (fun c o nc e => (hc c fun z => nc (.inl (by rw [z]; exact hpu))).trans e) ⟨by rw [hpu]; exact ⟨b + 1, hP', by omega⟩, tabs_put tb (tabs_ne tb ha (by simp)) ha (by simp) fun c o nc e => (hc c nc).trans e⟩ (rfl : V.int r = V.int r) (hk r hr)
theorem conv_drawW {k : Nat} {f : Addr} {fd : FuncData} {ps : List Str} (F : FnOk P w K mg base CX0 k f fd ps spDraw) : FnOk P w K mg base CX0 k f fd ps (spOf C [true, true] S_drawW) := by
  refine F.imp fun vs H Q E h => ?_
  obtain ⟨p, W, n, ds, R, dom, pw, pa, ar, ⟨m, rfl, h1, h2, h3, hk⟩, q⟩ := h
  obtain ⟨v, u, rfl, hv, hu⟩ := ar.a2
  obtain ⟨a, rfl, hpu⟩ := hv.purse
  obtain ⟨pa, tb⟩ := pa
  rw [hpu] at pa
  obtain ⟨b, hP, hb⟩ := pa
  have ha := hP
  obtain ⟨_, _, _, _, ha, _⟩ := ha
  refine ⟨a, m, b, by rw [hu.int], h1, by omega, hP, by omega, fun H' r hr hP' hc => ?_⟩
  have dk : dks m ≤ 2 := by unfold dks; split <;> decide
  exact q _ H' (.val (.int r)) (n - 2) (fun c o nc e => (hc c fun z => nc (.inl (by rw [z]; exact hpu))).trans e) ⟨by rw [hpu]; exact ⟨b + dks m, hP', by omega⟩, tabs_put tb (tabs_ne tb ha (by simp)) ha (by simp) fun c o nc e => (hc c nc).trans e⟩ (rfl : V.int r = V.int r) (hk r hr)
theorem conv_word {k : Nat} {f : Addr} {fd : FuncData} {ps : List Str} (F : FnOk P w K mg base CX0 k f fd ps spWord) : FnOk P w K mg base CX0 k f fd ps (spOf C [true] S_word) := by
  refine F.imp fun vs H Q E h => ?_
  obtain ⟨p, W, n, ds, R, dom, pw, pa, ar, ⟨rfl, h3, hk⟩, q⟩ := h
  obtain ⟨v, rfl, hv⟩ := ar.a1
  obtain ⟨a, rfl, hpu⟩ := hv.purse
  obtain ⟨pa, tb⟩ := pa
  rw [hpu] at pa
  obtain ⟨b, hP, hb⟩ := pa
  have ha := hP
  obtain ⟨_, _, _, _, ha, _⟩ := ha
  refine ⟨a, b, rfl, hP, by omega, fun H' z hz hP' hc => ?_⟩
  exact q _ H' (.val (.str z)) (n - 20) (fun c o nc e => hc c o (fun z => nc (.inl (by rw [z]; exact hpu))) e) ⟨by rw [hpu]; exact ⟨b + 20, hP', by omega⟩, tabs_put tb (tabs_ne tb ha (by simp)) ha (by simp) fun c o nc e => hc c o nc e⟩ (rfl : V.str z = V.str z) (hk z hz)
theorem conv_new {k : Nat} {f : Addr} {fd : FuncData} {ps : List Str} {l : List Str → List Str → List Str} (F : FnOk P w K mg base CX0 k f fd ps (spNew C l)) : FnOk P w K mg base CX0 k f fd ps (spOf C [true] fun ds n R => ∃ xs ys, ds = [.sh xs ys] ∧ R (.new (dS (l xs ys))) n) := by
  refine F.imp fun vs H Q E h => ?_
  obtain ⟨p, W, n, ds, R, dom, pw, pa, ar, ⟨xs, ys, rfl, hk⟩, q⟩ := h
  obtain ⟨v, rfl, hv⟩ := ar.a1
  obtain ⟨a, dx, c, r, rfl, h1, h2, h3⟩ := hv.sh
  exact ⟨a, xs, ys, rfl, ⟨dx, c, r, h1, h2, h3⟩, fun b nb => q _ _ (.new (dS (l xs ys))) n (.same (same_upd nb)) (pa.same (same_upd nb)) ⟨b, rfl, nb, _, upd_same, repL_strs _⟩ hk⟩
theorem conv_check {k : Nat} {f : Addr} {fd : FuncData} {ps : List Str} (F : FnOk P w K mg base CX0 k f fd ps (spCheck C)) : FnOk P w K mg base CX0 k f fd ps (spOf C [true] S_check) := by
  refine F.imp fun vs H Q E h => ?_
  obtain ⟨p, W, n, ds, R, dom, pw, pa, ar, ⟨xs, ys, rfl, hk⟩, q⟩ := h
  obtain ⟨v, rfl, hv⟩ := ar.a1
  obtain ⟨a, dx, c, r, rfl, h1, h2, h3⟩ := hv.sh
  exact ⟨a, xs, ys, rfl, ⟨dx, c, r, h1, h2, h3⟩, q _ H (.val .non) n .refl pa (rfl : V.non = V.non) hk⟩
theorem conv_ranks {k : Nat} {f : Addr} {fd : FuncData} {ps : List Str} (F : FnOk P w K mg base CX0 k f fd ps (spRanks C)) : FnOk P w K mg base CX0 k f fd ps (spOf C [true] S_ranks) := by
  refine F.imp fun vs H Q E h => ?_
  obtain ⟨p, W, n, ds, R, dom, pw, pa, ar, ⟨xs, ys, rfl, cat, row, hk⟩, q⟩ := h
  obtain ⟨v, rfl, hv⟩ := ar.a1
  obtain ⟨a, dx, c, r, rfl, h1, h2, h3⟩ := hv.sh
  refine ⟨a, xs, ys, rfl, ⟨dx, c, r, h1, h2, h3⟩, cat, row, fun H' b s nb hb => ?_⟩
  exact q _ H' (.new (dI (rnk xs ys))) n (.same s) (pa.same s) ⟨b, rfl, nb, _, hb, repL_ints _⟩ hk
theorem conv_cat {k : Nat} {f : Addr} {fd : FuncData} {ps : List Str} (F : FnOk P w K mg base CX0 k f fd ps spIsCat) : FnOk P w K mg base CX0 k f fd ps (spOf C [true] S_is_catalogue) := by
  refine F.imp fun vs H Q E h => ?_
  obtain ⟨p, W, n, ds, R, dom, pw, pa, ar, ⟨xs, rfl, cat, hk⟩, q⟩ := h
  obtain ⟨v, rfl, hv⟩ := ar.a1
  obtain ⟨a, us, rfl, ha, r⟩ := hv.lst
  rw [r.strs] at ha
  exact ⟨a, xs, rfl, ha, cat, fun H' s => q _ H' (.val (.bl true)) n (.same s) (pa.same s) (rfl : V.bl true = V.bl true) hk⟩
theorem conv_unlike {k : Nat} {f : Addr} {fd : FuncData} {ps : List Str} (F : FnOk P w K mg base CX0 k f fd ps spUnlike) : FnOk P w K mg base CX0 k f fd ps (spOf C [true, true] S_are_unlike) := by
  refine F.imp fun vs H Q E h => ?_
  obtain ⟨p, W, n, ds, R, dom, pw, pa, ar, ⟨xs, ys, rfl, f1, f2, sub, nd, hk⟩, q⟩ := h
  obtain ⟨v, u, rfl, hv, hu⟩ := ar.a2
  obtain ⟨a, us, rfl, ha, r⟩ := hv.lst
  obtain ⟨b, ws, rfl, hb, r2⟩ := hu.lst
  rw [r.strs] at ha
  rw [r2.strs] at hb
  exact ⟨a, b, xs, ys, rfl, ha, hb, f1, f2, sub, nd, fun H' s => q _ H' (.val (.bl true)) n (.same s) (pa.same s) (rfl : V.bl true = V.bl true) hk⟩
end
end LW
end
-- TLE
section
set_option Elab.async false
set_option linter.all false
set_option maxRecDepth 100000
set_option maxHeartbeats 4100000
/-! TLE: a, b = x, y through a tuple (names that blocks within share) -/
variable [TL.Tb]
namespace TL
open L2 PyProof.Rows PySem PySem.Spec TS RZ
section
variable {C : Addr} {K : PySem.W.Frag}
theorem two_line : (2 : Nat) ≤ sizeLine := by decide +kernel
theorem rs_parU {t u : TE} {T U : TX} {i j : Nat} (h : ∀ Z, RE C Z t T) (h2 : ∀ Z, RE C Z u U) : RS C (tAsg (tTup (tCons t (tCons u tNil))) (gUn K 2 (gNms [i, j]))) (tlPar i j T U) := by
  intro Z G Γ σ H n E F M L h1
  refine h Z G Γ σ H n _ _ M h1 fun v H1 r n1 e1 p1 x1 r1 => ?_
  have M1 := M.bt e1 p1
  match r, x1, r1 with
  | .val d, x1, r1 =>
    refine h2 Z G Γ σ H1 n1 _ _ M1 r1 fun u H2 s n2 e2 p2 x2 r2 => ⟨two_line, fun tp ntp => .inl ⟨tp, [v, u], rfl, SqT.of upd_same, rfl, v, [u], rfl, u, [], rfl, rfl, ?_⟩⟩
    have st := same_upd (o := .tup [v, u]) ntp
    have MV := M1.set_val (i := i) x1
    have sub : ∀ a, Ws Z (Γ.set i (some (.val d))) (σ.set i (some v)) a → Ws Z Γ σ a := fun a h => h.elim .inl fun ⟨j, h⟩ => .inr ⟨j, h.of_set.1⟩
    match s, x2, r2 with
    | .val e, x2, r2 => exact L.nx _ _ _ n2 (((MV.bt e2 p2).set_val (Rep.mono (fun c o nc h => ⟨fun z => nc (sub c z), h⟩) x2)).same st) r2
    | .new e, ⟨b, eb, nb, ro⟩, r2 =>
      subst eb
      exact L.nx _ _ _ n2 ((MV.set_new e2 p2 nb (ro.mono (fun c o nc h => ⟨fun z => nc (z.imp (sub c) id), h⟩) fun _ h => h)).same st) r2
  | .new d, ⟨a, ea, na, ro⟩, r1 =>
    subst ea
    obtain ⟨oa, ha⟩ := ro.at
    have MN := M.set_new (i := i) e1 p1 na ro
    have pw : ∀ b, Z.p.On b → (Ws Z Γ σ b ∨ b = a) := fun b z => .inl (Ws.pw z)
    have dom : ∀ b, (Ws Z Γ σ b ∨ b = a) → ∃ o, H1 b = some o := fun b w => w.elim (fun z => M1.wdom z) fun z => ⟨oa, by rw [z]; exact ha⟩
    have MW := M.within (Dn := a) na e1 p1 (W := fun b => Ws Z Γ σ b ∨ b = a) (fun b => Iff.rfl) dom pw
    refine h2 _ [] _ σ H1 n1 _ _ MW r1 fun u H2 s n2 e2 p2 x2 r2 => ⟨two_line, fun tp ntp => .inl ⟨tp, [.ref a, u], rfl, SqT.of upd_same, rfl, _, [u], rfl, u, [], rfl, rfl, ?_⟩⟩
    have st := same_upd (o := .tup [.ref a, u]) ntp
    have sub : ∀ c, Ws Z (Γ.set i (some (.new d))) (σ.set i (some (.ref a))) c → Ws (Zx.at Z.p (fun b => Ws Z Γ σ b ∨ b = a) H1 dom pw) (borG Γ) σ c := fun c h =>
      .inl (h.elim (fun z => .inl (.inl z)) fun ⟨k, h⟩ => h.of_setN.elim (fun z => .inr z.2) fun z => .inl (.inr ⟨k, z.1⟩))
    match s, x2, r2 with
    | .val e, x2, r2 => exact L.nx _ _ _ n2 (((MN.bt e2 p2).set_val (Rep.mono (fun c o nc h => ⟨fun z => nc (sub c z), h⟩) x2)).same st) r2
    | .new e, ⟨b, eb, nb, ro2⟩, r2 =>
      subst eb
      exact L.nx _ _ _ n2 ((MN.set_new e2 p2 nb (RepO.mono (fun c o nc h => ⟨fun z => nc (z.imp (sub c) id), h⟩) (fun _ h => h) ro2)).same st) r2
end
end TL
end
-- TMin
section
set_option Elab.async false
set_option linter.all false
set_option maxRecDepth 100000
set_option maxHeartbeats 4100000
/-! ### min(xs, key=len), xs a list of tuples -/
namespace TMin
open L2 PyProof.Rows PySem PySem.Spec
theorem vals_back : ∀ {ws : List V} {its : List Value} {i : Nat} {v : Value}, Vals ws its → its[i]? = some v → ∃ u, ws[i]? = some u ∧ RelV u v
  | _, _, i, v, .nil, e => by simp at e
  | _, _, 0, v, .cons r _, e => by
    obtain rfl := Option.some.inj e
    exact ⟨_, rfl, r⟩
  | _, _, i + 1, v, .cons _ q, e => vals_back (i := i) q e
end TMin
end
-- TLF
section
set_option Elab.async false
set_option linter.all false
set_option maxRecDepth 100000
set_option maxHeartbeats 4100000
/-! TLF: min(xs, key=len) of a list of tuples, by trees; a law's head and foot -/
namespace TL
open L2 PyProof.Rows PySem PySem.Spec TS TMin
end TL
end
-- TLG
section
set_option Elab.async false
set_option linter.all false
set_option maxRecDepth 100000
set_option maxHeartbeats 4100000
/-! TLG: statements that leave a slot alone; lists of new lists, spoilt behind a question -/
variable [TL.Tb]
namespace TL
open L2 PyProof.Rows PySem PySem.Spec TS RZ
/-- what is wanted behind, the slot i0 still holding v0 -/
structure Lkx (C : Addr) (Z : Zx) (G : List (V × Rv)) (i0 : Nat) (v0 : V) (E : TEn) (F : Ends) : Prop where
  nx : ∀ Γ σ H n, Mt C Z G Γ σ H n → σ[i0]? = some (some v0) → E.nx Γ n → F.nx σ H
  rt : ∀ v H r n, Bt Z.p Z.H0 H → PAt Z.p H n → sto r = true → XOk C Z Z.W0 Z.H0 H r v → E.rt r n → F.rt v H
  bk : ∀ Γ σ H n, Mt C Z G Γ σ H n → σ[i0]? = some (some v0) → E.bk Γ n → F.bk σ H
  ct : ∀ Γ σ H n, Mt C Z G Γ σ H n → σ[i0]? = some (some v0) → E.ct Γ n → F.ct σ H
def RSx (C : Addr) (i0 : Nat) (t : TS) (T : TSt) : Prop := ∀ (v0 : V) (Z : Zx) (G : List (V × Rv)) (Γ : Gm) (σ : L2.St) (H : Hp) (n : Nat) (E : TEn) (F : Ends), Mt C Z G Γ σ H n → σ[i0]? = some (some v0) → Lkx C Z G i0 v0 E F → T E Γ n → t F σ H
section
variable {C : Addr} {K : PySem.W.Frag} {i0 : Nat}
theorem rx_nx : RSx C i0 tNext tlNx := fun v0 Z G Γ σ H n E F M h0 L h => L.nx Γ σ H n M h0 h
end
theorem seq_next {a : TS} : a = tSeq tNext a := rfl
/-! ### a law's slots -/
mutual
/-- no purse within -/
def npu : D → Bool
  | .purse => false
  | .pin _ => true
  | .er _ d => npu d
  | .lst ds => npus ds
  | .tup ds => npus ds
  | .dk _ ds => npus ds
  | .dt _ ds => npus ds
  | .ob _ _ ds => npus ds
  | _ => true
def npus : List D → Bool
  | [] => true
  | d :: r => npu d && npus r
end
section
variable {C : Addr} {p p' : Pz} {W W' : Addr → Prop} {H H' : Hp}
mutual
theorem Rep.any (k : ∀ c o, ¬ W c → H c = some o → ¬ W' c ∧ H' c = some o) : ∀ {d : D} {v : V}, npu d = true → Rep p C W H d v → Rep p' C W' H' d v
  | .non, _, _, h => h
  | .bl _, _, _, h => h
  | .int _, _, _, h => h
  | .str _, _, _, h => h
  | .lst ds, _, q, ⟨a, e, na, vs, ha, r⟩ => ⟨a, e, (k _ _ na ha).1, vs, (k _ _ na ha).2, RepL.any k q r⟩
  | .tup ds, _, q, ⟨a, e, na, vs, ha, r⟩ => ⟨a, e, (k _ _ na ha).1, vs, (k _ _ na ha).2, RepL.any k q r⟩
  | .dk ks ds, _, q, ⟨a, e, na, vs, ha, l, r⟩ => ⟨a, e, (rd_key k na ha).1, vs, (rd_key k na ha).2, l, RepL.any k q r⟩
  | .dt ks ds, _, q, ⟨a, e, na, vs, ha, l, r⟩ => ⟨a, e, (k _ _ na ha).1, vs, (k _ _ na ha).2, l, RepL.any k q r⟩
  | .sh xs ys, _, _, ⟨a, e, na, dx, c, r, ha, hc, hr, nc, nr⟩ => ⟨a, e, (k _ _ na ha).1, dx, c, r, (k _ _ na ha).2, (k _ _ nc hc).2, (k _ _ nr hr).2, (k _ _ nc hc).1, (k _ _ nr hr).1⟩
  | .ob _ _ ds, _, q, ⟨a, e, na, dx, vs, ha, l, r⟩ => ⟨a, e, (k _ _ na ha).1, dx, vs, (k _ _ na ha).2, l, RepL.any k q r⟩
  | .purse, _, q, _ => nomatch q
  | .pin _, _, _, ⟨e, na, o, h⟩ => ⟨e, (k _ _ na h).1, o, (k _ _ na h).2⟩
  | .er _ _, _, q, ⟨a, e, na, dd, w, ha, nd, hd, r⟩ => ⟨a, e, (k _ _ na ha).1, dd, w, (k _ _ na ha).2, (k _ _ nd hd).1, (k _ _ nd hd).2, Rep.any k q r⟩
theorem RepL.any (k : ∀ c o, ¬ W c → H c = some o → ¬ W' c ∧ H' c = some o) : ∀ {ds : List D} {vs : List V}, npus ds = true → RepL p C W H ds vs → RepL p' C W' H' ds vs
  | [], _, _, h => h
  | d :: r, _, q, ⟨v, vr, e, h, h2⟩ => by
    rw [npus, Bool.and_eq_true] at q
    exact ⟨v, vr, e, Rep.any k q.1 h, RepL.any k q.2 h2⟩
end
end
/-- what a law keeps in its slots ahead of its purses -/
def Keeps (keep Γ : Gm) : Prop := ∀ (i : Nat) (d : D), keep[i]? = some (some (.val d)) → Γ[i]? = some (some (.val d)) ∨ Γ[i]? = some (some (.new d))
def Kept (keep Γ : Gm) : Prop := Γ.length = keep.length ∧ ∀ (i : Nat) (d : D), keep[i]? = some (some (.val d)) → Γ[i]? = some (some (.val d))
end TL
end
-- TLH
section
set_option Elab.async false
set_option linter.all false
set_option maxRecDepth 100000
set_option maxHeartbeats 4100000
/-! TLH: a list of new lists is asked about, then spoilt: x = [f(..), ..]; if ..: return ..; x[j].append(..); x[j][k] = .. -/
variable [TL.Tb]
namespace TL
open L2 PyProof.Rows PySem PySem.Spec TS RZ
/-- L holds vs; the new lists among them stand at places that were free at H0 -/
structure Nst (H0 H : Hp) (L : Addr) (vs : List V) (rs : List Rv) (m : Nat) : Prop where
  lst : H L = some (.lst vs)
  own : H0 L = none
  few : rs.length ≤ 1000
  len : vs.length = rs.length
  it : ∀ (j : Nat) (ds : List D), rs[j]? = some (.new (.lst ds)) → ∃ a us, vs[j]? = some (.ref a) ∧ H0 a = none ∧ a ≠ L ∧ H a = some (.lst us) ∧ ds.length ≤ us.length ∧ (ds.length ≤ 1000000 → us.length ≤ 1000000 + m)
section
variable {C : Addr} {K : PySem.W.Frag} {Z : Zx} {G : List (V × Rv)} {Γ : Gm} {σ : L2.St} {H0 H H' : Hp} {L : Addr} {vs : List V} {rs : List Rv} {i m n n0 : Nat}
theorem Nst.bt (N : Nst H0 H L vs rs m) (np : ∀ a, Z.p.On a → ∃ o, H0 a = some o) (e : Bt Z.p H H') : Nst H0 H' L vs rs m where
  lst := e _ _ (fun z => by obtain ⟨o, h⟩ := np _ z; rw [N.own] at h; cases h) N.lst
  own := N.own
  few := N.few
  len := N.len
  it := fun j ds hj => by
    obtain ⟨a, us, h1, h2, h3, h4, h5⟩ := N.it j ds hj
    exact ⟨a, us, h1, h2, h3, e _ _ (fun z => by obtain ⟨o, h⟩ := np _ z; rw [h2] at h; cases h) h4, h5⟩
end
end TL
end
-- TLI
section
set_option Elab.async false
set_option linter.all false
set_option maxRecDepth 100000
set_option maxHeartbeats 4100000
/-! TLI: sorted, min of lists of any data; dictionaries -/
namespace TL
open L2 PyProof.Rows PySem PySem.Spec PySem.W TS RZ
/-! ### sorted, at the level of values -/
/-! ### and by trees -/
end TL
end
-- TLJ
section
set_option Elab.async false
set_option linter.all false
set_option maxRecDepth 100000
set_option maxHeartbeats 4100000
/-! TLJ: min of a list of any data; dictionaries -/
variable [TL.Tb]
namespace TL
open L2 PyProof.Rows PySem PySem.Spec PySem.W TS RZ
/-! ### min -/
/-! ### dictionaries by text and number -/
def rDG : R2 := fun x y H Q => ∃ a v, x = .ref a ∧ DGet H a y (some v) ∧ Q v H
theorem ix_dict {X : Cx} (hu : X.A.units + 62 < cLine) : IxR X rDG := by
  intro value slice pins s σ H x y v u Q I rx ry h hs
  obtain ⟨a, z, rfl, g, q⟩ := h
  obtain rfl : v = Value.ref a := rx
  exact tail_any (dict_typeIs I g) PySem.F.slot_dict_getitem.lookup (d_getItem (by omega) I g ry fun w' s3 I3 rw' => ⟨z, H, I3, rw', q⟩) hs
def rIxD (K : PySem.W.Frag) : R2 := orR (rIxA K) rDG
theorem ix_anyD {X : Cx} (hu : X.A.units + 62 < cLine) : IxR X (rIxD X.K) := IxR.or ix_any (ix_dict hu)
def keyD : D → Option Key
  | .int i => some (.inl i)
  | .str s => some (.inr s)
  | _ => none
/-- what a key has -/
def dkGet : List Key → List D → Key → Option D
  | k :: ks, d :: ds, j => if k = j then some d else dkGet ks ds j
  | _, _, _ => none
section
variable {C : Addr} {K : PySem.W.Frag} {Z : Zx}
theorem dkGet_val {p : Pz} {W : Addr → Prop} {H : Hp} : ∀ {ks : List Key} {ds : List D} {vs : List V} {j : Key}, ks.length = ds.length → RepL p C W H ds vs →
    (∀ d, dkGet ks ds j = some d → ∃ v, valV (ks.zip vs) j = some v ∧ Rep p C W H d v) ∧ (dkGet ks ds j = none → valV (ks.zip vs) j = none)
  | [], [], _, j, _, e => by
    rw [show _ = [] from e]
    exact ⟨fun d h => by simp [dkGet] at h, fun _ => rfl⟩
  | k :: ks, d :: ds, _, j, l, ⟨v, vr, e, h, q⟩ => by
    subst e
    obtain ⟨h1, h2⟩ := dkGet_val (j := j) (by simpa using l) q
    rw [List.zip_cons_cons]
    by_cases e : k = j
    · subst e
      refine ⟨fun d' z => ?_, fun z => by simp [dkGet] at z⟩
      rw [dkGet, if_pos rfl] at z
      obtain rfl := Option.some.inj z
      exact ⟨v, valV_pos rfl, h⟩
    · refine ⟨fun d' z => ?_, fun z => ?_⟩
      · rw [dkGet, if_neg e] at z
        obtain ⟨v', h3, h4⟩ := h1 d' z
        exact ⟨v', by rw [valV_neg e]; exact h3, h4⟩
      · rw [dkGet, if_neg e] at z
        rw [valV_neg e]
        exact h2 z
theorem View.key {p : Pz} {W : Addr → Prop} {H : Hp} {d : D} {v : V} {k : Key} (h : View p C W H d v) (e : keyD d = some k) : v = kV k := by
  cases d with
  | int i => obtain rfl := Option.some.inj e; exact h.int
  | str s => obtain rfl := Option.some.inj e; exact h.str
  | _ => cases e
theorem dgetR {H : Hp} {a : Addr} {kvs : List (Key × V)} {k : Key} (e : Rd H a (.dK kvs)) : DGet H a (kV k) (valV kvs k) := .inl ⟨kvs, k, e, rfl, rfl⟩
def dIxD : D → D → (Rv → Prop) → Prop
  | .dk ks ds, e, R => ∃ k d, keyD e = some k ∧ dkGet ks ds k = some d ∧ R (.val d)
  | d, e, R => dIx d e R
theorem r2_ixD : R2T C Z (rIxD K) dIxD := by
  intro W H x y d e R Q hp dm hx hy h q
  unfold dIxD at h
  split at h
  · next ks ds =>
    obtain ⟨k, d, ek, hd, h⟩ := h
    obtain ⟨a, vs, rfl, ha, l, r⟩ := hx.dk
    obtain ⟨v, h1, h2⟩ := (dkGet_val l r).1 d hd
    refine .inr ⟨a, v, rfl, ?_, q v H (.val d) (Same.refl H) h2 h⟩
    rw [hy.key ek, ← h1]
    exact dgetR ha
  · exact .inl (r2_ix W H x y d e R Q hp dm hx hy h q)
end
end TL
end
-- TLK
section
set_option Elab.async false
set_option linter.all false
set_option maxRecDepth 100000
set_option maxHeartbeats 4100000
/-! TLK: a new list goes last into an own one, is asked about there, then turned round: x.append(e); if ..: return ..; x[j].reverse(). And `is not` of two truths. -/
variable [TL.Tb]
namespace TL
open L2 PyProof.Rows PySem PySem.Spec TS RZ
def delH (H : Hp) (L : Addr) : Hp := fun c => if c = L then none else H c
theorem delH_ne {H : Hp} {L c : Addr} (h : c ≠ L) : delH H L c = H c := by unfold delH; rw [if_neg h]
section
variable {C : Addr} {K : PySem.W.Frag} {Z : Zx} {G : List (V × Rv)} {Γ : Gm} {σ : L2.St} {H0 H H1 H' : Hp} {L a : Addr} {vs us : List V} {ds es : List D} {i m n n0 : Nat}
/-- an own object is put away: heap and slot without it -/
theorem Mt.cut (M : Mt C Z G Γ σ H n) {d : D} (hi : Γ[i]? = some (some (.new d))) (hb : σ[i]? = some (some (.ref L))) : Mt C Z G (Γ.set i none) σ (delH H L) n := by
  have ow : Ow Γ σ i L := ⟨⟨d, hi⟩, hb⟩
  obtain ⟨_, L0, Lp⟩ := M.own ow
  have wl : Ws Z Γ σ L := .inr ⟨i, ow⟩
  have sub : ∀ {j : Nat} {b : Addr}, Ow (Γ.set i none) σ j b → Ow Γ σ j b ∧ j ≠ i := fun {j b} h => by
    obtain ⟨⟨d, hd⟩, ha⟩ := h
    rcases get_set hd with ⟨_, e⟩ | ⟨ne, e⟩
    · cases e
    · exact ⟨⟨⟨d, e⟩, ha⟩, fun z => ne z.symm⟩
  have ws : ∀ c, Ws Z (Γ.set i none) σ c → Ws Z Γ σ c := fun c h => h.elim .inl fun ⟨j, h⟩ => .inr ⟨j, (sub h).1⟩
  have key : ∀ c o, ¬ Ws Z Γ σ c → H c = some o → ¬ Ws Z (Γ.set i none) σ c ∧ delH H L c = some o := fun c o nc hc => ⟨fun z => nc (ws c z), by rw [delH_ne fun z => nc (by rw [z]; exact wl)]; exact hc⟩
  have at_ : ∀ b o, b ≠ L → H b = some o → delH H L b = some o := fun b o z h => by rw [delH_ne z]; exact h
  have pa : PAt Z.p (delH H L) n := by
    obtain ⟨v0, e0, b1, e1, _, r0⟩ := M.sl i _ hi
    rw [hb] at e0
    injection e0 with e0
    injection e0 with e0
    subst e0
    injection e1 with e1
    subst e1
    obtain ⟨o0, ho, nx⟩ := r0.nx
    refine ⟨?_, tabs_put M.pa.2 (fun q hq e => Lp (.inr ⟨q, hq, e⟩)) ho nx at_⟩
    have := M.pa.1
    revert this
    cases hp : Z.p.pu with
    | none => exact fun _ => trivial
    | some q =>
      rintro ⟨b, ⟨p0, p1, p2, p3, hq, r⟩, z⟩
      exact ⟨b, ⟨p0, p1, p2, p3, at_ q _ (fun e => Lp (.inl (by rw [hp, e]))) hq, r⟩, z⟩
  refine ⟨by rw [List.length_set]; exact M.len, fun c o nc hc => at_ c o (fun z => by rw [z, L0] at hc; cases hc) (M.fr c o nc hc), pa, fun j r hj => ?_, fun g hg => ?_, fun j k b h1 h2 => M.inj j k b (sub h1).1 (sub h2).1⟩
  · rcases get_set hj with ⟨_, e⟩ | ⟨ne, hj⟩
    · cases e
    · obtain ⟨v, hv, s⟩ := M.sl j r hj
      refine ⟨v, hv, ?_⟩
      match r, s with
      | .val d, s => exact Rep.mono key s
      | .new d, ⟨b, eb, h0, r⟩ =>
        subst eb
        refine ⟨b, rfl, h0, r.mono key fun o => at_ b o fun z => ?_⟩
        exact ne (M.inj i j L ow ⟨⟨d, hj⟩, by rw [hv, z]⟩)
      | .bor d, .inl s => exact .inl (Rep.mono key s)
      | .bor d, .inr ⟨b, o, eb, nb, h0, r⟩ => exact .inr ⟨b, o, eb, nb, h0, r.mono key fun o' => at_ b o' fun z => by rw [z, L0] at h0; cases h0⟩
  · obtain ⟨s, nn⟩ := M.gs g hg
    refine ⟨?_, nn⟩
    obtain ⟨v, r⟩ := g
    match r, s, nn with
    | .val d, s, _ => exact Rep.mono key s
    | .new d, _, nn => exact (nn d rfl).elim
    | .bor d, .inl s, _ => exact .inl (Rep.mono key s)
    | .bor d, .inr ⟨b, o, eb, nb, h0, r⟩, _ => exact .inr ⟨b, o, eb, nb, h0, r.mono key fun o' => at_ b o' fun z => by rw [z, L0] at h0; cases h0⟩
/-- L holds vs, then a new list at a -/
structure Las (C : Addr) (Z : Zx) (Γ : Gm) (σ : L2.St) (H0 H : Hp) (i : Nat) (L a : Addr) (vs us : List V) (ds es : List D) : Prop where
  hs : σ[i]? = some (some (.ref L))
  hl : H L = some (.lst (vs ++ [.ref a]))
  l0 : H0 L = none
  a0 : H0 a = none
  ne : a ≠ L
  ha : H a = some (.lst us)
  rv : RepL Z.p C (Ws Z Γ σ) H0 ds vs
  ru : RepL Z.p C (fun c => Ws Z Γ σ c ∨ c = L ∨ c = a) H es us
theorem Las.bt (A : Las C Z Γ σ H0 H i L a vs us ds es) (np : ∀ b, Z.p.On b → ∃ o, H0 b = some o) (e : Bt Z.p H H') : Las C Z Γ σ H0 H' i L a vs us ds es := by
  have nL : ¬ Z.p.On L := fun z => by obtain ⟨o, h⟩ := np _ z; rw [A.l0] at h; cases h
  have na : ¬ Z.p.On a := fun z => by obtain ⟨o, h⟩ := np _ z; rw [A.a0] at h; cases h
  exact ⟨A.hs, e _ _ nL A.hl, A.l0, A.a0, A.ne, e _ _ na A.ha, A.rv, A.ru.mono (keepB (fun b z => .inl (Ws.pw z)) e)⟩
/-! ### `is not` -/
end
end TL
end
-- TLL
section
set_option Elab.async false
set_option linter.all false
set_option maxRecDepth 100000
set_option maxHeartbeats 4100000
/-! TLL: t[::-1] of a tuple -/
namespace HT
open PySem PySem.Spec PyProof.Rows
section
variable {prog : Program} {w : World} {A : Around} {E : Value → Shared → Prop} {s : Shared}
theorem adjust_rev (n : Nat) : Builtin.Slice.sliceAdjust none none (-1) (n : Int) = ((n : Int) - 1, -1) := by
  unfold Builtin.Slice.sliceAdjust
  simp
theorem places_rev (n : Nat) : Builtin.Slice.slicePlaces ((n : Int) - 1) (-1) (-1) = n := by
  unfold Builtin.Slice.slicePlaces
  have h1 : ¬ ((-1 : Int) > 0) := by decide
  have h2 : (- -1 : Int) = 1 := by decide
  simp only [h1, if_false, h2, Int.ediv_one]
  split <;> omega
theorem sliceApplied_rev {sl : Addr} {vl vu vs : Value} {n : Nat} {Q : Int × Int × Nat → Shared → Prop} (hs : s.heap.IsSliceOf sl vl vu vs) (pl : IsPart vl none) (pu : IsPart vu none) (ps : IsPart vs (some (-1)))
    (h : Q ((n : Int) - 1, -1, n) s) : wpAny (model prog w) A (Builtin.Slice.sliceApplied (.ref sl) (pure (n : Int))) Q E s := by
  obtain ⟨os, hos, hcs, hds⟩ := id hs
  unfold Builtin.Slice.sliceApplied Builtin.Slice.sliceFields
  refine wpAny_bind (wpAny_bind (wpAny_field hos hds (x := vl) rfl (wpAny_bind (wpAny_field hos hds (x := vu) rfl (wpAny_bind (wpAny_field hos hds (x := vs) rfl (wpAny_pure ?_)))))))
  refine wpAny_bind (slicePart_ ps ?_)
  show wpAny _ _ (if ((-1 : Int) == 0) = true then _ else _) _ _ s
  rw [if_neg (by decide)]
  refine wpAny_bind (slicePart_ pl (wpAny_bind (slicePart_ pu (wpAny_bind (wpAny_pure ?_)))))
  show wpAny _ _ (match Builtin.Slice.sliceAdjust none none (-1) (n : Int) with | (lo, hi) => pure (lo, (-1 : Int), Builtin.Slice.slicePlaces lo hi (-1))) _ _ s
  rw [adjust_rev n]
  show wpAny _ _ (pure ((n : Int) - 1, (-1 : Int), Builtin.Slice.slicePlaces ((n : Int) - 1) (-1) (-1))) _ _ s
  rw [places_rev]
  exact wpAny_pure h
theorem fm_congr {α β : Type} {f g : α → Option β} : ∀ {l : List α}, (∀ x ∈ l, f x = g x) → l.filterMap f = l.filterMap g
  | [], _ => rfl
  | x :: r, h => by rw [List.filterMap_cons, List.filterMap_cons, h x List.mem_cons_self, fm_congr fun y hy => h y (List.mem_cons_of_mem _ hy)]
theorem pick_rev (xs : Array Value) : ((List.range xs.size).filterMap fun (m : Nat) => xs[((xs.size : Int) - 1 + (m : Int) * (-1)).toNat]?).toArray = xs.toList.reverse.toArray := by
  congr 1
  refine List.ext_getElem? fun i => ?_
  have e : (List.range xs.size).filterMap (fun (m : Nat) => xs[((xs.size : Int) - 1 + (m : Int) * (-1)).toNat]?) = (List.range xs.size).filterMap fun m => some (xs.toList.reverse.getD m .none) := by
    refine fm_congr fun m hm => ?_
    have lm := List.mem_range.1 hm
    rw [show ((xs.size : Int) - 1 + (m : Int) * (-1)).toNat = xs.size - 1 - m by omega, List.getD_eq_getElem?_getD, List.getElem?_reverse (by simpa using lm)]
    simp only [Array.length_toList, Array.getElem?_toList]
    rw [Array.getElem?_eq_getElem (by omega)]
    rfl
  rw [e, List.filterMap_eq_map', List.getElem?_map]
  by_cases h : i < xs.size
  · rw [List.getElem?_range h, List.getElem?_eq_getElem (l := xs.toList.reverse) (by simpa using h)]
    show some (xs.toList.reverse.getD i .none) = _
    rw [List.getD_eq_getElem?_getD, List.getElem?_eq_getElem (l := xs.toList.reverse) (by simpa using h)]
    rfl
  · rw [List.getElem?_eq_none (by simpa using h), List.getElem?_eq_none (by simpa using h)]
    rfl
theorem getItem_tuple_rev {t sl : Addr} {items : Array Value} {vl vu vs : Value} {Q : Value → Shared → Prop} (ht : IsTup s.heap t items) (hs : s.heap.IsSliceOf sl vl vu vs) (pl : IsPart vl none) (pu : IsPart vu none) (ps : IsPart vs (some (-1)))
    (h : Q (.ref s.heap.objs.size) { s with heap := s.heap.push { cls := .type "tuple", data := .seq items.toList.reverse.toArray } })
    (hsz : items.size ≤ sizeLine) : wpAny (model prog w) A (getItem (.ref t) (.ref sl)) Q E s := by
  have htake : sizeOk (.seq items.toList.reverse.toArray) := by
    show items.toList.reverse.toArray.size ≤ sizeLine
    rw [List.size_toArray, List.length_reverse, Array.length_toList]
    exact hsz
  obtain ⟨os, hos, hcs, hds⟩ := id hs
  have hTs : s.TypeIs (.ref sl) "slice" := ⟨os, hos, hcs⟩
  unfold getItem
  try with_reducible refine wpAny_holding ?_
  first | refine wpAny_bind (wpAny_pure ?_) | skip
  refine wpAny_bind (wpAny_sequenceKey ht.typeIs (by decide) ?_)
  refine wpAny_bind (wpAny_callSpecial?_slot (name := Str.ofString "__getitem__") ht.typeIs PyProof.Rows.slot_tuple_getitem
    (wpAny_call_entry PyProof.Rows.slot_tuple_getitem ht.typeIs entry_tuple_getitem ?_ (args_tuple_getitem _ _)))
  show wpAny _ _ (Builtin.Tuple.tupleItemsOf (.ref t) >>= _) _ _ s
  refine wpAny_bind (tupleItemsOf_ ht ?_)
  refine wpAny_bind (wpAny_typeOf hTs ?_)
  rw [if_pos (by decide)]
  refine wpAny_bind (sliceApplied_rev hs pl pu ps ?_)
  have hno : ¬ ((((items.size : Int) - 1) == 0 && (-1 : Int) == 1 && items.size == items.size) = true) := by
    rw [show ((-1 : Int) == 1) = false by decide]
    simp
  show wpAny _ _ (if (((items.size : Int) - 1) == 0 && (-1 : Int) == 1 && items.size == items.size) = true then _ else _) _ _ s
  rw [if_neg hno, pick_rev]
  first
    | exact wpAny_bind (m := Builtin.Tuple.tupleExact _) (wpAny_newObj_type (wpAny_pure ⟨_, rfl, wpAny_pure h⟩) htake)
    | exact wpAny_bind (m := Builtin.Tuple.tupleExact _) (wpAny_newObj_type (wpAny_bind (wpAny_pure (wpAny_pure ⟨_, rfl, wpAny_pure h⟩))) htake)
    | exact wpAny_bind (wpAny_bind (m := Builtin.Tuple.tupleExact _) (wpAny_newObj_type (wpAny_pure (wpAny_pure ⟨_, rfl, wpAny_pure h⟩)) htake))
    | exact wpAny_bind (wpAny_bind (m := Builtin.Tuple.tupleExact _) (wpAny_newObj_type (wpAny_pure ⟨_, rfl, wpAny_pure h⟩) htake))
end
end HT
variable [TL.Tb]
namespace TL
open L2 PyProof.Rows PySem PySem.Spec TS RZ
def tRevA (K : PySem.W.Frag) (te : TE) : TE := fun σ H Q => te σ H fun x H1 => (∃ a xs, x = .ref a ∧ SqL K H1 a xs ∧ ∀ p, H1 p = none → Q (.ref p) (upd H1 p (.lst xs.reverse))) ∨ ∃ a xs, x = .ref a ∧ SqT K H1 a xs ∧ ∀ p, H1 p = none → Q (.ref p) (upd H1 p (.tup xs.reverse))
/-- x[::-1] of a list or a tuple -/
theorem pe_revA {X : Cx} {te : TE} {e : Expr} {k : Nat} {p1 p2 p3 pos : Pos} (he : PE X e te) : PE X (.Subscript e (.Slice none none (some (.UnaryOp .USub (.Constant (.int 1) k p1) p2)) p3) pos) (tRevA X.K te) := by
  refine ⟨fun pins s σ H Q I h => ?_⟩
  refine Subscript_ (thn (he.run pins s σ H _ I h) fun v s1 ⟨x, H1, I1, r1, q1⟩ => ?_)
  have hst : PO X (some (.UnaryOp .USub (.Constant (.int 1) k p1) p2)) (tPart (tUn (rU fun i => .int (-i)) (tC (.int 1)))) := po_some (pe_un un_neg pe_int)
  refine wpAny_Slice (thn (po_none.run pins s1 σ H1 (fun o H2 => o = none ∧ H2 = H1) I1 ⟨rfl, rfl⟩) fun vl s2 ⟨l, H2, I2, pl, el, e2⟩ => ?_)
  subst el e2
  refine thn (po_none.run pins s2 σ H2 (fun o H3 => o = none ∧ H3 = H2) I2 ⟨rfl, rfl⟩) fun vu s3 ⟨u, H3, I3, pu, eu, e3⟩ => ?_
  subst eu e3
  refine thn (hst.run pins s3 σ H3 (fun o H4 => o = some (-1) ∧ H4 = H3) I3 ⟨1, rfl, -1, rfl, rfl, rfl⟩) fun vs s4 ⟨o, H4, I4, ps, eo, e4⟩ => ?_
  subst eo e4
  have I5 : Inv X pins σ H4 { s4 with heap := s4.heap.push { cls := .type "slice", data := .fields #[vl, vu, vs] } } := I4.kept (t' := s4.toks) fun b ob q => Heap.get?_push_of_some _ q
  rcases q1 with ⟨a, xs, ex, hx, q⟩ | ⟨a, xs, ex, hx, q⟩
  · subst ex
    cases r1
    obtain ⟨its, r, ht, hz⟩ := I5.list hx
    have hlen := r.length
    show wpAny (model X.prog X.w) X.A (subscriptTail e (.Slice none none (some (.UnaryOp .USub (.Constant (.int 1) k p1) p2)) p3) (.ref a) (.ref s4.heap.objs.size)) (EP X pins σ Q) X.xe { s4 with heap := s4.heap.push { cls := .type "slice", data := .fields #[vl, vu, vs] } }
    refine tail_any (ops := [.ref a, .ref s4.heap.objs.size]) ht.isList.typeIs (PySem.slot_list_getitem.lookup) ?_ (by with_unfolding_all rfl)
    refine wpAny_getItem_list_slice ht.isList (Heap.IsSliceOf.new _ vl vu vs) pl pu ps (by decide) ?_ (by rw [List.size_toArray]; omega)
    rw [PySem.W.krv_pick]
    refine ⟨.ref _, _, I5.laid (t' := s4.toks) (o := .lst xs.reverse) (fun b ob q => Heap.get?_push_of_some _ q) (Nat.le_refl _) ?_, rfl, q _ (I5.hok.fresh (Nat.le_refl _))⟩
    exact ⟨by rw [List.length_reverse]; exact hz, _, 0, r.reverse, Heap.get?_push_size _ rfl⟩
  · subst ex
    cases r1
    obtain ⟨its, r, ht, hz⟩ := I5.tuple hx
    have hlen := r.length
    show wpAny (model X.prog X.w) X.A (subscriptTail e (.Slice none none (some (.UnaryOp .USub (.Constant (.int 1) k p1) p2)) p3) (.ref a) (.ref s4.heap.objs.size)) (EP X pins σ Q) X.xe { s4 with heap := s4.heap.push { cls := .type "slice", data := .fields #[vl, vu, vs] } }
    refine tail_any (ops := [.ref a, .ref s4.heap.objs.size]) ht.typeIs (PyProof.Rows.slot_tuple_getitem.lookup) ?_ (by with_unfolding_all rfl)
    refine HT.getItem_tuple_rev ht (Heap.IsSliceOf.new _ vl vu vs) pl pu ps ?_ (by rw [List.size_toArray]; omega)
    refine ⟨.ref _, _, I5.laid (t' := s4.toks) (o := .tup xs.reverse) (fun b ob q => Heap.get?_push_of_some _ q) (Nat.le_refl _) ?_, rfl, q _ (I5.hok.fresh (Nat.le_refl _))⟩
    exact ⟨by rw [List.length_reverse]; exact hz, _, r.reverse, IsTup.new _ _⟩
def tlRevA (T : TX) : TX := fun Γ n R => T Γ n fun r n1 => match r.d with
  | .lst ds => R (.new (.lst ds.reverse)) n1
  | .tup ds => R (.new (.tup ds.reverse)) n1
  | _ => False
theorem re_revA {C : Addr} {K : PySem.W.Frag} {Z : Zx} {t : TE} {T : TX} (h : RE C Z t T) : RE C Z (tRevA K t) (tlRevA T) := by
  intro G Γ σ H n Q R M h1 q
  refine h G Γ σ H n _ _ M h1 fun v H1 r n1 e1 p1 x1 r1 => ?_
  have vw := x1.view fun a h => Z.papart M.pdom h
  cases hd : r.d with
  | lst ds =>
    rw [hd] at r1 vw
    obtain ⟨a, vs, rfl, ha, rr⟩ := vw.lst
    exact .inl ⟨a, vs, rfl, SqL.of ha, fun b nb => q _ _ (.new (.lst ds.reverse)) n1 (e1.trans (.same (same_upd nb))) (p1.same (same_upd nb)) ⟨b, rfl, e1.free (fun c z => p1.at z) nb, _, upd_same, rr.rev.mono (fresh_rep (p := Z.p) (C := C) nb)⟩ r1⟩
  | tup ds =>
    rw [hd] at r1 vw
    obtain ⟨a, vs, rfl, ha, rr⟩ := vw.tup
    exact .inr ⟨a, vs, rfl, SqT.of ha, fun b nb => q _ _ (.new (.tup ds.reverse)) n1 (e1.trans (.same (same_upd nb))) (p1.same (same_upd nb)) ⟨b, rfl, e1.free (fun c z => p1.at z) nb, _, upd_same, rr.rev.mono (fresh_rep (p := Z.p) (C := C) nb)⟩ r1⟩
  | _ => rw [hd] at r1; exact False.elim r1
end TL
end
-- TLM
section
set_option Elab.async false
set_option linter.all false
set_option maxRecDepth 100000
set_option maxHeartbeats 4100000
/-! TLM: d.get(x) of a module's own dictionary from texts to numbers -/
namespace TL
open L2 PyProof.Rows PySem PySem.Spec TS RZ
end TL
namespace TL
open L2 PyProof.Rows PySem PySem.Spec TS RZ
end TL
end
-- TLN
section
set_option Elab.async false
set_option linter.all false
set_option maxRecDepth 100000
set_option maxHeartbeats 4100000
/-! TLN: sorted(t) of a tuple of texts -/
namespace PyProof.Rows
open PySem PySem.Spec
section
variable {prog : Program} {w : World} {A : Around} {E : Value → Shared → Prop} {s : Shared}
theorem collect_tup {l : Addr} {vs : List Value} {Q : List Value → Shared → Prop} (hl : IsTup s.heap l vs.toArray)
    (h : Q vs { s with heap := (s.heap.push (seqObj "list" #[] 0)).update s.heap.objs.size (Obj.mapSeq (· ++ vs.toArray)) }) (hsz : vs.length ≤ sizeLine) :
    wpAny (model prog w) A (collect (.ref l)) Q E s := by
  obtain ⟨o, ho, hc, n, hd⟩ := id hl
  unfold collect
  refine wpAny_bind (wpAny_runValue (codeAny_builtin entry_proto_collect' ?_))
  show wpAny _ _ (do again (.builtin "list.__iadd__" ⟨[← newList [], .ref l], []⟩)) _ _ s
  refine wpAny_bind (wpAny_newList (wpAny_pure ⟨Code.quiet_builtin _ (by decide +kernel), codeAny_builtin entry_list_iadd' ?_⟩))
  show wpAny _ _ (Builtin.List.listExtendWith (.ref s.heap.objs.size) (.ref l) (.ref s.heap.objs.size)) _ _ { s with heap := s.heap.push (seqObj "list" #[] 0) }
  unfold Builtin.List.listExtendWith
  have ho' : (s.heap.push (seqObj "list" #[] 0)).get? l = some o := Heap.get?_push_of_some _ ho
  refine wpAny_bind (wpAny_typeOf (T := "tuple") ⟨o, ho', hc⟩ ?_)
  have ht : (Value.type "tuple" == Value.type "tuple") = true := by rfl
  rw [if_pos (by rw [ht]; simp)]
  refine wpAny_bind (listItems_at ho' hd ?_)
  refine wpAny_bind (listItems_at (xs := #[]) (n := 0) (Heap.get?_push_size _ rfl) rfl ?_)
  rw [if_neg (by simp)]
  refine wpAny_bind (listUpdate_at (xs := #[]) (n := 0) (Heap.get?_push_size _ rfl) rfl ?_ (Nat.zero_le _) (by show (#[] ++ vs.toArray).size ≤ sizeLine + 1; simp only [Array.size_append, List.size_toArray, List.length_nil]; omega))
  refine wpAny_pure ?_
  show wpAny (model prog w) A (do
      let o ← load s.heap.objs.size
      match o.data with
      | .seq xs _ => pure xs.toList
      | _ => unsupported "internal:collect") Q E { s with heap := (s.heap.push (seqObj "list" #[] 0)).update s.heap.objs.size (Obj.mapSeq (· ++ vs.toArray)) }
  refine wpAny_bind (wpAny_load (get?_update_seq (Heap.get?_push_size _ rfl) _) ?_)
  show wpAny _ _ (pure ((#[] : Array Value) ++ vs.toArray).toList) Q E _
  rw [show ((#[] : Array Value) ++ vs.toArray).toList = vs by simp]
  exact wpAny_pure h
theorem sortedKT {κ : KeyKind} (hO : κ.OneLt) {l : Addr} {vs : List Value} {Q : Value → Shared → Prop} (hl : IsTup s.heap l vs.toArray) (h0 : KeysOf κ (pairsOf vs)) (hkk : ∀ v₁ v₂ rest, vs = v₁ :: v₂ :: rest → keyKind' (v₁ :: v₂ :: rest).toArray = pure oneType') (h64 : vs.length < 64)
    (h : ∀ st' : SortSt, (arrOf st').Perm (pairsOf vs) → SortedToK κ (arrOf st') (pairsOf vs).size → Q (.ref (s.heap.objs.size + 1)) { s with heap := sortedAll s.heap vs ((arrOf st').map (·.2)) }) :
    wpAny (model prog w) A (call (.builtin "sorted") [.ref l]) Q E s := by
  refine Calls.call_function_entry kind_sorted plain_sorted entry_sorted (args_sorted1 _) ?_
  unfold Builtin.«sorted»
  refine wpAny_bind (m := checkCount "sorted" 1 1 _) (wpAny_pure ?_)
  refine wpAny_bind (collect_tup hl ?_ (by rw [sizeLine_eq]; omega))
  refine wpAny_bind (wpAny_newList ?_)
  have hsz : ((s.heap.push (seqObj "list" #[] 0)).update s.heap.objs.size (Obj.mapSeq (· ++ vs.toArray))).objs.size = s.heap.objs.size + 1 := by
    rw [Heap.size_update, size_push']
  have hoL : (((s.heap.push (seqObj "list" #[] 0)).update s.heap.objs.size (Obj.mapSeq (· ++ vs.toArray))).push (seqObj "list" vs.toArray 0)).get? (s.heap.objs.size + 1) = some (seqObj "list" vs.toArray 0) := by
    rw [← hsz]; exact Heap.get?_push_size _ rfl
  show wpAny _ _ _ _ _ { s with heap := ((s.heap.push (seqObj "list" #[] 0)).update s.heap.objs.size (Obj.mapSeq (· ++ vs.toArray))).push (seqObj "list" vs.toArray 0) }
  rw [hsz]
  refine wpAny_bind (wpAny_holding (wpAny_call_entry slot_list_sort ⟨_, hoL, rfl⟩ entry_list_sort (list_sort_treeK hO hoL h0 hkk h64 fun st' a1 a2 => ⟨_, rfl, ?_⟩) (args_list_sort _)))
  exact wpAny_pure ⟨_, rfl, h st' a1 a2⟩
theorem sorted_strsT {l : Addr} {vs : List Value} {ss : List Str} {Q : Value → Shared → Prop} (hl : IsTup s.heap l vs.toArray) (hS : StrsAre vs ss) (h64 : vs.length < 64)
    (h : ∀ (out : Array Value) (ss' : List Str), StrsAre out.toList ss' → ss'.Perm ss → sortedS ss' = true → Q (.ref (s.heap.objs.size + 1)) { s with heap := sortedAll s.heap vs out }) :
    wpAny (model prog w) A (call (.builtin "sorted") [.ref l]) Q E s := by
  refine sortedKT strKind_oneLt hl hS.keysOf (fun v₁ v₂ rest e => keyKind_strs (by rw [← e]; exact hS)) h64 fun st' hp hs => ?_
  obtain ⟨ss', h1, h2, h3⟩ := sorted_out_str hS hp hs
  exact h _ ss' h1 h2 h3
end
end PyProof.Rows
variable [TL.Tb]
namespace TL
open L2 PyProof.Rows PySem PySem.Spec TS RZ
def rSortT (K : PySem.W.Frag) : List V → Hp → VK → Prop := fun vs H Q => ∃ (a : Addr) (xs : List Str), vs = [V.ref a] ∧ SqT K H a (xs.map V.str) ∧ xs.length < 64 ∧
  ∀ (ys : List Str) (p : Addr), ys.Perm xs → sortedS ys = true → H p = none → Q (.ref p) (upd H p (.lst (ys.map V.str)))
theorem cr_sortTx {X : Cx} : CallR X (.builtin "sorted") (rSortT X.K) := by
  intro pins s σ H vs us Q I r h
  obtain ⟨a, xs, rfl, hs, h64, q⟩ := h
  obtain ⟨its, rv, hl, _⟩ := I.tuple hs
  rw [Vals.ref1 r]
  have hlen0 := rv.length
  rw [List.length_map] at hlen0
  refine PyProof.Rows.sorted_strsT hl rv.strs (by rw [← hlen0]; exact h64) fun out ys h1 h2 h3 => ?_
  obtain ⟨ep, he'⟩ := PyProof.Rows.sortedAll_at s.heap its out
  have hlen : (ys.map V.str).length ≤ sizeLine := by rw [List.length_map, h2.length_eq]; exact small64 h64
  exact ⟨.ref _, upd H (s.heap.objs.size + 1) (.lst (ys.map V.str)), I.laid (t' := s.toks) (fun _ _ => PyProof.Rows.sortedAll_old) (Nat.le_succ _) ⟨hlen, out.toList, ep, vals_of_strs h1, he'⟩, rfl, q ys _ h2 h3 (I.hok.fresh (Nat.le_succ _))⟩
/-- sorted: texts, tuples of texts, a tuple of texts -/
def rSortAT (K : PySem.W.Frag) : List V → Hp → VK → Prop := orL (rSortA K) (rSortT K)
theorem cr_sortAT {X : Cx} : CallR X (.builtin "sorted") (rSortAT X.K) := CallR.or cr_sortA cr_sortTx
def dSortedT : List D → (Rv → Prop) → Prop
  | [.tup ds], R => ∃ xs : List Str, ds = xs.map .str ∧ xs.length < 64 ∧ ∀ ys : List Str, ys.Perm xs → sortedS ys = true → R (.new (dS ys))
  | ds, R => dSorted ds R
theorem rn_sortedT {C : Addr} {K : PySem.W.Frag} {Z : Zx} : RnT C Z (rSortAT K) dSortedT := by
  intro W H xs ds R Q hp dm hx h q
  unfold dSortedT at h
  split at h
  · obtain ⟨v, rfl, hv⟩ := hx.one
    obtain ⟨a, vs, rfl, ha, r⟩ := hv.tup
    obtain ⟨xs, rfl, l, h⟩ := h
    rw [r.strs] at ha
    exact .inr ⟨a, xs, rfl, SqT.of ha, l, fun ys b pm so nb => new_lst (repL_strs ys) (h ys pm so) q b nb⟩
  · exact .inl (rn_sorted W H xs _ R Q hp dm hx h q)
end TL
end
-- TLO
section
set_option Elab.async false
set_option linter.all false
set_option maxRecDepth 100000
set_option maxHeartbeats 4100000
/-! TLO: each of some new lists is spoilt: for p in x: p.append(c); defs that give back two new lists -/
namespace TL
open L2 PyProof.Rows PySem PySem.Spec TS RZ
/-! ### two new lists given back -/
end TL
end
-- TLP
section
set_option Elab.async false
set_option linter.all false
set_option maxRecDepth 100000
set_option maxHeartbeats 4100000
/-! TLP: promises of some defs of the program that are done by hand -/
namespace TL
open L2 PyProof.Rows PySem PySem.Spec TS RZ
/-! suites with their last statement apart -/
end TL
end
-- TLQ
section
set_option Elab.async false
set_option linter.all false
set_option maxRecDepth 100000
set_option maxHeartbeats 4100000
/-! TLQ: a class of things with written fields: made, read; x == [] of things of any kind -/
variable [TL.Tb]
namespace TL
open L2 PyProof.Rows PySem PySem.Spec TS RZ
/-! ### x == [] -/
/-! ### fields -/
section
variable {p : Pz} {C : Addr} {W : Addr → Prop} {H : Hp} {K : PySem.W.Frag} {Z : Zx}
theorem View.ob {c : Addr} {ns : List Str} {ds : List D} {v : V} (h : View p C W H (.ob c ns ds) v) : ∃ a dx vs, v = .ref a ∧ H a = some (.ins c dx (ns.zip vs)) ∧ ns.length = ds.length ∧ RepL p C W H ds vs := by
  rcases h with ⟨a, e, _, dx, vs, ha, l, r⟩ | ⟨a, e, _, dx, vs, ha, l, r⟩
  · exact ⟨a, dx, vs, e, ha, l, r⟩
  · exact ⟨a, dx, vs, e, ha, l, r⟩
end
/-! ### a knot is made -/
end TL
end
-- TLR
section
set_option Elab.async false
set_option linter.all false
set_option maxRecDepth 100000
set_option maxHeartbeats 4100000
/-! TLR: x += e of an own list; dict([..]) of pairs; sorted and min of pairs (number, tuple of texts) -/
variable [TL.Tb]
namespace TL
open L2 PyProof.Rows PySem PySem.Spec PySem.W TS RZ
/-! ### x += e -/
/-! ### dict([(k, v), ..]) -/
/-! ### pairs (number, tuple of texts) -/
theorem RnT.imp {r : List V → Hp → VK → Prop} {f g : List D → (Rv → Prop) → Prop} {C : Addr} {Z : Zx} (h : RnT C Z r f) (i : ∀ ds R, g ds R → f ds R) : RnT C Z r g := fun W H xs ds R Q hp dm hx hg q => h W H xs ds R Q hp dm hx (i ds R hg) q
end TL
end
-- TLS
section
set_option Elab.async false
set_option linter.all false
set_option maxRecDepth 100000
set_option maxHeartbeats 4100000
/-! TLS: `is` with True and False -/
namespace TL
open L2 PyProof.Rows PySem PySem.Spec TS RZ
end TL
end
-- TLT
section
set_option Elab.async false
set_option linter.all false
set_option maxRecDepth 100000
set_option maxHeartbeats 4100000
/-! TLT: sorted(xs, key=lambda p: p.f), things by a whole number of theirs -/
namespace LF
open PySem PySem.Spec PyProof.Rows L2 LamX
end LF
namespace TL
open L2 PyProof.Rows PySem PySem.Spec TS RZ LF
end TL
namespace TL
open L2 PyProof.Rows PySem PySem.Spec TS RZ LF
end TL
end
-- TLU
section
set_option Elab.async false
set_option linter.all false
set_option maxRecDepth 100000
set_option maxHeartbeats 4100000
/-! TLU: x[:] = e, an own list gets another one's things -/
namespace TL
open L2 PyProof.Rows PySem PySem.Spec TS RZ
end TL
end
-- TLV
section
set_option Elab.async false
set_option linter.all false
set_option maxRecDepth 100000
set_option maxHeartbeats 4100000
/-! TLV: a test that may see an own list within another one, and keeps nothing of it -/
namespace TL
open L2 PyProof.Rows PySem PySem.Spec TS RZ
end TL
end
-- TLW
section
set_option Elab.async false
set_option linter.all false
set_option maxRecDepth 100000
set_option maxHeartbeats 4100000
/-! TLW: repr of True and False -/
namespace TL
open L2 PyProof.Rows PySem PySem.Spec TS RZ
end TL
end
-- TLX
section
set_option Elab.async false
set_option linter.all false
set_option maxRecDepth 100000
set_option maxHeartbeats 4100000
/-! TLX: x[k] += e of an own list of numbers -/
variable [TL.Tb]
namespace TL
open L2 PyProof.Rows PySem PySem.Spec TS RZ
theorem atI_of {α : Type} {xs : List α} {k : Int} {j : Nat} {x : α} (h : ixN xs.length k = some j) (e : xs[j]? = some x) : atI xs k = some x := by
  unfold atI
  rw [h]
  exact e
end TL
end
-- TLY
section
set_option Elab.async false
set_option linter.all false
set_option maxRecDepth 100000
set_option maxHeartbeats 4100000
/-! TLY: sorted of a list of whole numbers -/
namespace TL
open L2 PyProof.Rows PySem PySem.Spec PySem.W TS RZ
/-! ### where a number stands among the sorted ones -/
end TL
end
-- TLZ
section
set_option Elab.async false
set_option linter.all false
set_option maxRecDepth 100000
set_option maxHeartbeats 4100000
/-! TLZ: a, b, c = x, y, z: the last one may be own -/
namespace TL
open L2 PyProof.Rows PySem PySem.Spec TS RZ
end TL
end
-- TLZA
section
set_option Elab.async false
set_option linter.all false
set_option maxRecDepth 100000
set_option maxHeartbeats 4100000
/-! TLZA: min of two lists of numbers -/
namespace TL
open L2 PyProof.Rows PySem PySem.Spec PySem.W TS RZ
end TL
end
-- TLZB
section
set_option Elab.async false
set_option linter.all false
set_option maxRecDepth 100000
set_option maxHeartbeats 4100000
/-! TLZB: x[k], x[l] = a, b of an own list -/
variable [TL.Tb]
namespace TL
open L2 PyProof.Rows PySem PySem.Spec TS RZ
def tlSet2 (i : Nat) (T1 T2 U Y : TX) : TSt := fun E Γ n => T1 Γ n fun r n1 => T2 Γ n1 fun s n2 => sto r = true ∧ sto s = true ∧ match Γ[i]? with
  | some (some (.new (.lst ds))) => U Γ n2 fun k n3 => match k.d with
    | .int k => ∃ j, ixN ds.length k = some j ∧ Y (Γ.set i (some (.new (.lst (ds.set j r.d))))) n3 fun l n4 => match l.d with
      | .int l => ∃ j2, ixN ds.length l = some j2 ∧ E.nx (Γ.set i (some (.new (.lst ((ds.set j r.d).set j2 s.d))))) n4
      | _ => False
    | _ => False
  | _ => False
section
variable {C : Addr} {K : PySem.W.Frag}
theorem rs_set2 {i : Nat} {a b u y : TE} {T1 T2 U Y : TX} (h : ∀ Z, RE C Z a T1) (h2 : ∀ Z, RE C Z b T2) (h3 : ∀ Z, RE C Z u U) (h4 : ∀ Z, RE C Z y Y) :
    RS C (tAsg (tTup (tCons a (tCons b tNil))) (gUn K 2 (gCons (gSub (tVar i) u rSetL) (gCons (gSub (tVar i) y rSetL) gNil)))) (tlSet2 i T1 T2 U Y) := by
  intro Z G Γ σ H n E F M L q
  refine h Z G Γ σ H n _ _ M q fun v H1 r n1 e1 p1 x1 q1 => ?_
  have M1 := M.bt e1 p1
  refine h2 Z G Γ σ H1 n1 _ _ M1 q1 fun z H2 s n2 e2 p2 x2 ⟨sr, ss, q2⟩ => ⟨two_line, fun tp ntp => .inl ⟨tp, [v, z], rfl, SqT.of upd_same, rfl, v, [z], rfl, ?_⟩⟩
  have M2 := (M1.bt e2 p2).same (same_upd (o := .tup [v, z]) ntp)
  have st : Same H2 (upd H2 tp (.tup [v, z])) := same_upd ntp
  have rv : Rep Z.p C (Ws Z Γ σ) (upd H2 tp (.tup [v, z])) r.d v := ((x1.rep (fun b w => M.wdom w) sr).mono (keepB (fun _ => Ws.pw) e2)).mono fun c o nc h => ⟨nc, st c o h⟩
  have rz : Rep Z.p C (Ws Z Γ σ) (upd H2 tp (.tup [v, z])) s.d z := (x2.rep (fun b w => M1.wdom w) ss).mono fun c o nc h => ⟨nc, st c o h⟩
  generalize upd H2 tp (.tup [v, z]) = H3 at M2 rv rz st
  split at q2
  · next ds e =>
    obtain ⟨w, hw, c, rfl, h0, vs, hc, rr⟩ := M2.sl i _ e
    refine ⟨_, hw, ?_⟩
    refine h3 Z G Γ σ H3 n2 _ _ M2 q2 fun k H4 kr n3 e3 p3 x3 q3 => ?_
    have M3 := M2.bt e3 p3
    have vk := x3.view fun a h => Z.papart M2.pdom h
    cases hk : kr.d with
    | int k' =>
      rw [hk] at q3 vk
      obtain ⟨j, hj, q3⟩ := q3
      have hc4 := e3 c _ (Z.apart h0) hc
      have rr4 := rr.mono (keepB (fun _ => Ws.pw) e3)
      have rv4 := rv.mono (keepB (fun _ => Ws.pw) e3)
      have rz4 := rz.mono (keepB (fun _ => Ws.pw) e3)
      have wc : Ws Z Γ σ c := .inr ⟨i, ⟨⟨_, e⟩, hw⟩⟩
      have key : ∀ b o, ¬ Ws Z Γ σ b → H4 b = some o → ¬ Ws Z Γ σ b ∧ upd H4 c (.lst (vs.set j v)) b = some o := fun b o nb h => ⟨nb, by rw [upd_ne fun z => nb (by rw [z]; exact wc)]; exact h⟩
      refine ⟨c, vs, k', j, rfl, vk.int, hc4, by rw [rr.len]; exact hj, ?_⟩
      have M4 := M3.mut (d' := .lst (ds.set j r.d)) e hw ⟨_, upd_same, (rr4.mono key).set j (rv4.mono key)⟩
      have e' : (Γ.set i (some (.new (.lst (ds.set j r.d)))))[i]? = some (some (.new (.lst (ds.set j r.d)))) := by
        rw [List.getElem?_set_self (List.getElem?_eq_some_iff.1 e).1]
      have sub : ∀ b, Ws Z (Γ.set i (some (.new (.lst (ds.set j r.d))))) σ b → Ws Z Γ σ b := fun b hb => hb.elim .inl fun ⟨x, ⟨d, hd⟩, hx⟩ => .inr (by
        by_cases ix : i = x
        · subst ix
          exact ⟨i, ⟨_, e⟩, hx⟩
        · rw [List.getElem?_set_ne ix] at hd
          exact ⟨x, ⟨d, hd⟩, hx⟩)
      have rz5 : Rep Z.p C (Ws Z (Γ.set i (some (.new (.lst (ds.set j r.d))))) σ) (upd H4 c (.lst (vs.set j v))) s.d z := (rz4.mono key).mono fun b o nb h => ⟨fun hb => nb (sub b hb), h⟩
      have rr5 : RepL Z.p C (Ws Z (Γ.set i (some (.new (.lst (ds.set j r.d))))) σ) (upd H4 c (.lst (vs.set j v))) (ds.set j r.d) (vs.set j v) := ((rr4.mono key).set j (rv4.mono key)).mono fun b o nb h => ⟨fun hb => nb (sub b hb), h⟩
      have hc5 : upd H4 c (.lst (vs.set j v)) c = some (.lst (vs.set j v)) := upd_same
      generalize upd H4 c (.lst (vs.set j v)) = H5 at M4 rz5 rr5 hc5
      refine ⟨z, [], rfl, _, hw, ?_⟩
      refine h4 Z G _ σ H5 n3 _ _ M4 q3 fun l H6 lr n4 e6 p6 x6 q6 => ?_
      have M6 := M4.bt e6 p6
      have vl := x6.view fun a h => Z.papart M4.pdom h
      cases hl : lr.d with
      | int l' =>
        rw [hl] at q6 vl
        obtain ⟨j2, hj2, q6⟩ := q6
        have hc6 := e6 c _ (Z.apart h0) hc5
        have rr6 := rr5.mono (keepB (fun _ => Ws.pw) e6)
        have rz6 := rz5.mono (keepB (fun _ => Ws.pw) e6)
        have wc2 : Ws Z (Γ.set i (some (.new (.lst (ds.set j r.d))))) σ c := .inr ⟨i, ⟨⟨_, e'⟩, hw⟩⟩
        have key2 : ∀ b o, ¬ Ws Z (Γ.set i (some (.new (.lst (ds.set j r.d))))) σ b → H6 b = some o → ¬ Ws Z (Γ.set i (some (.new (.lst (ds.set j r.d))))) σ b ∧ upd H6 c (.lst ((vs.set j v).set j2 z)) b = some o := fun b o nb h => ⟨nb, by rw [upd_ne fun z => nb (by rw [z]; exact wc2)]; exact h⟩
        refine ⟨c, vs.set j v, l', j2, rfl, vl.int, hc6, by rw [List.length_set, rr.len]; exact hj2, rfl, ?_⟩
        have fin := M6.mut (d' := .lst ((ds.set j r.d).set j2 s.d)) e' hw ⟨_, upd_same, (rr6.mono key2).set j2 (rz6.mono key2)⟩
        rw [List.set_set] at fin
        exact L.nx _ σ _ n4 fin q6
      | _ => rw [hl] at q6; exact False.elim q6
    | _ => rw [hk] at q3; exact False.elim q3
  · exact q2.elim
end
end TL
end
-- TLZC
section
set_option Elab.async false
set_option linter.all false
set_option maxRecDepth 100000
set_option maxHeartbeats 4100000
/-! TLZC: repr of a list; defs that must know that no repr is under way -/
namespace L2
open PyProof.Rows PySem PySem.Spec
/-! ### defs that must know that no repr is under way -/
end L2
namespace TL
open L2 PyProof.Rows PySem PySem.Spec PySem.W TS RZ
end TL
end
-- TLZD
section
set_option Elab.async false
set_option linter.all false
set_option maxRecDepth 100000
set_option maxHeartbeats 4100000
/-! TLZD: the end of a law that must know that no repr is under way, with tables of code objects -/
namespace TL
open L2 PyProof.Rows PySem PySem.Spec
end TL
end
-- TLZE
section
set_option Elab.async false
set_option linter.all false
set_option maxRecDepth 100000
set_option maxHeartbeats 4100000
/-! TLZE: dicts with tuples as keys: a display of one pair, reading, the question whether a key stands -/
namespace TL
open L2 PyProof.Rows PySem PySem.Spec PySem.W
/-! ### what stands at a tuple -/
variable [TL.Tb]
theorem View.dt {p : Pz} {C : Addr} {W : Addr → Prop} {H : Hp} {ks : List (List Key)} {ds : List D} {v : V} (h : View p C W H (.dt ks ds) v) :
    ∃ a vs, v = .ref a ∧ H a = some (.dT (ks.zip vs)) ∧ ks.length = ds.length ∧ RepL p C W H ds vs := by
  rcases h with ⟨a, e, _, vs, ha, r⟩ | ⟨a, e, _, vs, ha, r⟩ <;> exact ⟨a, vs, e, ha, r⟩
/-! ### x[k] = e of an own dict, the key a tuple -/
/-! ### {k: e}, len, not in -/
end TL
end
-- TLZF
section
set_option Elab.async false
set_option linter.all false
set_option maxRecDepth 100000
set_option maxHeartbeats 4100000
/-! TLZF: how often a number stands in a list -/
namespace TL
open L2 PyProof.Rows PySem PySem.Spec PySem.W
end TL
end
-- TLZG
section
set_option Elab.async false
set_option linter.all false
set_option maxRecDepth 100000
set_option maxHeartbeats 4100000
/-! TLZG: list(d) of a dict with tuples as keys: where no own tuple stands -/
namespace TL
open L2 PyProof.Rows PySem PySem.Spec PySem.W TS RZ
variable [TL.Tb]
section
variable {C : Addr} {K : PySem.W.Frag} {Z : Zx}
/-! ### statements where no own tuple stands -/
/-- what a def may give back: nothing that could be a caller's tuple -/
def scl : D → Bool
  | .non => true
  | .bl _ => true
  | .int _ => true
  | .str _ => true
  | _ => false
def flatR : Rv → Bool
  | .val d => scl d
  | .new (.lst ds) => ds.all scl
  | _ => false
theorem rep_scl {p : Pz} {W W' : Addr → Prop} {H : Hp} : ∀ {d : D} {v : V}, scl d = true → Rep p C W H d v → Rep p C W' H d v
  | .non, _, _, h => h
  | .bl _, _, _, h => h
  | .int _, _, _, h => h
  | .str _, _, _, h => h
theorem repL_scl {p : Pz} {W W' : Addr → Prop} {H : Hp} : ∀ {ds : List D} {vs : List V}, ds.all scl = true → RepL p C W H ds vs → RepL p C W' H ds vs
  | [], _, _, h => h
  | d :: ds, _, e, ⟨v, vr, e2, h, r⟩ => by
    rw [List.all_cons, Bool.and_eq_true] at e
    exact ⟨v, vr, e2, rep_scl e.1 h, repL_scl e.2 r⟩
theorem ROk.flat {p : Pz} {W W' : Addr → Prop} {H H' : Hp} : ∀ {r : Rv} {v : V}, flatR r = true → ROk C p W' H H' r v → ROk C p W H H' r v
  | .val d, _, e, h => rep_scl e h
  | .new (.lst ds), _, e, ⟨a, ea, na, vs, ha, r⟩ => ⟨a, ea, na, vs, ha, repL_scl e r⟩
theorem ARep.mono {p : Pz} {W W' : Addr → Prop} {H : Hp} (sub : ∀ a, W' a → W a) : ∀ {ks : List Bool} {ds : List D} {vs : List V}, ARep C p W H ks ds vs → ARep C p W' H ks ds vs
  | [], _, _, h => h
  | k :: ks, _, _, ⟨d, dr, v, vr, e1, e2, h, q⟩ => by
    have key : ∀ c o, ¬ W c → H c = some o → ¬ W' c ∧ H c = some o := fun c o nc h => ⟨fun z => nc (sub c z), h⟩
    refine ⟨d, dr, v, vr, e1, e2, ?_, q.mono sub⟩
    cases k with
    | true =>
      rcases h with h | ⟨a, e, na, h⟩
      · exact .inl (Rep.mono key h)
      · exact .inr ⟨a, e, na, h.mono key fun _ h => h⟩
    | false => exact Rep.mono key h
end
end TL
end
-- TLZH
section
set_option Elab.async false
set_option linter.all false
set_option maxRecDepth 100000
set_option maxHeartbeats 4100000
/-! TLZH: d.get(tuple(x), None) of a dict with tuples as keys -/
namespace TL
open L2 PyProof.Rows PySem PySem.Spec PySem.W TS RZ
end TL
end
-- KZ
section
set_option Elab.async false
set_option linter.all false
set_option maxRecDepth 100000
set_option maxHeartbeats 4100000
/-! KZ: list(zip(a, b)) of two lists -/
namespace PySem
open L2
section
variable {P : Program} {w : World}
/-- a zip amid its turns, while a list is filled at S -/
structure ZSt (z TI TO i1 i2 l1 l2 S : Addr) (xs ys : Array Value) (i : Nat) (h : Heap) : Prop where
  pi : IsPair h TI (.ref i1) (.ref i2)
  a1 : h.IsListIter i1 l1 i
  a2 : h.IsListIter i2 l2 i
  b1 : h.IsList l1 xs
  b2 : h.IsList l2 ys
  to : ∃ o, h.get? TO = some o
  st : (IsZip h z TI TO .none ∧ ∃ a b, IsPair h TO a b) ∨ ∃ T f oT, IsZipHeld h z TI TO T f ∧ h.get? T = some oT ∧ T ≠ z ∧ T ≠ i1 ∧ T ≠ i2 ∧ T ≠ S
structure ZOff (z TI TO i1 i2 l1 l2 S : Addr) : Prop where
  z : z ≠ S
  TI : TI ≠ S
  TO : TO ≠ S
  i1 : i1 ≠ S
  i2 : i2 ≠ S
  l1 : l1 ≠ S
  l2 : l2 ≠ S
theorem ZSt.at {z TI TO i1 i2 l1 l2 S : Addr} {xs ys : Array Value} {i : Nat} {h h' : Heap} (f : ZOff z TI TO i1 i2 l1 l2 S) (x : ZSt z TI TO i1 i2 l1 l2 S xs ys i h) (k : ∀ b o, b ≠ S → h.get? b = some o → h'.get? b = some o) : ZSt z TI TO i1 i2 l1 l2 S xs ys i h' := by
  refine ⟨k _ _ f.TI x.pi, x.a1.at fun o e => k _ o f.i1 e, x.a2.at fun o e => k _ o f.i2 e, x.b1.at fun o e => k _ o f.l1 e, x.b2.at fun o e => k _ o f.l2 e, x.to.imp fun o e => k _ o f.TO e, ?_⟩
  rcases x.st with ⟨hz, a, b, hTO⟩ | ⟨T, g, oT, hz, hT, r1, r2, r3, r4⟩
  · exact .inl ⟨k _ _ f.z hz, a, b, k _ _ f.TO hTO⟩
  · exact .inr ⟨T, g, oT, k _ _ f.z hz, k _ _ r4 hT, r1, r2, r3, r4⟩
structure Nw (h0 : Heap) (z TO i1 i2 S : Addr) : Prop where
  z : h0.get? z = none
  TO : h0.get? TO = none
  i1 : h0.get? i1 = none
  i2 : h0.get? i2 = none
  S : h0.get? S = none
theorem Nw.ne {h0 : Heap} {a b : Addr} {o : Obj} (h : h0.get? a = none) (e : h0.get? b = some o) : b ≠ a := fun z => by rw [z, h] at e; cases e
/-- the tuples that were given out -/
structure Outs (z TO i1 i2 S : Addr) (xs ys : Array Value) (h0 h : Heap) (Ts : List Addr) : Prop where
  nd : Ts.Nodup
  off : ∀ T ∈ Ts, T ≠ z ∧ T ≠ TO ∧ T ≠ i1 ∧ T ≠ i2 ∧ T ≠ S ∧ h0.objs.size ≤ T
  at_ : ∀ (j : Nat) (T : Addr), Ts[j]? = some T → ∃ x y, xs[j]? = some x ∧ ys[j]? = some y ∧ IsPair h T x y
theorem Outs.at {z TO i1 i2 S : Addr} {xs ys : Array Value} {h0 h h' : Heap} {Ts : List Addr} (x : Outs z TO i1 i2 S xs ys h0 h Ts) (k : ∀ T ∈ Ts, ∀ o, h.get? T = some o → h'.get? T = some o) : Outs z TO i1 i2 S xs ys h0 h' Ts :=
  ⟨x.nd, x.off, fun j T hj => by
    obtain ⟨u, v, e1, e2, e3⟩ := x.at_ j T hj
    exact ⟨u, v, e1, e2, k T (List.mem_of_getElem? hj) _ e3⟩⟩
theorem Outs.push {z TO i1 i2 S T : Addr} {xs ys : Array Value} {h0 h : Heap} {Ts : List Addr} {x y : Value} (o : Outs z TO i1 i2 S xs ys h0 h Ts) (hx : xs[Ts.length]? = some x) (hy : ys[Ts.length]? = some y) (nT : T ∉ Ts)
    (off : T ≠ z ∧ T ≠ TO ∧ T ≠ i1 ∧ T ≠ i2 ∧ T ≠ S ∧ h0.objs.size ≤ T) (hT : IsPair h T x y) : Outs z TO i1 i2 S xs ys h0 h (Ts ++ [T]) where
  nd := List.nodup_append.2 ⟨o.nd, by simp, fun a ha b hb e => nT (by rw [List.mem_singleton.1 hb] at e; exact e ▸ ha)⟩
  off := fun a ha => by
    rcases List.mem_append.1 ha with ha | ha
    · exact o.off a ha
    · rw [List.mem_singleton.1 ha]; exact off
  at_ := fun j a hj => by
    rcases Nat.lt_or_ge j Ts.length with l | g
    · rw [List.getElem?_append_left l] at hj
      exact o.at_ j a hj
    · rw [List.getElem?_append_right g] at hj
      have e : j - Ts.length = 0 := by
        have := (List.getElem?_eq_some_iff.1 hj).1
        simp at this
        omega
      rw [e] at hj
      obtain rfl : T = a := by simpa using hj
      obtain rfl : j = Ts.length := by omega
      exact ⟨x, y, hx, hy, hT⟩
end
end PySem
end
-- KZP
section
set_option Elab.async false
set_option linter.all false
set_option maxRecDepth 100000
set_option maxHeartbeats 4100000
/-! KZP: list(zip(a, b)) as an expression -/
namespace L2
open PySem PySem.Spec PyProof.Rows
end L2
end
-- TLZI
section
set_option Elab.async false
set_option linter.all false
set_option maxRecDepth 100000
set_option maxHeartbeats 4100000
/-! TLZI: list(zip(a, b)) -/
namespace TL
open L2 PyProof.Rows PySem PySem.Spec PySem.W TS RZ
end TL
end
-- TLZJ
section
set_option Elab.async false
set_option linter.all false
set_option maxRecDepth 100000
set_option maxHeartbeats 4100000
/-! TLZJ: lists within a list that a call gave are new too; one of them is spoilt -/
namespace TL
open L2 PyProof.Rows PySem PySem.Spec PySem.W TS RZ
variable [TL.Tb]
section
variable {C : Addr} {K : PySem.W.Frag} {Z : Zx}
theorem RepL.at_ {p : Pz} {W : Addr → Prop} {H : Hp} : ∀ {ds : List D} {vs : List V} {j : Nat} {d : D}, RepL p C W H ds vs → ds[j]? = some d → ∃ v, vs[j]? = some v ∧ Rep p C W H d v
  | [], _, _, _, _, h => by simp at h
  | _ :: _, _, 0, d, ⟨v, vr, e, h, r⟩, hj => by
    obtain rfl := Option.some.inj hj
    exact ⟨v, by rw [e]; rfl, h⟩
  | _ :: _, _, j + 1, d, ⟨v, vr, e, h, r⟩, hj => by
    obtain ⟨w, h1, h2⟩ := RepL.at_ (j := j) r (by simpa using hj)
    exact ⟨w, by rw [e]; simpa using h1, h2⟩
/-! ### x = [f(..), g(..), h(..)]; if ..: return ..; x[2][k].append(e); .. -/
/-- as Nst, and the lists within the j-th are new and apart -/
structure NstD (H0 H : Hp) (L : Addr) (vs : List V) (rs : List Rv) (j : Nat) : Prop where
  n : Nst H0 H L vs rs 0
  dp : ∀ ds, rs[j]? = some (.new (.lst ds)) → ∀ (k : Nat) (es : List D), ds[k]? = some (.lst es) → ∃ a us b ws, vs[j]? = some (.ref a) ∧ H a = some (.lst us) ∧ us[k]? = some (.ref b) ∧ H0 b = none ∧ b ≠ L ∧ (∀ (i : Nat) (ds' : List D), rs[i]? = some (.new (.lst ds')) → vs[i]? ≠ some (.ref b)) ∧ H b = some (.lst ws) ∧ ws.length = es.length
section
variable {G : List (V × Rv)} {Γ : Gm} {σ : L2.St} {H0 H H' : Hp} {L : Addr} {vs : List V} {rs : List Rv} {i j k m n n0 : Nat}
theorem NstD.bt (N : NstD H0 H L vs rs j) (np : ∀ a, Z.p.On a → ∃ o, H0 a = some o) (e : Bt Z.p H H') : NstD H0 H' L vs rs j where
  n := N.n.bt np e
  dp := fun ds hj k es hk => by
    obtain ⟨a, us, b, ws, h1, h2, h3, h4, h5, h6, h7, h8⟩ := N.dp ds hj k es hk
    obtain ⟨a', us', g1, g2, _, g4, _, _⟩ := N.n.it j ds hj
    obtain rfl : a = a' := by rw [h1] at g1; injection g1 with g1; injection g1
    exact ⟨a, us, b, ws, h1, e _ _ (fun z => by obtain ⟨o, h⟩ := np _ z; rw [g2] at h; cases h) h2, h3, h4, h5, h6, e _ _ (fun z => by obtain ⟨o, h⟩ := np _ z; rw [h4] at h; cases h) h7, h8⟩
end
end
end TL
namespace TL
open L2 PyProof.Rows PySem PySem.Spec PySem.W TS RZ
end TL
/-! ### the place of a list in a list of lists -/
namespace TL
open L2 PyProof.Rows PySem PySem.Spec PySem.W TS RZ
variable [TL.Tb]
section
variable {C : Addr} {K : PySem.W.Frag} {Z : Zx}
theorem lay_strs : ∀ z : List Str, (∀ s ∈ z, PyData.strOk s = true) → PyData.canLayAll0 (toPs (z.map D.str)) = true ∧ PyData.depthAll (toPs (z.map D.str)) = 0
  | [], _ => ⟨rfl, rfl⟩
  | s :: r, ok => by
    obtain ⟨h1, h2⟩ := lay_strs r fun y hy => ok y (List.mem_cons_of_mem _ hy)
    have h0 := ok s List.mem_cons_self
    constructor
    · show PyData.canLayAll0 (PyData.str s :: toPs (r.map D.str)) = true
      simp [PyData.canLayAll0, PyData.canLay0, h1, h0]
    · show PyData.depthAll (PyData.str s :: toPs (r.map D.str)) = 0
      simp [PyData.depthAll, PyData.depth, h2]
end
end TL
namespace TL
open L2 PyProof.Rows PySem PySem.Spec PySem.W
end TL
end
-- KZS
section
set_option Elab.async false
set_option linter.all false
set_option maxRecDepth 100000
set_option maxHeartbeats 4100000
/-! KZS: a text times a number -/
namespace L2
open PySem PySem.Spec PyProof.Rows
end L2
end
-- TLZK
section
set_option Elab.async false
set_option linter.all false
set_option maxRecDepth 100000
set_option maxHeartbeats 4100000
/-! TLZK: a text times a number -/
namespace TL
open L2 PyProof.Rows PySem PySem.Spec PySem.W TS RZ
end TL
end
-- KZD
section
set_option Elab.async false
set_option linter.all false
set_option maxRecDepth 100000
set_option maxHeartbeats 4100000
/-! KZD: dict(zip(a, b)) of a list of texts and a list -/
namespace L2
open PySem PySem.Spec PyProof.Rows
end L2
end
-- TLZL
section
set_option Elab.async false
set_option linter.all false
set_option maxRecDepth 100000
set_option maxHeartbeats 4100000
/-! TLZL: dict(zip(a, b)) -/
namespace TL
open L2 PyProof.Rows PySem PySem.Spec PySem.W TS RZ
end TL
end
-- TLZM
section
set_option Elab.async false
set_option linter.all false
set_option maxRecDepth 100000
set_option maxHeartbeats 4100000
/-! TLZM: a def called by keywords alone -/
namespace L2
open PySem PySem.Spec PyProof.Rows
/-- the i-th parameter is the js[i]-th keyword's -/
def KBJ (K : PySem.W.Frag) (fd : FuncData) (ps ks : List Str) (js : List Nat) : Prop := ∀ (s : Shared) (ws : List Value), K.In s.heap → ws.length = ks.length → BindsTo s fd ⟨[], ks.zip ws⟩ (ps.zip (js.map fun j => ws.getD j .none))
theorem KBJ.all {K : PySem.W.Frag} {fd : FuncData} {ps ks : List Str} {js : List Nat} (h : ∀ ws : List Value, ws.length = ks.length → bindArgs fd ⟨[], ks.zip ws⟩ = pure (ps.zip (js.map fun j => ws.getD j .none))) : KBJ K fd ps ks js := fun _ ws _ hl => .of_eq (h ws hl)
def tCallJ (sp : Sp) (m : Nat) (js : List Nat) (E : XK) (tk : TA) : TE := fun σ H Q => tk σ H fun zs H1 => zs.length = m ∧ sp (js.map fun j => zs.getD j .non) H1 Q E
theorem vals_getD : ∀ {zs : List V} {ws : List Value}, Vals zs ws → ∀ j, RelV (zs.getD j .non) (ws.getD j .none)
  | _, _, .nil, j => by simp; rfl
  | _, _, .cons h r, 0 => by simpa using h
  | _, _, .cons h r, j + 1 => by simpa using vals_getD r j
theorem vals_pick {zs : List V} {ws : List Value} (r : Vals zs ws) : ∀ js : List Nat, Vals (js.map fun j => zs.getD j .non) (js.map fun j => ws.getD j .none)
  | [] => .nil
  | j :: js => .cons (vals_getD r j) (vals_pick r js)
section
variable {X : Cx} {CX : CXT} {k : Nat} {f : Addr} {fd : FuncData} {ps ks : List Str} {js : List Nat} {sp : Sp} {E : XK} {x : Str} {p pos : Pos} {kws : List Keyword} {tk : TA}
theorem run_fnj {pins : List (Addr × Obj)} {σ : L2.St} {H : Hp} {s : Shared} {Q : VK} {ws : List Value} {zs : List V} (F : FnOk X.prog X.w X.K X.mg X.base CX k f fd ps sp) (hr : Room k X.A) (hb : KBJ X.K fd ps ks js) (hx : Passes CX X E)
    (I : Inv X pins σ H s) (rz : Vals zs ws) (hl : zs.length = ks.length) (h : sp (js.map fun j => zs.getD j .non) H Q E) : wpAny (model X.prog X.w) X.A (call (.ref f) ([] ++ []) (ks.zip ws)) (EP X pins σ Q) X.xe s := by
  have r2 := vals_pick rz js
  refine wpAny_call (codeAny_mono (F.run X.A X.stack s H ⟨[], ks.zip ws⟩ _ _ Q E hr I.env0 (hb s ws I.kIn (by rw [← rz.length]; exact hl)) r2 h) fun r s' hq => ?_)
  cases r with
  | error e => exact hx pins σ H s e s' I hq
  | ok fl =>
    cases fl with
    | ret u => exact I.after hq
    | next => exact False.elim hq
    | brk => exact False.elim hq
    | cont => exact False.elim hq
/-- f(k = v, ..), nothing by position -/
theorem pe_callJ (F : FnOk X.prog X.w X.K X.mg X.base CX k f fd ps sp) (hr : Room k X.A) (hg : Gl X x) (hm : X.mg x = some (.ref f)) (hk : PySem.W.keepIn X.K (.ref f) = true) (hb : KBJ X.K fd ps ks js) (hx : Passes CX X E)
    (hkw : PK X kws tk) (hall : (backToKw pos (keywordEach kws X.env)).all (·.1.isSome) = true := by rfl) (hks : (backToKw pos (keywordEach kws X.env)).filterMap (·.1) = ks := by rfl)
    (hdb : (x == ("__debug__" : Str)) = false := by decide)
    (hpl : ((backTo pos (starEach [] X.env)).any (·.1) || (backToKw pos (keywordEach kws X.env)).any (·.1.isNone)) = false := by rfl) :
    PE X (.Call (.Name x p) [] kws pos) (tCallJ sp ks.length js E tk) := by
  refine ⟨fun pins s σ H Q I h => ?_⟩
  refine wpAny_Call_Name_kw (ld_glob I hg hm ?_ hdb)
  refine PySem.W.callWith_KW0 (h₀ := X.base) I.ok.mod.kin hk hall (thn (hkw.run pos pins s σ H _ I h) fun ws s2 ⟨zs, H2, I2, rz, hl, q2⟩ => ⟨I2.kIn, ?_⟩) hpl
  rw [hks]
  exact run_fnj F hr hb hx I2 rz hl q2
end
end L2
namespace TL
open L2 PyProof.Rows PySem PySem.Spec PySem.W TS RZ
variable [TL.Tb]
def tlCallJ (ks : List Bool) (S : ST) (m : Nat) (js : List Nat) (T : TXs) : TX := fun Γ n R => T Γ n fun rs n1 => rs.length = m ∧ kOk ks (js.map fun j => rs.getD j (.val .non)) = true ∧ S ((js.map fun j => rs.getD j (.val .non)).map Rv.d) n1 R
section
variable {C : Addr} {Z : Zx} {W : Addr → Prop} {H H1 : Hp}
theorem XOks.lenJ : ∀ {rs : List Rv} {vs : List V}, XOks C Z W H H1 rs vs → vs.length = rs.length
  | [], _, e => by rw [e]; rfl
  | r :: rs, _, ⟨v, vr, e, x, q⟩ => by rw [e, List.length_cons, List.length_cons, q.lenJ]
theorem XOks.getD : ∀ {rs : List Rv} {vs : List V}, XOks C Z W H H1 rs vs → ∀ j, XOk C Z W H H1 (rs.getD j (.val .non)) (vs.getD j .non)
  | [], _, e, j => by rw [e]; simp; exact (rfl : V.non = V.non)
  | r :: rs, _, ⟨v, vr, e, x, q⟩, 0 => by rw [e]; simpa using x
  | r :: rs, _, ⟨v, vr, e, x, q⟩, j + 1 => by rw [e]; simpa using q.getD j
theorem XOks.pick {rs : List Rv} {vs : List V} (x : XOks C Z W H H1 rs vs) : ∀ js : List Nat, XOks C Z W H H1 (js.map fun j => rs.getD j (.val .non)) (js.map fun j => vs.getD j .non)
  | [] => rfl
  | j :: js => ⟨_, _, rfl, x.getD j, x.pick js⟩
theorem re_callJ {ks : List Bool} {S : ST} {m : Nat} {js : List Nat} {ta : TA} {T : TXs} {E : XK} (ha : RA C Z ta T) : RE C Z (tCallJ (spOf C ks S) m js E ta) (tlCallJ ks S m js T) := by
  intro G Γ σ H n Q R M h q
  refine ha G Γ σ H n _ _ M h fun vs H1 rs n1 e1 p1 x1 ⟨l1, k1, h1⟩ => ⟨by rw [x1.lenJ, l1], ?_⟩
  have M1 := M.bt e1 p1
  exact ⟨Z.p, Ws Z Γ σ, n1, (js.map fun j => rs.getD j (.val .non)).map Rv.d, R, fun a w => M1.wdom w, fun a z => Ws.pw z, p1, (x1.pick js).args (fun a w => M.wdom w) (fun a h => Z.papart M.pdom h) k1, h1, fun v H' r n' b pa ro hr => q v H' r n' (e1.trans b) pa (ro.xok e1 M1.pdom) hr⟩
end
/-- a def of the module's that keeps its promise when it is called by these keywords -/
def HasJ (P : Program) (w : World) (K : PySem.W.Frag) (mg : Str → Option Value) (base : Heap) (C : Addr) (k : Nat) (x : Str) (ps : List Str) (ks : List Bool) (S : ST) (kw : List Str) (js : List Nat) : Prop :=
  ∃ f fd, FnOk P w K mg base CX0 k f fd ps (spOf C ks S) ∧ mg x = some (.ref f) ∧ PySem.W.keepIn K (.ref f) = true ∧ KBJ K fd ps kw js
theorem _root_.L2.Fun.bindsJ {K : PySem.W.Frag} {x qual : Str} {st : Stmt} {f : Addr} {fd : FuncData} {ps kw : List Str} {js : List Nat} (F : Fun K x qual st f fd)
    (h : ∀ (kV doc pm : Value) (an : Option Addr) (cdv ct : Value) (ws : List Value), ws.length = kw.length → bindArgs (PySem.W.fnOf x qual (defArgs st) (defBody st) (defScope st) .none kV doc pm an cdv ct) ⟨[], kw.zip ws⟩ = pure (ps.zip (js.map fun j => ws.getD j .none))) : KBJ K fd ps kw js := by
  obtain ⟨oc, od, kV, doc, pm, an, cdv, ct, osl, rfl, lk, hcd⟩ := F.ex
  exact .all (h kV doc pm an cdv ct)
end TL
end
-- TLZN
section
set_option Elab.async false
set_option linter.all false
set_option maxRecDepth 100000
set_option maxHeartbeats 4100000
/-! TLZN: own lists and dicts emptied, a list's item taken out -/
namespace L2
open PySem PySem.Spec PyProof.Rows
end L2
namespace TL
open L2 PyProof.Rows PySem PySem.Spec PySem.W TS RZ
variable [TL.Tb]
section
variable {C : Addr} {K : PySem.W.Frag}
theorem RepL.erase {p : Pz} {W : Addr → Prop} {H : Hp} : ∀ {ds : List D} {vs : List V} (k : Nat), RepL p C W H ds vs → RepL p C W H (ds.eraseIdx k) (vs.eraseIdx k)
  | [], _, k, e => by rw [e]; exact (rfl : ([] : List V) = [])
  | d :: r, _, 0, ⟨v, vr, e, h, q⟩ => by rw [e]; exact q
  | d :: r, _, k + 1, ⟨v, vr, e, h, q⟩ => by rw [e]; exact ⟨v, vr.eraseIdx k, rfl, h, q.erase k⟩
theorem seq_nat {k n : Nat} (h : k < n) : seqIndex? ((k : Nat) : Int) n = some k := by
  unfold seqIndex?
  have h1 : ¬ ((k : Nat) : Int) < 0 := by omega
  simp only [if_neg h1]
  rw [if_pos (by simp; omega)]
  simp
end
end TL
end
-- TLZO
section
set_option Elab.async false
set_option linter.all false
set_option maxRecDepth 100000
set_option maxHeartbeats 4100000
/-! TLZO: d[k], d[l] = a, b of an own dict that has both keys -/
namespace TL
open L2 PyProof.Rows PySem PySem.Spec PySem.W TS RZ
end TL
end
-- TLZP
section
set_option Elab.async false
set_option linter.all false
set_option maxRecDepth 100000
set_option maxHeartbeats 4100000
/-! TLZP: sorted of a list of data of one form -/
namespace L2
open PySem PySem.Spec PySem.W PyProof.Rows
/-- sorted(xs): bs is what the items are, in order -/
def rSortedD (K : PySem.W.Frag) : List V → Hp → VK → Prop := fun vs H Q => ∃ (β : Type) (enc : β → PyData) (S : V → β → Prop) (a : Addr) (xs : List V) (bs : List β), vs = [V.ref a] ∧ SqL K H a xs ∧ EachIs S xs bs ∧ (∀ v b, S v b → Dp K H v (enc b)) ∧
  AllAlike (bs.map enc) ∧ Sortable (bs.map enc) ∧ (∀ b ∈ bs, (enc b).depth ≤ 50) ∧ ∀ (ys : List V) (p : Addr), EachIs S ys (bs.mergeSort (dataLe false enc)) → H p = none → Q (.ref p) (upd H p (.lst ys))
theorem each_split {β : Type} {S : V → β → Prop} : ∀ {out : List Value} {bs : List β}, EachIs (fun u b => ∃ v, RelV v u ∧ S v b) out bs → ∃ ys : List V, Vals ys out ∧ EachIs S ys bs
  | _, _, .nil => ⟨[], .nil, .nil⟩
  | _, _, .cons ⟨v, r, h⟩ q => by
    obtain ⟨ys, r2, h2⟩ := each_split q
    exact ⟨v :: ys, .cons r r2, .cons h h2⟩
theorem each_join {β : Type} {S : V → β → Prop} : ∀ {xs : List V} {its : List Value} {bs : List β}, Vals xs its → EachIs S xs bs → EachIs (fun u b => ∃ v, RelV v u ∧ S v b) its bs
  | _, _, _, .nil, .nil => .nil
  | _, _, _, .cons r q, .cons h z => .cons ⟨_, r, h⟩ (each_join q z)
section
variable {X : Cx}
theorem cr_sortedD (hu : X.A.units + 62 < cLine) : CallR X (.builtin "sorted") (rSortedD X.K) := by
  intro pins s σ H vs us Q I r h
  obtain ⟨β, enc, S, a, xs, bs, rfl, hs, hp, hd, al, so, dp, q⟩ := h
  obtain ⟨its, rv, hl, hz⟩ := I.list hs
  obtain ⟨u, rfl, ru⟩ := vals1 r
  obtain rfl : u = Value.ref a := ru
  have e : EachIs (fun u b => ∃ v, RelV v u ∧ S v b) its bs := each_join rv hp
  have er : EachIs (fun u b => ∃ as, Reads s.heap u (enc b) as) its bs := e.mono fun u b ⟨v, r, sv⟩ => Dp.reads I (enc b) v u (hd v b sv) r
  refine sorted_data (enc := enc) hl.isList e er al so (by rw [← e.length, ← rv.length]; exact hz) (fun b hb => by have := dp b hb; omega) fun out lo eo => ?_
  obtain ⟨ys, ry, ey⟩ := each_split eo
  obtain ⟨n, hn⟩ := sortedAll_at s.heap its out.toArray
  refine ⟨.ref (s.heap.objs.size + 1), upd H (s.heap.objs.size + 1) (.lst ys), I.laid (t' := s.toks) (fun b o e => sortedAll_old e) (Nat.le_succ _) ⟨?_, out, n, ry, hn⟩, rfl, q ys _ ey (I.hok.fresh (Nat.le_succ _))⟩
  rw [ey.length, ← eo.length, lo, ← e.length, ← rv.length]
  exact hz
end
end L2
namespace TL
open L2 PyProof.Rows PySem PySem.Spec PySem.W TS RZ
variable [TL.Tb]
section
variable {C : Addr} {K : PySem.W.Frag} {Z : Zx}
theorem each_rep {p : Pz} {W : Addr → Prop} {H : Hp} : ∀ {ds : List D} {vs : List V}, RepL p C W H ds vs → EachIs (fun v d => Rep p C W H d v ∧ d ∈ ds) vs ds
  | [], _, e => by rw [show _ = [] from e]; exact .nil
  | d :: r, _, ⟨v, vr, e, h, q⟩ => by
    rw [e]
    exact .cons ⟨h, List.mem_cons_self⟩ ((each_rep q).mono fun _ _ ⟨a, b⟩ => ⟨a, List.mem_cons_of_mem _ b⟩)
theorem rep_each {p : Pz} {W : Addr → Prop} {H : Hp} {L : List D} : ∀ {ds : List D} {vs : List V}, EachIs (fun v d => Rep p C W H d v ∧ d ∈ L) vs ds → RepL p C W H ds vs
  | _, _, .nil => rfl
  | _, _, .cons ⟨h, _⟩ q => ⟨_, _, rfl, h, rep_each q⟩
theorem plns_mem : ∀ {ds : List D}, plns ds = true → ∀ d ∈ ds, pln d = true
  | [], _, d, h => nomatch h
  | e :: r, pl, d, h => by
    have pl : (pln e && plns r) = true := by simpa using pl
    rw [Bool.and_eq_true] at pl
    rcases List.mem_cons.1 h with rfl | h
    · exact pl.1
    · exact plns_mem pl.2 d h
def dSortedD : List D → (Rv → Prop) → Prop
  | [.lst ds], R => plns ds = true ∧ AllAlike (ds.map toP) ∧ Sortable (ds.map toP) ∧ (∀ d ∈ ds, dep d ≤ 50) ∧ R (.new (.lst (ds.mergeSort (dataLe false toP))))
  | _, _ => False
theorem rn_sortedD : RnT C Z (rSortedD K) dSortedD := by
  intro W H xs ds R Q hp dm hx h q
  unfold dSortedD at h
  split at h
  · next ds0 =>
    obtain ⟨pl, al, so, dp, h⟩ := h
    obtain ⟨v, rfl, hv⟩ := hx.one
    obtain ⟨a, vs, rfl, ha, r⟩ := hv.lst
    refine ⟨D, toP, fun v d => Rep Z.p C W H d v ∧ d ∈ ds0, a, vs, ds0, rfl, SqL.of ha, each_rep r, fun v d ⟨h1, h2⟩ => h1.dp (plns_mem pl d h2), al, so, fun d hd => Nat.le_trans (dep_depth d) (dp d hd), fun ys p ey np => ?_⟩
    exact new_lst (rep_each ey) h q p np
  · exact h.elim
end
end TL
end
-- TLZQ
section
set_option Elab.async false
set_option linter.all false
set_option maxRecDepth 100000
set_option maxHeartbeats 4100000
/-! TLZQ: {} -/
namespace TL
open L2 PyProof.Rows PySem PySem.Spec PySem.W TS RZ
end TL
end
-- TLZR
section
set_option Elab.async false
set_option linter.all false
set_option maxRecDepth 100000
set_option maxHeartbeats 4100000
/-! TLZR: walks of dicts: while they run the dict is locked -/
namespace L2
open PySem PySem.Spec PyProof.Rows
/-- locked while it runs, where it is not locked already -/
def tLockO (t : TE) : TE := fun σ H Q => t σ H Q ∨ tLockE t σ H Q
theorem pe_lockO {X : Cx} {e : Expr} {t : TE} (h : PE X e t) : PE X e (tLockO t) := ⟨fun pins s σ H Q I hw => hw.elim (fun z => h.run pins s σ H Q I z) fun z => (pe_lock h).run pins s σ H Q I z⟩
end L2
namespace TL
open L2 PyProof.Rows PySem PySem.Spec PySem.W TS RZ
variable [TL.Tb]
/-- the dict at a is locked or set free, all else stays -/
structure Swp (H H' : Hp) (a : Addr) (kvs : List (Key × V)) : Prop where
  off : ∀ b, b ≠ a → H' b = H b
  one : Rd H a (.dK kvs)
  two : Rd H' a (.dK kvs)
section
variable {p : Pz} {C : Addr} {W : Addr → Prop} {H H' : Hp} {a : Addr} {kvs : List (Key × V)}
theorem rd_one {x y : List (Key × V)} (h1 : Rd H a (.dK x)) (h2 : Rd H a (.dK y)) : x = y := by
  rcases h1 with h1 | ⟨o1, h1⟩ <;> rcases h2 with h2 | ⟨o2, h2⟩ <;> (rw [h1] at h2; cases h2; try rfl)
theorem Swp.keep (s : Swp H H' a kvs) {b : Addr} {o : HO} (h : H b = some o) (n1 : ∀ k, o ≠ .dK k) (n2 : ∀ q k, o ≠ .frz q (.dK k)) : H' b = some o := by
  by_cases e : b = a
  · subst e
    rcases s.one with z | ⟨q, z⟩
    · rw [h] at z; exact absurd (Option.some.inj z) (n1 _)
    · rw [h] at z; exact absurd (Option.some.inj z) (n2 _ _)
  · rw [s.off b e]; exact h
theorem Swp.rd (s : Swp H H' a kvs) {b : Addr} {x : List (Key × V)} (h : Rd H b (.dK x)) : Rd H' b (.dK x) := by
  by_cases e : b = a
  · subst e
    rw [rd_one h s.one]
    exact s.two
  · exact h.elim (fun z => .inl (by rw [s.off b e]; exact z)) fun ⟨o, z⟩ => .inr ⟨o, by rw [s.off b e]; exact z⟩
theorem Swp.none (s : Swp H H' a kvs) {b : Addr} (h : H b = none) : H' b = none := by
  rw [s.off b fun z => ?_]
  · exact h
  · rw [z] at h
    obtain ⟨o, e⟩ := rd_at s.one
    rw [h] at e
    cases e
theorem Swp.symm (s : Swp H H' a kvs) : Swp H' H a kvs := ⟨fun b n => (s.off b n).symm, s.two, s.one⟩
theorem Swp.some (s : Swp H H' a kvs) {b : Addr} {o : HO} (h : H b = some o) : ∃ o', H' b = some o' := by
  cases e : H' b with
  | none => rw [s.symm.none e] at h; cases h
  | some o' => exact ⟨o', rfl⟩
mutual
theorem Rep.swp (s : Swp H H' a kvs) : ∀ {d : D} {v : V}, Rep p C W H d v → Rep p C W H' d v
  | .non, _, h => h
  | .bl _, _, h => h
  | .int _, _, h => h
  | .str _, _, h => h
  | .lst ds, _, ⟨b, e, nb, vs, hb, r⟩ => ⟨b, e, nb, vs, s.keep hb (fun _ z => by cases z) (fun _ _ z => by cases z), RepL.swp s r⟩
  | .tup ds, _, ⟨b, e, nb, vs, hb, r⟩ => ⟨b, e, nb, vs, s.keep hb (fun _ z => by cases z) (fun _ _ z => by cases z), RepL.swp s r⟩
  | .dk ks ds, _, ⟨b, e, nb, vs, hb, l, r⟩ => ⟨b, e, nb, vs, s.rd hb, l, RepL.swp s r⟩
  | .dt ks ds, _, ⟨b, e, nb, vs, hb, l, r⟩ => ⟨b, e, nb, vs, s.keep hb (fun _ z => by cases z) (fun _ _ z => by cases z), l, RepL.swp s r⟩
  | .sh xs ys, _, ⟨b, e, nb, dx, c, r, hb, hc, hr, nc, nr⟩ => ⟨b, e, nb, dx, c, r, s.keep hb (fun _ z => by cases z) (fun _ _ z => by cases z), s.keep hc (fun _ z => by cases z) (fun _ _ z => by cases z), s.keep hr (fun _ z => by cases z) (fun _ _ z => by cases z), nc, nr⟩
  | .ob _ _ ds, _, ⟨b, e, nb, dx, vs, hb, l, r⟩ => ⟨b, e, nb, dx, vs, s.keep hb (fun _ z => by cases z) (fun _ _ z => by cases z), l, RepL.swp s r⟩
  | .purse, _, h => h
  | .pin _, _, ⟨e, nb, o, h⟩ => ⟨e, nb, s.some h⟩
  | .er _ _, _, ⟨b, e, nb, dd, w, hb, nd, hd, r⟩ => ⟨b, e, nb, dd, w, s.keep hb (fun _ z => by unfold ErO at z; cases z) (fun _ _ z => by unfold ErO at z; cases z), nd, s.keep hd (fun _ z => by cases z) (fun _ _ z => by cases z), Rep.swp s r⟩
theorem RepL.swp (s : Swp H H' a kvs) : ∀ {ds : List D} {vs : List V}, RepL p C W H ds vs → RepL p C W H' ds vs
  | [], _, h => h
  | _ :: _, _, ⟨v, vr, e, h, r⟩ => ⟨v, vr, e, Rep.swp s h, RepL.swp s r⟩
end
theorem RepV.swp (s : Swp H H' a kvs) {b : Addr} : ∀ {d : D}, RepV p C W H b d → RepV p C W H' b d
  | .non, h => h
  | .bl _, h => h
  | .int _, h => h
  | .str _, h => h
  | .lst ds, ⟨vs, hb, r⟩ => ⟨vs, s.keep hb (fun _ z => by cases z) (fun _ _ z => by cases z), RepL.swp s r⟩
  | .tup ds, ⟨vs, hb, r⟩ => ⟨vs, s.keep hb (fun _ z => by cases z) (fun _ _ z => by cases z), RepL.swp s r⟩
  | .dk ks ds, ⟨vs, hb, l, r⟩ => ⟨vs, s.rd hb, l, RepL.swp s r⟩
  | .dt ks ds, ⟨vs, hb, l, r⟩ => ⟨vs, s.keep hb (fun _ z => by cases z) (fun _ _ z => by cases z), l, RepL.swp s r⟩
  | .sh xs ys, ⟨dx, c, r, hb, hc, hr, nc, nr⟩ => ⟨dx, c, r, s.keep hb (fun _ z => by cases z) (fun _ _ z => by cases z), s.keep hc (fun _ z => by cases z) (fun _ _ z => by cases z), s.keep hr (fun _ z => by cases z) (fun _ _ z => by cases z), nc, nr⟩
  | .ob _ _ ds, ⟨dx, vs, hb, l, r⟩ => ⟨dx, vs, s.keep hb (fun _ z => by cases z) (fun _ _ z => by cases z), l, RepL.swp s r⟩
  | .purse, h => h
  | .pin _, h => h
  | .er _ _, h => h
/-- of another place -/
theorem RepO.swp (s : Swp H H' a kvs) {b : Addr} (ne : b ≠ a) : ∀ {d : D}, RepO p C W H b d → RepO p C W H' b d
  | .non, h => h
  | .bl _, h => h
  | .int _, h => h
  | .str _, h => h
  | .lst ds, ⟨vs, hb, r⟩ => ⟨vs, by rw [s.off b ne]; exact hb, RepL.swp s r⟩
  | .tup ds, ⟨vs, hb, r⟩ => ⟨vs, by rw [s.off b ne]; exact hb, RepL.swp s r⟩
  | .dk ks ds, ⟨vs, hb, l, r⟩ => ⟨vs, by rw [s.off b ne]; exact hb, l, RepL.swp s r⟩
  | .dt ks ds, ⟨vs, hb, l, r⟩ => ⟨vs, by rw [s.off b ne]; exact hb, l, RepL.swp s r⟩
  | .sh xs ys, ⟨dx, c, r, hb, hc, hr, nc, nr⟩ => ⟨dx, c, r, by rw [s.off b ne]; exact hb, s.keep hc (fun _ z => by cases z) (fun _ _ z => by cases z), s.keep hr (fun _ z => by cases z) (fun _ _ z => by cases z), nc, nr⟩
  | .ob _ _ ds, ⟨dx, vs, hb, l, r⟩ => ⟨dx, vs, by rw [s.off b ne]; exact hb, l, RepL.swp s r⟩
  | .purse, h => h
  | .pin _, h => h
  | .er _ _, h => h
theorem PAt.swp {n : Nat} (s : Swp H H' a kvs) (h : PAt p H n) : PAt p H' n := by
  refine ⟨?_, fun q hq => ?_⟩
  · have h := h.1
    cases e : p.pu with
    | none => trivial
    | some b =>
      rw [e] at h
      obtain ⟨k, ⟨p0, p1, p2, p3, h1, h2⟩, h3⟩ := h
      exact ⟨k, ⟨p0, p1, p2, p3, s.keep h1 (fun _ z => by cases z) (fun _ _ z => by cases z), h2⟩, h3⟩
  · obtain ⟨ps, h1, h2, h3⟩ := h.2 q hq
    refine ⟨ps, s.keep h1 (fun _ z => by cases z) (fun _ _ z => by cases z), h2, fun pos cv hc => ?_⟩
    obtain ⟨c, e1, e2⟩ := h3 pos cv hc
    exact ⟨c, e1, s.keep e2 (fun _ z => by cases z) (fun _ _ z => by cases z)⟩
end
section
variable {C : Addr} {Z : Zx} {G : List (V × Rv)} {Γ : Gm} {σ : L2.St} {H H' : Hp} {n : Nat} {a : Addr} {kvs : List (Key × V)}
/-- the place seen anew, a dict locked -/
theorem Mt.locked (M : Mt C Z G Γ σ H n) (s : Swp H H' a kvs) (dom : ∀ b, Ws Z Γ σ b → ∃ o, H' b = some o) (pw : ∀ b, Z.p.On b → Ws Z Γ σ b) : Mt C (Zx.at Z.p (Ws Z Γ σ) H' dom pw) [] (borG Γ) σ H' n := by
  refine ⟨by rw [borG, List.length_map]; exact M.len, .refl, M.pa.swp s, fun i r hi => ?_, fun g hg => (nomatch hg), fun i j b h => absurd h.1.choose_spec (noNew_bor i _)⟩
  have sub : ∀ b, Ws (Zx.at Z.p (Ws Z Γ σ) H' dom pw) (borG Γ) σ b → Ws Z Γ σ b := fun b w => noNew_bor.ws b w
  have key : ∀ c o, ¬ Ws Z Γ σ c → H' c = some o → ¬ Ws (Zx.at Z.p (Ws Z Γ σ) H' dom pw) (borG Γ) σ c ∧ H' c = some o := fun c o nc h => ⟨fun z => nc (sub c z), h⟩
  rw [borG, List.getElem?_map] at hi
  obtain ⟨o, ho, e2⟩ := Option.map_eq_some_iff.1 hi
  cases o with
  | none => cases e2
  | some r0 =>
    obtain rfl := Option.some.inj e2
    obtain ⟨v, hv, k⟩ := M.sl i r0 ho
    refine ⟨v, hv, ?_⟩
    match r0, k with
    | .val d, k => exact (Rep.swp s k).mono key
    | .new d, ⟨b, eb, h0, r⟩ =>
      have r' := r.v.swp s
      obtain ⟨o, ho⟩ := r'.at
      exact .inr ⟨b, o, eb, Z.apart h0, ho, r'.mono key fun _ h => h⟩
    | .bor d, .inl k => exact .inl ((Rep.swp s k).mono key)
    | .bor d, .inr ⟨b, o, eb, nb, h0, r⟩ =>
      have r' := r.swp s
      obtain ⟨o, ho⟩ := r'.at
      exact .inr ⟨b, o, eb, nb, ho, r'.mono key fun _ h => h⟩
/-- a reading where the i-th slot is a locked dict -/
def REK (C : Addr) (i : Nat) (t : TE) (T : List Key → List D → TX) : Prop := ∀ (Z : Zx) (G : List (V × Rv)) (Γ : Gm) (σ : L2.St) (H : Hp) (n : Nat) (Q : VK) (R : Rv → Nat → Prop) (a : Addr) (od : Obj) (ks : List Key) (ds : List D) (vs : List V), Mt C Z G Γ σ H n →
  σ[i]? = some (some (.ref a)) → ¬ Z.p.On a → Z.H0 a = some (.frz od (.dK (ks.zip vs))) → ks.length = ds.length → RepL Z.p C (Ws Z Γ σ) H ds vs → T ks ds Γ n R →
  (∀ v H' r n', Bt Z.p H H' → PAt Z.p H' n' → XOk C Z (Ws Z Γ σ) H H' r v → R r n' → Q v H') → t σ H Q
def tlLockO (i : Nat) (T : List Key → List D → TX) : TX := fun Γ n R => match Γ[i]? with
  | some (some (.val (.dk ks ds))) => T ks ds (borG Γ) n fun r n1 => sto r = true ∧ R r n1
  | some (some (.bor (.dk ks ds))) => T ks ds (borG Γ) n fun r n1 => sto r = true ∧ R r n1
  | _ => False
theorem re_lockO {i : Nat} {t : TE} {T : List Key → List D → TX} (ht : REK C i t T) : RE C Z (tLockO t) (tlLockO i T) := by
  intro G Γ σ H n Q R M h q
  have key : ∀ (r : Rv) (ks : List Key) (ds : List D), Γ[i]? = some (some r) → (r = .val (.dk ks ds) ∨ r = .bor (.dk ks ds)) → T ks ds (borG Γ) n (fun r n1 => sto r = true ∧ R r n1) → tLockO t σ H Q := by
    intro r ks ds hi hr h
    obtain ⟨v, hv, k⟩ := M.sl i r hi
    have vw : ∃ a vs, v = .ref a ∧ ¬ Z.p.On a ∧ Rd H a (.dK (ks.zip vs)) ∧ ks.length = ds.length ∧ RepL Z.p C (Ws Z Γ σ) H ds vs := by
      rcases hr with rfl | rfl
      · obtain ⟨a, e, na, vs, ha, l, rr⟩ := k
        exact ⟨a, vs, e, fun z => na (Ws.pw z), ha, l, rr⟩
      · rcases k with ⟨a, e, na, vs, ha, l, rr⟩ | ⟨a, o, e, na, h0, vs, ha, l, rr⟩
        · exact ⟨a, vs, e, fun z => na (Ws.pw z), ha, l, rr⟩
        · exact ⟨a, vs, e, na, ha, l, rr⟩
    obtain ⟨a, vs, rfl, na, ha, l, rr⟩ := vw
    have core : ∀ (H' : Hp) (od : Obj) (Q' : VK), H' a = some (.frz od (.dK (ks.zip vs))) → Swp H H' a (ks.zip vs) → (∀ v Hf r n', Bt Z.p H' Hf → PAt Z.p Hf n' → sto r = true → XOk C Z (Ws Z Γ σ) H' Hf r v → R r n' → Q' v Hf) → t σ H' Q' := by
      intro H' od Q' hl s q'
      have dom : ∀ b, Ws Z Γ σ b → ∃ o, H' b = some o := fun b w => by
        obtain ⟨o, ho⟩ := M.wdom w
        exact s.some ho
      have M2 := M.locked s dom fun b z => Ws.pw z
      have sub : ∀ b, Ws (Zx.at Z.p (Ws Z Γ σ) H' dom fun b z => Ws.pw z) (borG Γ) σ b → Ws Z Γ σ b := fun b w => noNew_bor.ws b w
      have sup : ∀ b, Ws Z Γ σ b → Ws (Zx.at Z.p (Ws Z Γ σ) H' dom fun b z => Ws.pw z) (borG Γ) σ b := fun b w => .inl w
      refine ht _ [] (borG Γ) σ H' n Q' _ a od ks ds vs M2 hv na hl l ((RepL.swp s rr).mono fun c o nc h => ⟨fun z => nc (sub c z), h⟩) h fun v Hf r n' b pa x ⟨st, hr⟩ => ?_
      refine q' v Hf r n' b pa st ?_ hr
      match r, st, x with
      | .val d, _, x => exact Rep.mono (fun c o nc h => ⟨fun z => nc (sup c z), h⟩) x
      | .new d, _, ⟨b, eb, nb, r⟩ => exact ⟨b, eb, nb, r.mono (fun c o nc h => ⟨fun z => nc (z.imp (sup c) id), h⟩) fun _ h => h⟩
    rcases ha with ha | ⟨od, ha⟩
    · refine .inr ⟨a, _, ha, trivial, fun od => ?_⟩
      have s : Swp H (upd H a (.frz od (.dK (ks.zip vs)))) a (ks.zip vs) := ⟨fun b nb => upd_ne nb, .inl ha, .inr ⟨od, upd_same⟩⟩
      refine core _ od _ upd_same s fun v Hf r n' b pa st x hr => ?_
      have ha2 : Hf a = some (.frz od (.dK (ks.zip vs))) := b a _ na upd_same
      have s2 : Swp Hf (upd Hf a (.dK (ks.zip vs))) a (ks.zip vs) := ⟨fun b nb => upd_ne nb, .inr ⟨od, ha2⟩, .inl upd_same⟩
      refine ⟨ha2, q v _ r n' (fun c o nc h => ?_) (pa.swp s2) ?_ hr⟩
      · by_cases e : c = a
        · subst e
          rw [ha] at h
          cases h
          exact upd_same
        · rw [upd_ne e]
          exact b c o nc (by rw [upd_ne e]; exact h)
      · match r, st, x with
        | .val d, _, x => exact Rep.swp s2 x
        | .new d, _, ⟨b, eb, nb, r⟩ =>
          have ne : b ≠ a := fun z => by rw [z, upd_same] at nb; cases nb
          exact ⟨b, eb, by rw [upd_ne ne] at nb; exact nb, r.swp s2 ne⟩
    · exact .inl (core H od Q ha ⟨fun b _ => rfl, .inr ⟨od, ha⟩, .inr ⟨od, ha⟩⟩ fun v Hf r n' b pa st x hr => q v Hf r n' b pa x hr)
  unfold tlLockO at h
  split at h
  · next ks ds e => exact key _ ks ds e (.inl rfl) h
  · next ks ds e => exact key _ ks ds e (.inr rfl) h
  · exact h.elim
/-- [e for k in d if c] -/
theorem wok_keys {a : Addr} {od : Obj} {ks : List Key} {vs : List V} (h0 : Z.H0 a = some (.frz od (.dK (ks.zip vs)))) (na : ¬ Z.p.On a) (l : ks.length = vs.length) : WOk C Z (Itk a od (ks.zip vs)) (ks.map kD) [] := by
  have len : (ks.map kD).length = (ks.zip vs).length := by rw [List.length_map, List.length_zip, l, Nat.min_self]
  refine ⟨fun H => H a = some (.frz od (.dK (ks.zip vs))), fun i H x H' => H' = H ∧ ∃ k v, (ks.zip vs)[i]? = some (k, v) ∧ x = kV k, by rw [len]; exact walk_keys, fun W H b _ => b a _ na (fun _ z => by cases z) h0, ?_⟩
  rintro W i H x H' _ dm h hi ⟨rfl, k, v, hk, rfl⟩
  refine ⟨Same.refl _, kD k, ?_, ?_⟩
  · have := (List.getElem?_zip_eq_some.1 hk).1
    rw [List.getElem?_map, this]
    rfl
  · cases k <;> exact rfl
def tlLcK (pt : Pat) (c : TBx) (e : TX) (vs : List Nat) (ks : List Key) (_ : List D) : TX := fun Γ n R => ks.length ≤ 1000000 ∧ lcF pt c e (wipeG (borG Γ) vs) (ks.map kD) [] n fun out n2 => R (.new (.lst out)) n2
theorem rek_lc {i : Nat} {g : TG} {tt : TT} {te : TE} {vs : List Nat} {pt : Pat} {c : TBx} {e : TX} (hg : RG C g pt) (hs : ∀ i ∈ pt.slots, i ∈ vs) (hc : ∀ Z, RT C Z tt c) (he : ∀ Z, RE C Z te e) :
    REK C i (tLc (iKeys (tVar i)) g tt te vs) (tlLcK pt c e vs) := by
  intro Z G Γ σ H n Q R a od ks ds us M hv na h0 l rr ⟨few, h⟩ q
  refine re_lcL (I := fun Γ n R => R 2 (ks.map kD) n) hg hs hc he M (fun Q' R' h' q' => ?_) ⟨by rw [List.length_map]; exact few, h⟩ q
  exact ⟨_, hv, a, od, rfl, .inl ⟨_, M.fr a _ na h0, q' _ H n _ [] 2 .refl M.pa (wok_keys h0 na (by rw [l, rr.len])) (fun g hg => nomatch hg) (fun g hg => nomatch hg) h'⟩⟩
end
end TL
end
-- DNe
section
set_option Elab.async false
set_option linter.all false
set_option maxRecDepth 100000
set_option maxHeartbeats 4100000
/-! DNe: a text, a tuple against a dict: never equal -/
namespace PySem.SeqAt
open MeetsSeq
end PySem.SeqAt
end
-- TLZS
section
set_option Elab.async false
set_option linter.all false
set_option maxRecDepth 100000
set_option maxHeartbeats 4100000
/-! TLZS: x in a list of tuples of texts, whatever data x is, dicts too -/
namespace TL
open L2 PyProof.Rows PySem PySem.Spec PySem.W TS RZ
variable [TL.Tb]
mutual
/-- data, dicts too -/
@[simp] def dat : D → Bool
  | .lst ds => dats ds
  | .tup ds => dats ds
  | .sh _ _ => false
  | .ob _ _ _ => false
  | .purse => false
  | .pin _ => false
  | .er _ _ => false
  | _ => true
@[simp] def dats : List D → Bool
  | [] => true
  | d :: r => dat d && dats r
end
/-! ### x in xs, x not in xs -/
end TL
end
-- TLZT
section
set_option Elab.async false
set_option linter.all false
set_option maxRecDepth 100000
set_option maxHeartbeats 4100000
/-! TLZT: dicts with tuples as keys: dict(pairs), sorted(d), {} -/
namespace L2
open PySem PySem.Spec PySem.W PyProof.Rows
end L2
namespace TL
open L2 PyProof.Rows PySem PySem.Spec PySem.W TS RZ
end TL
end
-- TLZU
section
set_option Elab.async false
set_option linter.all false
set_option maxRecDepth 100000
set_option maxHeartbeats 4100000
/-! TLZU: {k: v, ..}, the keys texts or numbers -/
namespace TL
open L2 PyProof.Rows PySem PySem.Spec PySem.W TS RZ
end TL
end
-- TLZV
section
set_option Elab.async false
set_option linter.all false
set_option maxRecDepth 100000
set_option maxHeartbeats 4100000
/-! TLZV: a tuple said more than once; texts joined -/
namespace TL
open L2 PyProof.Rows PySem PySem.Spec PySem.W TS RZ
end TL
end
-- TLZW
section
set_option Elab.async false
set_option linter.all false
set_option maxRecDepth 100000
set_option maxHeartbeats 4100000
/-! TLZW: an own dict of own lists, which a walk fills; a walk of a dict, statement by statement -/
namespace L2
open PySem PySem.Spec PyProof.Rows
end L2
namespace TL
open L2 PyProof.Rows PySem PySem.Spec PySem.W TS RZ
variable [TL.Tb]
section
variable {C : Addr} {Z Z2 : Zx} {G G2 : List (V × Rv)} {Γ : Gm} {σ : L2.St} {H H2 : Hp} {n m : Nat}
/-! ### an own dict of own lists -/
/-- all but the lists stays -/
def Bx (p : Pz) (ls : List Addr) (H H' : Hp) : Prop := ∀ c o, ¬ p.On c → c ∉ ls → H c = some o → H' c = some o
theorem Bx.of {p : Pz} {ls : List Addr} {H H' : Hp} (h : Bt p H H') : Bx p ls H H' := fun c o n _ e => h c o n e
theorem Bx.trans {p : Pz} {ls : List Addr} {H H1 H2 : Hp} (a : Bx p ls H H1) (b : Bx p ls H1 H2) : Bx p ls H H2 := fun c o n l e => b c o n l (a c o n l e)
end
end TL
end
-- TLZX
section
set_option Elab.async false
set_option linter.all false
set_option maxRecDepth 100000
set_option maxHeartbeats 4100000
/-! TLZX: x = {k: [], ..}; a walk whose turns end with x[k].append(e) -/
namespace TL
open L2 PyProof.Rows PySem PySem.Spec PySem.W TS RZ
end TL
end
-- TLZY
section
set_option Elab.async false
set_option linter.all false
set_option maxRecDepth 100000
set_option maxHeartbeats 4100000
/-! TLZY: for k in d, the dict locked meanwhile -/
namespace TL
open L2 PyProof.Rows PySem PySem.Spec PySem.W TS RZ
end TL
end
-- TLZ_A
section
set_option Elab.async false
set_option linter.all false
set_option maxRecDepth 100000
set_option maxHeartbeats 4100000
/-! TLZ_A: a module's own tuple of texts: x not in it -/
namespace TL
open L2 PyProof.Rows PySem PySem.Spec PySem.W TS RZ
variable [TL.Tb]
section
variable {C : Addr} {K : PySem.W.Frag} {Z : Zx}
theorem deep_strs : ∀ xs : List Str, PyData.depthAll (xs.map .str) = 0
  | [] => rfl
  | x :: r => by
    rw [List.map_cons, PyData.depthAll, deep_strs r]
    rfl
end
end TL
namespace TL
open L2 PyProof.Rows PySem PySem.Spec TS RZ
end TL
end
-- TLZ_B
section
set_option Elab.async false
set_option linter.all false
set_option maxRecDepth 100000
set_option maxHeartbeats 300000
/-! TLZ_B: int(b) of a truth; dict([(k, 0), ..]), keys tuples that may be alike; x[:] = e of any list -/
namespace L2
open PySem PySem.Spec PySem.W PyProof.Rows
end L2
namespace TL
open L2 PyProof.Rows PySem PySem.Spec PySem.W TS RZ
end TL
end
-- TLZ_C
section
set_option Elab.async false
set_option linter.all false
set_option maxRecDepth 100000
set_option maxHeartbeats 300000
/-! TLZ_C: list.count of plain data -/
namespace L2
open PySem PySem.Spec PySem.W PyProof.Rows
end L2
namespace TL
open L2 PyProof.Rows PySem PySem.Spec PySem.W TS RZ
end TL
end
-- EXB
section
set_option Elab.async false
set_option linter.all false
set_option maxRecDepth 100000
set_option maxHeartbeats 400000
/-! EXB: defs that raise an error of the package's, told by trees -/
namespace TL
open L2 PyProof.Rows PySem PySem.Spec PySem.W TS RZ
variable [TL.Tb]
/-- what is wanted where an error of the class c with the value d leaves, the slots being so -/
abbrev EX_ := Gm → Addr → D → Nat → Prop
/-- the wish of what leaves by an error -/
def LkX (C : Addr) (Z : Zx) (G : List (V × Rv)) (W : WX) (Ex : EX_) : Prop := ∀ (G1 : List (V × Rv)) (Γ : Gm) (σ : L2.St) (H : Hp) (n : Nat) (c : Addr) (d : D) (v : V) (dd : Addr), Mt C Z (G1 ++ G) Γ σ H n → Rep Z.p C (Ws Z Γ σ) H d v → H dd = none → Ex Γ c d n → W (.ref c) (some dd) σ (upd H dd (.xd [("value", v)]))
/-- a statement that may raise -/
def RW (C : Addr) (Z : Zx) (W : WX) (Ex : EX_) (t : TS) (T : TSt) : Prop := ∀ (G : List (V × Rv)) (Γ : Gm) (σ : L2.St) (H : Hp) (n : Nat) (E : TEn) (F : Ends), Mt C Z G Γ σ H n → Lk C Z G E F → LkX C Z G W Ex → T E Γ n → t F σ H
/-- a term that may raise -/
def REW (C : Addr) (Z : Zx) (W : WX) (Ex : EX_) (t : TE) (T : TX) : Prop := ∀ (G : List (V × Rv)) (Γ : Gm) (σ : L2.St) (H : Hp) (n : Nat) (Q : VK) (R : Rv → Nat → Prop), Mt C Z G Γ σ H n → LkX C Z G W Ex → T Γ n R →
  (∀ v H' r n', Bt Z.p H H' → PAt Z.p H' n' → XOk C Z (Ws Z Γ σ) H H' r v → R r n' → Q v H') → t σ H Q
section
variable {C : Addr} {K : PySem.W.Frag} {Z : Zx} {W : WX} {Ex : EX_}
theorem rw_of {t : TS} {T : TSt} (h : RS C t T) : RW C Z W Ex t T := fun G Γ σ H n E F M L _ r => h Z G Γ σ H n E F M L r
theorem rw_sq {t u : TS} {T U : TSt} (h1 : RW C Z W Ex t T) (h2 : RW C Z W Ex u U) : RW C Z W Ex (tSeq t u) (tlSq T U) := fun G Γ σ H n E F M L LX h =>
  h1 G Γ σ H n { E with nx := U E } { F with nx := u F } M ⟨fun Γ' σ' H' n' M' h' => h2 G Γ' σ' H' n' E F M' L LX h', L.rt, L.bk, L.ct⟩ LX h
theorem rw_if {c : TT} {t u : TS} {Tc : TBx} {T U : TSt} (hc : RT C Z c Tc) (h1 : RW C Z W Ex t T) (h2 : RW C Z W Ex u U) : RW C Z W Ex (tIfS c t u) (tlIf Tc T U) := by
  intro G Γ σ H n E F M L LX h
  refine hc G Γ σ H n _ _ M h fun b H1 n1 e1 p1 r1 => ?_
  have M1 := M.bt e1 p1
  cases b with
  | true => exact iteT (h1 G Γ σ H1 n1 E F M1 L LX r1)
  | false => exact iteF (h2 G Γ σ H1 n1 E F M1 L LX r1)
theorem rw_rel {t : TS} {T : TSt} (i : Nat) (h : RW C Z W Ex t T) : RW C Z W Ex t (tlRel i T) := by
  intro G Γ σ H n E F M L LX h1
  unfold tlRel relG at h1
  split at h1
  · next d e => exact h G _ σ H n E F (M.release e) L LX h1
  · exact h G Γ σ H n E F M L LX h1
theorem rw_ex {t : TE} {T : TX} (h : REW C Z W Ex t T) : RW C Z W Ex (tDrop t) (tlEx T) := by
  intro G Γ σ H n E F M L LX h1
  exact h G Γ σ H n _ _ M LX h1 fun v H1 r n1 e1 p1 x1 r1 => L.nx Γ σ H1 n1 (M.bt e1 p1) r1
/-- raise X(e) -/
def tlRz (c : Addr) (Ex : EX_) (T : TX) : TSt := fun _ Γ n => T Γ n fun r n1 => sto r = true ∧ Ex Γ c r.d n1
/-- what is wanted of an error where a def's slots are told no more -/
abbrev EY := Addr → D → Nat → Prop
def exY (Ey : EY) : EX_ := fun _ c d n => Ey c d n
/-- the promise of a def that may raise -/
abbrev STX := List D → Nat → (Rv → Nat → Prop) → EY → Prop
def spOfX (C : Addr) (ks : List Bool) (S : STX) : Sp := fun vs H Q E => ∃ (p : Pz) (W : Addr → Prop) (n : Nat) (ds : List D) (R : Rv → Nat → Prop) (Ex : EY), (∀ a, W a → ∃ o, H a = some o) ∧ (∀ a, p.On a → W a) ∧ PAt p H n ∧
  ARep C p W H ks ds vs ∧ S ds n R Ex ∧ (∀ v H' r n', Bt p H H' → PAt p H' n' → ROk C p W H H' r v → R r n' → Q v H') ∧
  ∀ c d v dd H' n', Bt p H H' → PAt p H' n' → Rep p C W H' d v → H' dd = none → Ex c d n' → E (.ref c) (some dd) (upd H' dd (.xd [("value", v)]))
/-- fewer draws may be left over -/
def dnX (Ex : EY) : EY := fun c d n => ∃ m, m ≤ n ∧ Ex c d m
theorem dnX_of {Ex : EY} {c : Addr} {d : D} {n : Nat} (h : Ex c d n) : dnX Ex c d n := ⟨n, Nat.le.refl, h⟩
theorem bridgeX {t : TS} {T : EX_ → TSt} {ks : List Bool} {S : STX} {N : List Str} {vs : List V} {H : Hp} {Q : VK} {E : XK} (rs : ∀ (Z : Zx) (Ex : EX_), RW C Z (fun cls d _ H => E cls d H) Ex t (T Ex))
    (tree : ∀ ds n R Ex, S ds n R Ex → T (exY (dnX Ex)) (ends R) (slots ks ds (N.length - ks.length)) n) (h : spOfX C ks S vs H Q E) : t { nx := fun _ H' => Q .non H', rt := Q } (L2.start N vs) H := by
  obtain ⟨p, W, n, ds, R, Ex, dom, pw, pa, ar, hS, q, qx⟩ := h
  refine rs (Zx.at p W H dom pw) (exY (dnX Ex)) [] _ _ H n (ends R) _ (mt_start dom pw pa ar) ⟨fun Γ σ H' n' M ⟨m, l, h⟩ => ?_, fun v H' r n' b pa' st x ⟨m, l, h⟩ => ?_, fun Γ σ H' n' M h => h, fun Γ σ H' n' M h => h⟩ (fun G1 Γ σ H' n' c d v dd M rep nd ⟨m, l, hx⟩ => qx c d v dd H' m M.fr (M.pa.le l) (rep.mono fun c o nc h => ⟨fun z => nc (.inl z), h⟩) nd hx) (tree ds n R Ex hS)
  · exact q .non H' (.val .non) m M.fr (M.pa.le l) (rfl : V.non = V.non) h
  · refine q v H' r m b (pa'.le l) ?_ h
    match r, st, x with
    | .val d, _, x => exact x
    | .new d, _, x => exact x
section
variable {P : Program} {w : World} {mg : Str → Option Value} {base : Heap}
theorem def_okX {x q : Str} {st : Stmt} {f : Addr} {fd : FuncData} {N ps : List Str} {k : Nat} {ks : List Bool} {S : STX} {T : EX_ → TSt} (F : Fun K x q st f fd) (sc : FnScope N ps (defScope st)) (hk : ks.length = ps.length)
    (body : ∀ (cdv : Value) (A : Around) (outer : List Env) (s : Shared) (H : Hp) (E : XK), Room k (A.deeper (envOfC q (defScope st) s.heap.objs.size f cdv)) → ∃ t : TS, PSs (cxOf (L2.CX P w) P w K mg base N q (defScope st) f cdv A outer s H E) (defBody st) t ∧ ∀ (Z : Zx) (Ex : EX_), RW C Z (fun cls d _ H => E cls d H) Ex t (T Ex))
    (tree : ∀ ds n R Ex, S ds n R Ex → T (exY (dnX Ex)) (ends R) (slots ks ds (N.length - ks.length)) n) : FnOk P w K mg base (L2.CX P w) (k + 1) f fd ps (spOfX C ks S) := by
  refine F.okX sc (fun vs H Q E h => ?_) (fun cdv A outer s H vs Q E hr h => ?_)
  · obtain ⟨p, W, n, ds, R, Ex, _, _, _, ar, _⟩ := h
    rw [ar.len.1, hk]
  · obtain ⟨t, h1, h2⟩ := body cdv A outer s H E hr
    exact ⟨t, h1, bridgeX h2 tree h⟩
/-- a def of the module's that keeps its promise, and may raise -/
def HasX (P : Program) (w : World) (K : PySem.W.Frag) (mg : Str → Option Value) (base : Heap) (C : Addr) (k : Nat) (x : Str) (ps : List Str) (ks : List Bool) (S : STX) : Prop :=
  ∃ f fd, FnOk P w K mg base (L2.CX P w) k f fd ps (spOfX C ks S) ∧ mg x = some (.ref f) ∧ PySem.W.keepIn K (.ref f) = true ∧ Binds K fd ps []
end
/-- a call that may raise -/
def tlCallX (ks : List Bool) (S : STX) (Ex : EX_) (T : TXs) : TX := fun Γ n R => T Γ n fun rs n1 => kOk ks rs = true ∧ S (rs.map Rv.d) n1 R (Ex Γ)
theorem re_callX {ks : List Bool} {S : STX} {ta : TA} {T : TXs} (ha : RA C Z ta T) : REW C Z W Ex (tCallS (spOfX C ks S) (WE W) ta) (tlCallX ks S Ex T) := by
  intro G Γ σ H n Q R M LX h q
  refine ha G Γ σ H n _ _ M h fun vs H1 rs n1 e1 p1 x1 ⟨k1, h1⟩ => ?_
  have M1 := M.bt e1 p1
  exact ⟨Z.p, Ws Z Γ σ, n1, rs.map Rv.d, R, Ex Γ, fun a w => M1.wdom w, fun a z => Ws.pw z, p1, x1.args (fun a w => M.wdom w) (fun a h => Z.papart M.pdom h) k1, h1, fun v H' r n' b pa ro hr => q v H' r n' (e1.trans b) pa (ro.xok e1 M1.pdom) hr,
    fun c d v dd H' n' b pa rep nd hx => LX [] Γ σ H' n' c d v dd (M1.bt b pa) rep nd hx⟩
end
end TL
end
-- EXC
section
set_option Elab.async false
set_option linter.all false
set_option maxRecDepth 100000
set_option maxHeartbeats 400000
/-! EXC: raise X(e), X one of the package's errors with a field -/
namespace L2
open PyProof.Rows PySem PySem.Spec
/-! ### an error class: def __init__(self, value=None): self.value = value -/
def eiA (p1 p2 p3 : Pos) : Arguments := { posonlyargs := [], args := [{ arg := "self", annotation := none, pos := p1 }, { arg := "value", annotation := none, pos := p2 }], vararg := none, kwonlyargs := [], kw_defaults := [], kwarg := none, defaults := [.Constant .none 0 p3] }
def eiB (q1 q2 q3 q4 : Pos) : List Stmt := [.Assign [.Attribute (.Name "self" q1) "value" q2] (.Name "value" q3) q4]
def eiS : Scope := { kind := .function, names := [(PySem.Str.ofString "self", .local), (PySem.Str.ofString "value", .local)], isGenerator := false, isCoroutine := false, more := [] }
/-- where it stands -/
structure EPos where
  p1 : Pos
  p2 : Pos
  p3 : Pos
  q1 : Pos
  q2 : Pos
  q3 : Pos
  q4 : Pos
/-- what the written part says of it -/
structure ErC (K : PySem.W.Frag) (C fI : Addr) : Prop where
  oex : OexC K C
  noV : PySem.W.findIn K (.ref C) "value" = some none
  iC : PySem.W.findIn K (.ref C) "__init__" = some (some (.ref fI))
  tI : PySem.W.typeIn K (.ref fI) = some (.type "function")
  fn : ∃ (q : Str) (e : EPos) (fd : FuncData), FunD K "__init__" q (eiA e.p1 e.p2 e.p3) (eiB e.q1 e.q2 e.q3 e.q4) eiS [.non] [] fI fd
/-- __init__'s promise -/
def spEI (C : Addr) : Sp := fun vs H Q _ => ∃ (a : Addr) (v : V), vs = [.ref a, v] ∧ H a = some (exo a C none) ∧ ∀ d, H d = none → d ≠ a → Q .non (upd (upd H d (exd d [("value", v)])) a (exo a C (some d)))
section
variable {base : Heap} {mg : Str → Option Value} {K : PySem.W.Frag} {w : World} {P : Program} {C fI : Addr} {q : Str} {e : EPos} {fd : FuncData}
theorem scEI : FnScope ["self", "value"] ["self", "value"] eiS := ⟨rfl, rfl, rfl, by decide +kernel, rfl, by decide +kernel, by decide +kernel⟩
theorem ok_ei (F : FunD K "__init__" q (eiA e.p1 e.p2 e.p3) (eiB e.q1 e.q2 e.q3 e.q4) eiS [.non] [] fI fd) (O : OexC K C) (N : PySem.W.findIn K (.ref C) "value" = some none) : FnOk P w K mg base CX0 1 fI fd ["self", "value"] (spEI C) := by
  refine F.ok scEI (fun vs H Q E h => ?_) (fun cdv A outer s H vs Q E hr h => ?_)
  · obtain ⟨a, v, rfl, _⟩ := h
    rfl
  · obtain ⟨a, v, rfl, ha, k⟩ := h
    refine ⟨tOst K "value" (tVar 0) (tVar 1), pss_one (ps_ost (pv 0) (pv 1)), ?_⟩
    exact ⟨_, rfl, _, rfl, a, C, rfl, O, N, Or.inl ⟨ha, fun dx n ne => k dx n ne⟩⟩
theorem ei_binds (F : FunD K "__init__" q (eiA e.p1 e.p2 e.p3) (eiB e.q1 e.q2 e.q3 e.q4) eiS [.non] [] fI fd) : Binds K fd ["self", "value"] [] := by
  obtain ⟨its, hb⟩ : ∃ its : List Value, KBn K fd ["self", "value"] 2 [] (fun us ws => us) (fun vs zs => vs) :=
    F.kbindsD 2 [] (fun us its ws => us) (by simp) (fun r _ _ => r) fun T kV doc pm an cdv ct us its ws h1 h2 h3 => match us, its, ws, h1, h2, h3 with
      | [_, _], [_], [], _, _, _ => ⟨_, rfl, rfl⟩
  intro s us kIn len
  have b := hb.to s us [] kIn (by simpa using len) rfl
  simpa using b
end
/-- raise X(e) -/
def tRzO (C : Addr) (W : WX) (ta : TE) : TS := fun _ σ H => tMkO C (spEI C) [] (tCons ta tNil) σ H fun cls d H' => W cls d σ H'
theorem ps_raiseV {X : Cx} {x : Str} {C fI : Addr} {a : Expr} {ta : TE} {W : WX} {p pos pos2 : Pos} (hc : X.calm = true) (T : ErC X.K C fI) (hr : Room 2 X.A) (tk : Takes X W) (ha : PA X [a] (tCons ta tNil)) (hg : Gl X x) (hm : X.mg x = some (.ref C))
    (hdb : (x == ("__debug__" : Str)) = false := by decide) (he : starEach (a :: []) X.env = (false, eval a X.env) :: starEach [] X.env := by rfl) (hpl : (backTo pos (starEach [] X.env)).any (·.1) = false := by rfl) :
    PS X (.Raise (some (.Call (.Name x p) [a] [] pos)) none pos2) (tRzO C W ta) := by
  obtain ⟨q, e, fd, F⟩ := T.fn
  exact ps_raise hc tk (pmk_oex (CX := CX0) (ds := []) (dvs := []) T.oex T.iC T.tI (ok_ei F T.oex T.noV) hr (ei_binds F) .nil pass0 hg hm ha hdb he hpl)
end L2
namespace TL
open L2 PyProof.Rows PySem PySem.Spec PySem.W TS RZ
variable [TL.Tb]
section
variable {C : Addr} {Z : Zx} {W : WX} {Ex : EX_}
theorem made_is {H1 : Hp} {a d c : Addr} {v : V} (na : H1 a = none) (ne : d ≠ a) : upd (del (upd (upd (upd H1 a (exo a c none)) d (exd d [("value", v)])) a (exo a c (some d))) a) d (.xd [("value", v)]) = upd H1 d (.xd [("value", v)]) := by
  funext b
  by_cases bd : b = d
  · subst bd
    rw [upd_same, upd_same]
  · rw [upd_ne bd, upd_ne bd]
    by_cases ba : b = a
    · subst ba
      rw [del_same, na]
    · rw [del_ne ba, upd_ne ba, upd_ne bd, upd_ne ba]
theorem rw_raiseO {c : Addr} {ta : TE} {T : TX} (h : RE C Z ta T) : RW C Z W Ex (tRzO c W ta) (tlRz c Ex T) := by
  intro G Γ σ H n E F M L LX h1
  refine h G Γ σ H n _ _ M h1 fun v H1 r n1 e1 p1 x1 ⟨st, r1⟩ => ?_
  have rep := x1.rep (fun b w => M.wdom w) st
  refine ⟨by show 1 ≤ 1000; decide, fun a na => ⟨a, v, rfl, upd_same, fun d nd ne => ⟨rfl, d, [("value", v)], upd_same, ?_, ?_, ?_⟩⟩⟩
  · rw [upd_ne ne, upd_same]
  · rw [upd_ne ne] at nd
    exact nd
  · rw [made_is na ne]
    rw [upd_ne ne] at nd
    exact LX [] Γ σ H1 n1 c r.d v d (M.bt e1 p1) rep nd r1
end
end TL
end
-- EXD
section
set_option Elab.async false
set_option linter.all false
set_option maxRecDepth 100000
set_option maxHeartbeats 400000
/-! EXD: try: .. except X as e: caught = e -/
namespace TL
open L2 PyProof.Rows PySem PySem.Spec PySem.W TS RZ
variable [TL.Tb]
section
variable {C : Addr} {K : PySem.W.Frag} {Z : Zx} {G G1 : List (V × Rv)} {Γ : Gm} {σ : L2.St} {H : Hp} {n : Nat}
theorem Mt.dropG (M : Mt C Z (G1 ++ G) Γ σ H n) : Mt C Z G Γ σ H n := ⟨M.len, M.fr, M.pa, M.sl, fun g hg => M.gs g (List.mem_append_right _ hg), M.inj⟩
/-- a slot that tells nothing may hold what it will -/
theorem Mt.sig (M : Mt C Z G Γ σ H n) {i : Nat} (h : Γ[i]? = some none) (x : Option V) : Mt C Z G Γ (σ.set i x) H n := by
  have ne : ∀ {k : Nat} {r : Rv}, Γ[k]? = some (some r) → k ≠ i := fun {k r} e z => by rw [z, h] at e; cases e
  have ow : ∀ {k : Nat} {a : Addr}, Ow Γ (σ.set i x) k a ↔ Ow Γ σ k a := fun {k a} => by
    constructor
    · rintro ⟨⟨d, e⟩, hv⟩
      exact ⟨⟨d, e⟩, by rwa [List.getElem?_set_ne (ne e).symm] at hv⟩
    · rintro ⟨⟨d, e⟩, hv⟩
      exact ⟨⟨d, e⟩, by rwa [List.getElem?_set_ne (ne e).symm]⟩
  have ws : Ws Z Γ (σ.set i x) = Ws Z Γ σ := by
    funext a
    refine propext ⟨fun q => q.elim .inl fun ⟨k, q⟩ => .inr ⟨k, ow.1 q⟩, fun q => q.elim .inl fun ⟨k, q⟩ => .inr ⟨k, ow.2 q⟩⟩
  refine ⟨by rw [List.length_set]; exact M.len, M.fr, M.pa, fun k r e => ?_, fun g hg => ?_, fun k l a h1 h2 => M.inj k l a (ow.1 h1) (ow.1 h2)⟩
  · obtain ⟨v, hv, s⟩ := M.sl k r e
    rw [ws]
    exact ⟨v, by rw [List.getElem?_set_ne (ne e).symm]; exact hv, s⟩
  · rw [ws]
    exact M.gs g hg
/-- try: BODY; except X as e: caught = e -/
def tlTryE (ok : Addr → Prop) (i j : Nat) (Tb : EX_ → TSt) : TSt := fun E Γ n => Tb (fun Γ' c d n' => Γ'[i]? = some none ∧ ok c ∧ E.nx (Γ'.set j (some (.val (.er c d)))) n') E Γ n
theorem rs_tryE {cv : Value} {ok : Addr → Prop} {i j : Nat} {tb : WX → TS} {Tb : EX_ → TSt} (ij : i ≠ j) (hok : ∀ c, ok c → PySem.W.exmOne K (.ref c) cv = some true) (hb : ∀ (Z : Zx) (W : WX) (Ex : EX_), RW C Z W Ex (tb W) (Tb Ex)) :
    RS C (fun D σ H => tb (wAsE K cv i (fun _ _ _ => tAsg (tVar i) (gName j)) (fun _ _ _ _ => False) D) D σ H) (tlTryE ok i j Tb) := by
  intro Z G Γ σ H n E F M L h
  refine hb Z _ _ G Γ σ H n E F M L (fun G1 Γ' σ' H' n' c d v dd M' rep nd ⟨hi, oc, hx⟩ => ⟨true, hok c oc, fun _ a na => ?_, fun z => (nomatch z)⟩) h
  have M0 : Mt C Z G Γ' σ' H' n' := M'.dropG
  have li : i < σ'.length := by rw [M0.len]; exact (List.getElem?_eq_some_iff.1 hi).1
  have s1 : Same H' (upd H' dd (.xd [("value", v)])) := same_upd nd
  have s2 : Same (upd H' dd (.xd [("value", v)])) (upd (upd H' dd (.xd [("value", v)])) a (ErO (.ref c) (some dd) a)) := same_upd na
  have M2 := (M0.bt (.same s1) (M0.pa.same s1)).bt (.same s2) ((M0.pa.same s1).same s2)
  have da : dd ≠ a := fun z => by rw [← z, upd_same] at na; cases na
  refine ⟨.ref a, List.getElem?_set_self li, fun _ => ?_⟩
  have e : (((σ'.set i (some (V.ref a))).set j (some (V.ref a))).set i none) = (σ'.set i none).set j (some (V.ref a)) := by
    rw [List.set_comm _ _ ij.symm, List.set_set]
  show F.nx (((σ'.set i (some (V.ref a))).set j (some (V.ref a))).set i none) _
  rw [e]
  have M3 := M2.sig hi none
  have nW : ∀ {b : Addr}, H' b = none → ¬ Ws Z Γ' σ' b := fun {b} hb w => by
    obtain ⟨o, ho⟩ := M0.wdom w
    rw [hb] at ho
    cases ho
  have na' : H' a = none := by rwa [upd_ne da.symm] at na
  refine L.nx _ _ _ n' (M3.set_val (v := .ref a) (d := .er c d) ?_) hx
  have keep : ∀ {p : Pz} {W : Addr → Prop} {x : V}, Rep p C W H' d x → Rep p C W (upd (upd H' dd (.xd [("value", v)])) a (ErO (.ref c) (some dd) a)) d x := fun {p W x} r => (r.mono fun c o nc h => ⟨nc, s1 c o h⟩).mono fun c o nc h => ⟨nc, s2 c o h⟩
  have wsig : ∀ b, Ws Z Γ' (σ'.set i none) b → Ws Z Γ' σ' b := fun b w => by
    refine w.elim .inl fun ⟨k, ⟨dk, e⟩, hv⟩ => .inr ⟨k, ⟨dk, e⟩, ?_⟩
    rwa [List.getElem?_set_ne (fun z => by rw [← z, hi] at e; cases e)] at hv
  refine ⟨a, rfl, fun w => nW na' (wsig a w), dd, v, upd_same, fun w => nW nd (wsig dd w), by rw [upd_ne da, upd_same], ?_⟩
  exact (keep rep).mono fun c o nc h => ⟨fun w => nc (wsig c w), h⟩
end
end TL
end
-- EXF
section
set_option Elab.async false
set_option linter.all false
set_option maxRecDepth 100000
set_option maxHeartbeats 400000
/-! EXF: caught.value -/
namespace TL
open L2 PyProof.Rows PySem PySem.Spec PySem.W TS RZ
variable [TL.Tb]
section
variable {C : Addr} {Z : Zx}
/-- e.value of a caught error -/
def tlXv (ok : Addr → Prop) (T : TX) : TX := fun Γ n R => T Γ n fun r n1 => match r.d with
  | .er c d => ok c ∧ R (.val d) n1
  | _ => False
theorem re_xv {ok : Addr → Prop} {t : TE} {T : TX} (h : RE C Z t T) : RE C Z (L2.tXv ok "value" t) (tlXv ok T) := by
  intro G Γ σ H n Q R M h1 q
  refine h G Γ σ H n _ _ M h1 fun v H1 r n1 e1 p1 x1 r1 => ?_
  have vw := x1.view fun a h => Z.papart M.pdom h
  cases hd : r.d with
  | er c d =>
    rw [hd] at vw r1
    obtain ⟨oc, r1⟩ := r1
    rcases vw with ⟨a, rfl, na, dd, w, ha, nd, hdd, rw_⟩ | ⟨a, _, _, z⟩
    · exact ⟨a, c, dd, _, w, rfl, oc, ha, hdd, rfl, q w H1 (.val d) n1 e1 p1 rw_ r1⟩
    · exact False.elim z
  | _ => rw [hd] at r1; exact False.elim r1
end
end TL
end
-- EXG
section
set_option Elab.async false
set_option linter.all false
set_option maxRecDepth 100000
set_option maxHeartbeats 400000
/-! EXG: what a law's row says of one of the package's errors -/
namespace L2
open PyProof.Rows PySem PySem.Spec
/-- what is looked up of a class of errors at c -/
def erB (K : PySem.W.Frag) (c i : Addr) : Bool :=
  decide (PySem.W.findIn K (.ref c) "__getattribute__" = some (some (.builtin "BaseException.__getattribute__"))) && (decide (PySem.W.findIn K (.ref c) "__getattr__" = some none) && (decide (PySem.W.subIn K (.ref c) (.type "BaseException") = some true) && (PySem.W.hasDictIn K c && (PySem.W.keepIn K (.ref c) &&
  (decide (PySem.W.findIn K (.ref c) "__setattr__" = some (some (.builtin "object.__setattr__"))) && (decide (PySem.W.typeIn K (.ref c) = some (.type "type")) && (decide (PySem.W.findIn K (.ref c) "value" = some none) && (decide (PySem.W.typeIn K (.ref i) = some (.type "function")) && PySem.W.keepIn K (.ref i)))))))))
/-- one class of errors: its name x, where it stands, its __init__ -/
structure RawE (K : PySem.W.Frag) (x : Str) (c i : Addr) : Prop where
  aC : PySem.W.nsIn K mainGlobals x = some (some (.ref c))
  er : ErC K c i
  xf : XfC K c
theorem rawE_mk {K : PySem.W.Frag} {S c i N T : Addr} {x nm q qn : Str} {bs : List Value} {sn : List Str} {sub : List Value} {ab : Bool} {col : Option Bool} {dd od an : Option Addr} {k0 k1 k2 k3 k5 : Option Value} {p1 p2 p3 q1 q2 q3 q4 : Pos} {oc kV dc pm cd ct : Value} {sl : Array (Option Value)} {tc : Value} {td : Option Addr} {tn : Nat} {ts : Array (Option Value)}
    (aC : PySem.W.nsIn K mainGlobals x = some (some (.ref c)))
    (xL : K.lookup c = some (excClassObj nm q c N bs [.ref S, .type "ValueError", .type "Exception", .type "BaseException", .type "object"] true sn sub ab col dd k0 k1 k2 k3 k5 "ValueError.__new__"))
    (iC : PySem.W.findIn K (.ref c) "__init__" = some (some (.ref i)))
    (l : K.lookup i = some ⟨oc, od, .func (PySem.W.fnOf "__init__" qn (eiA p1 p2 p3) (eiB q1 q2 q3 q4) eiS (.ref T) kV dc pm an cd ct), sl⟩) (cI : PySem.W.codeIn K cd qn = true)
    (tL : K.lookup T = some ⟨tc, td, .seq #[.none] tn, ts⟩) (bk : erB K c i = true) : RawE K x c i := by
  unfold erB at bk
  simp only [decide_eq_true_eq, Bool.and_eq_true] at bk
  obtain ⟨g1, g2, g3, g4, g5, m1, m2, m3, m4, m5⟩ := bk
  have ox : OexC K c := ⟨⟨nm, q, N, bs, _, sn, sub, ab, col, dd, k0, k1, k2, k3, k5, xL, rfl⟩, m1, g3, m2, g5⟩
  exact ⟨aC, ⟨ox, m3, iC, m4, qn, ⟨p1, p2, p3, q1, q2, q3, q4⟩, _, ⟨⟨oc, od, .ref T, kV, dc, pm, an, cd, ct, sl, rfl, l, cI, .inr ⟨by simp, T, _, [.none], tn, rfl, tL, rfl, .cons rfl .nil⟩, .inl rfl⟩, m5⟩⟩, ⟨g1, g2, g3, g4⟩⟩
end L2
end
-- TLZ_D
section
set_option Elab.async false
set_option linter.all false
set_option maxRecDepth 100000
set_option maxHeartbeats 400000
/-! TLZ_D: factorial, by name from math; x += e of numbers -/
namespace L2
open PySem PySem.Spec PySem.W PyProof.Rows
section
variable {X : Cx} {x : Str} {id : String} {r : List V → Hp → VK → Prop} {p pos : Pos} {e : Expr} {es : List Expr} {t : TA}
/-- x(e, ..), x a built-in function that the module has imported by its name -/
theorem pe_callM (hc : CallR X (.builtin id) r) (hg : Gl X x) (hm : X.mg x = some (.builtin id)) (ha : PA X (e :: es) t) (hdb : (x == ("__debug__" : Str)) = false := by decide)
    (he : starEach (e :: es) X.env = (false, eval e X.env) :: starEach es X.env := by rfl) (hpl : (backTo pos (starEach es X.env)).any (·.1) = false := by rfl) : PE X (.Call (.Name x p) (e :: es) [] pos) (tCB r t) := by
  refine ⟨fun pins s σ H Q I h => ?_⟩
  refine wpAny_Call_Name_kw (ld_glob I hg hm ?_ hdb)
  exact PyProof.Rows.callWith_builtin1 (thn (ha.run pos pins s σ H _ I h) fun us s1 ⟨vs, H1, I1, r1, q1⟩ => hc pins s1 σ H1 vs us Q I1 r1 q1) he hpl
def rFac : List V → Hp → VK → Prop := fun xs H Q => ∃ a : Nat, xs = [V.int (a : Int)] ∧ a ≤ 1000 ∧ Q (.int ((Builtin.Math.factorialNat a : Nat) : Int)) H
theorem call_fac : CallR X (.builtin "math.factorial") rFac := by
  intro pins s σ H xs us Q I r h
  obtain ⟨a, rfl, few, q⟩ := h
  obtain ⟨u, rfl, t, rfl⟩ := vals1 r
  refine mc_factorial (by omega) (by omega) fun _ => ⟨.int ((Builtin.Math.factorialNat a : Nat) : Int), H, I.tok _, ⟨s.toks, rfl⟩, q⟩
end
end L2
namespace TL
open L2 PyProof.Rows PySem PySem.Spec PySem.W TS RZ
variable [TL.Tb]
section
variable {C : Addr} {K : PySem.W.Frag} {Z : Zx}
abbrev fac (a : Nat) : Nat := Builtin.Math.factorialNat a
def dFac : List D → (Rv → Prop) → Prop
  | [.int i], R => ∃ a : Nat, i = (a : Int) ∧ a ≤ 1000 ∧ R (.val (.int ((fac a : Nat) : Int)))
  | _, _ => False
theorem rn_fac : RnT C Z rFac dFac := by
  intro W H xs ds R Q hp dm hx h q
  unfold dFac at h
  split at h
  · next i =>
    obtain ⟨a, rfl, few, h⟩ := h
    obtain ⟨v, rfl, hv⟩ := hx.one
    exact ⟨a, by rw [hv.int], few, same_int h q⟩
  · exact h.elim
/-- x += e, numbers -/
def tlAugN (i : Nat) (T : TX) : TSt := fun E Γ n => match Γ[i]? with
  | some (some (.val (.int a))) => T Γ n fun r n1 => match r.d with
    | .int b => E.nx (Γ.set i (some (.val (.int (a + b))))) n1
    | _ => False
  | _ => False
theorem rs_augN {i : Nat} {t : TE} {T : TX} (h : ∀ Z, RE C Z t T) : RS C (tAug i t (ipI fun i j => i + j)) (tlAugN i T) := by
  intro Z G Γ σ H n E F M L h1
  unfold tlAugN at h1
  split at h1
  · next a e =>
    obtain ⟨v, hv, s⟩ := M.sl i _ e
    obtain rfl : v = V.int a := s
    refine ⟨_, hv, ?_⟩
    refine h Z G Γ σ H n _ _ M h1 fun v H1 r n1 e1 p1 x1 r1 => ?_
    have vw := x1.view fun a h => Z.papart M.pdom h
    cases hd : r.d with
    | int b =>
      rw [hd] at vw r1
      obtain rfl := vw.int
      exact ⟨a, b, rfl, rfl, L.nx _ _ H1 n1 ((M.bt e1 p1).set_val (d := .int (a + b)) (v := .int (a + b)) rfl) r1⟩
    | _ => rw [hd] at r1; exact False.elim r1
  · exact h1.elim
end
end TL
end
-- TLZ_E
section
set_option Elab.async false
set_option linter.all false
set_option maxRecDepth 100000
set_option maxHeartbeats 400000
/-! TLZ_E: x.append(y.pop(e)) -/
namespace TL
open L2 PyProof.Rows PySem PySem.Spec PySem.W TS RZ
variable [TL.Tb]
section
variable {C : Addr} {K : PySem.W.Frag}
theorem RepL.nthD {p : Pz} {W : Addr → Prop} {H : Hp} : ∀ {ds : List D} {vs : List V} {k : Nat} {d : D}, RepL p C W H ds vs → ds[k]? = some d → ∃ v, vs[k]? = some v ∧ Rep p C W H d v
  | _ :: _, _, 0, _, ⟨v, vr, e, h, q⟩, x => ⟨v, by rw [e]; rfl, by rw [← Option.some.inj x]; exact h⟩
  | _ :: r, _, k + 1, _, ⟨v, vr, e, h, q⟩, x => by
    obtain ⟨u, hu, ru⟩ := RepL.nthD (k := k) q (by simpa using x)
    exact ⟨u, by rw [e]; simpa using hu, ru⟩
def tlAppPop (i j : Nat) (T : TX) : TSt := fun E Γ n => ∃ ds es : List D, Γ[i]? = some (some (.new (.lst ds))) ∧ Γ[j]? = some (some (.new (.lst es))) ∧ ds.length ≤ 1000000 ∧ T Γ n fun r n1 => ∃ (k : Nat) (d : D), r.d = .int ((k : Nat) : Int) ∧ es[k]? = some d ∧ k < 2 ^ 62 ∧
  E.nx ((Γ.set j (some (.new (.lst (es.eraseIdx k))))).set i (some (.new (.lst (ds ++ [d]))))) n1
theorem rs_appPop {i j : Nat} {t : TE} {T : TX} (ij : i ≠ j) (h : ∀ Z, RE C Z t T) : RS C (tDrop (tBM K "list" rAppend (tVar i) (tCons (tBM K "list" rPopAt (tVar j) (tCons t tNil)) tNil))) (tlAppPop i j T) := by
  intro Z G Γ σ H n E F M L ⟨ds, es, ei, ej, few, h1⟩
  obtain ⟨v, hv, a, rfl, h0, vs, ha, rr⟩ := M.sl i _ ei
  obtain ⟨u, hu, b, rfl, g0, us, hb, qq⟩ := M.sl j _ ej
  refine ⟨_, hv, .inl ⟨rfl, vs, SqL.of ha⟩, ?_⟩
  refine ⟨_, hu, .inl ⟨rfl, us, SqL.of hb⟩, ?_⟩
  refine h Z G Γ σ H n _ _ M h1 fun w H1 r n1 e1 p1 x1 ⟨k, d, er, ek, big, r1⟩ => ?_
  have M1 := M.bt e1 p1
  have vw := x1.view fun a h => Z.papart M.pdom h
  rw [er] at vw
  have ab : a ≠ b := fun z => ij (M.inj i j a ⟨⟨_, ei⟩, hv⟩ ⟨⟨_, ej⟩, by rw [z]; exact hu⟩)
  have ha1 := e1 a _ (Z.apart h0) ha
  have hb1 := e1 b _ (Z.apart g0) hb
  have qq1 := qq.mono (keepB (fun _ => Ws.pw) e1)
  have lk : k < es.length := (List.getElem?_eq_some_iff.1 ek).1
  have l := qq.len
  obtain ⟨y, hy, ry⟩ := qq1.nthD ek
  refine ⟨b, us, ((k : Nat) : Int), k, y, rfl, by rw [vw.int], hb1, by omega, by omega, seq_nat (by omega), hy, ?_⟩
  have key := own_key (Z := Z) (H := H1) (o := .lst (us.eraseIdx k)) ej hu
  have M2 := M1.mut (d' := .lst (es.eraseIdx k)) ej hu ⟨_, upd_same, (qq1.mono key).erase k⟩
  have ei2 : (Γ.set j (some (Rv.new (.lst (es.eraseIdx k)))))[i]? = some (some (.new (.lst ds))) := by rw [List.getElem?_set_ne ij.symm]; exact ei
  have ha2 : upd H1 b (.lst (us.eraseIdx k)) a = some (.lst vs) := by rw [upd_ne ab]; exact ha1
  obtain ⟨v2, hv2, a2, e2, _, vs2, ha2', rr2⟩ := M2.sl i _ ei2
  rw [hv] at hv2
  cases hv2
  cases e2
  rw [ha2] at ha2'
  cases ha2'
  refine ⟨a, vs, y, rfl, rfl, ha2, by rw [rr.len]; exact small6 few, ?_⟩
  have sub : ∀ c, Ws Z (Γ.set j (some (.new (.lst (es.eraseIdx k))))) σ c → Ws Z Γ σ c := fun c w => by
    refine w.elim .inl fun ⟨k2, ⟨d2, e⟩, hv3⟩ => .inr ?_
    rcases get_set e with ⟨rfl, _⟩ | ⟨_, e⟩
    · exact ⟨_, ⟨_, ej⟩, hv3⟩
    · exact ⟨k2, ⟨d2, e⟩, hv3⟩
  have ry2 : Rep Z.p C (Ws Z (Γ.set j (some (.new (.lst (es.eraseIdx k))))) σ) (upd H1 b (.lst (us.eraseIdx k))) d y := (ry.mono key).mono fun c o nc h => ⟨fun w => nc (sub c w), h⟩
  have key2 := own_key (Z := Z) (H := upd H1 b (.lst (us.eraseIdx k))) (o := .lst (vs ++ [y])) ei2 hv
  exact L.nx _ σ _ n1 (M2.mut (d' := .lst (ds ++ [d])) ei2 hv ⟨_, upd_same, (rr2.mono key2).app ⟨y, [], rfl, ry2.mono key2, rfl⟩⟩) r1
/-- x.reverse() -/
def tlRvs (i : Nat) : TSt := fun E Γ n => match Γ[i]? with
  | some (some (.new (.lst ds))) => E.nx (Γ.set i (some (.new (.lst ds.reverse)))) n
  | _ => False
theorem rs_rvs {i : Nat} : RS C (tDrop (tBM0 K "list" rReverse (tVar i))) (tlRvs i) := by
  intro Z G Γ σ H n E F M L h1
  unfold tlRvs at h1
  split at h1
  · next ds e =>
    obtain ⟨v, hv, a, rfl, h0, vs, ha, rr⟩ := M.sl i _ e
    refine ⟨_, hv, .inl ⟨rfl, vs, SqL.of ha⟩, a, vs, rfl, rfl, ha, ?_⟩
    have key := own_key (Z := Z) (H := H) (o := .lst vs.reverse) e hv
    exact L.nx _ σ _ n (M.mut (d' := .lst ds.reverse) e hv ⟨vs.reverse, upd_same, (rr.mono key).rev⟩) h1
  · exact h1.elim
/-- i ** j -/
def dPow : D → D → (Rv → Prop) → Prop
  | .int i, .int j, R => 0 ≤ j ∧ j ≤ 1000000 ∧ i.natAbs < 2 ^ 64 ∧ R (.val (.int (i ^ j.toNat)))
  | _, _, _ => False
theorem r2_pow {Z : Zx} : R2T C Z (rI CPow fun i j => .int (i ^ j.toNat)) dPow := by
  intro W H x y d e R Q hp dm hx hy h q
  unfold dPow at h
  split at h
  · exact ⟨_, _, hx.int, hy.int, ⟨h.1, h.2.1, h.2.2.1⟩, same_int h.2.2.2 q⟩
  · exact h.elim
end
end TL
end
-- TLZ_F
section
set_option Elab.async false
set_option linter.all false
set_option maxRecDepth 100000
set_option maxHeartbeats 400000
/-! TLZ_F: x, y, z = e, [..], 0, the new ones kept as own -/
namespace TL
open L2 PyProof.Rows PySem PySem.Spec PySem.W TS RZ
variable [TL.Tb]
/-- numbers, texts, truths -/
def sclP : D → Bool
  | .non => true
  | .bl _ => true
  | .int _ => true
  | .str _ => true
  | _ => false
theorem sclP_any {p p2 : Pz} {C : Addr} {W W2 : Addr → Prop} {H H2 : Hp} : ∀ {d : D} {v : V}, sclP d = true → Rep p C W H d v → Rep p2 C W2 H2 d v
  | .non, _, _, h => h
  | .bl _, _, _, h => h
  | .int _, _, _, h => h
  | .str _, _, _, h => h
theorem sclP_all {p p2 : Pz} {C : Addr} {W W2 : Addr → Prop} {H H2 : Hp} : ∀ {ds : List D} {vs : List V}, ds.all sclP = true → RepL p C W H ds vs → RepL p2 C W2 H2 ds vs
  | [], _, _, h => h
  | d :: r, _, a, ⟨v, vr, e, h, q⟩ => by
    rw [List.all_cons, Bool.and_eq_true] at a
    exact ⟨v, vr, e, sclP_any a.1 h, sclP_all a.2 q⟩
/-- what is asked of the second and the third -/
def flatR3 : Rv → Bool
  | .val d => sclP d
  | .new (.lst ds) => ds.all sclP
  | _ => false
def tlPar3N (i j l : Nat) (T U Y : TX) : TSt := fun E Γ n => T Γ n fun r n1 => U Γ n1 fun s n2 => Y Γ n2 fun t n3 => sto r = true ∧ flatR3 s = true ∧ flatR3 t = true ∧ E.nx (((Γ.set i (some r)).set j (some s)).set l (some t)) n3
section
variable {C : Addr} {Z : Zx} {G : List (V × Rv)} {Γ : Gm} {σ : L2.St} {H H1 H2 : Hp} {n n2 : Nat} {i : Nat}
theorem setP_any {r : Rv} {v : V} (M : Mt C Z G Γ σ H n) (e : Bt Z.p H H1) (p : PAt Z.p H1 n2) (st : sto r = true) (x : XOk C Z (Ws Z Γ σ) H H1 r v) : Mt C Z G (Γ.set i (some r)) (σ.set i (some v)) H1 n2 := by
  match r, x, st with
  | .val d, x, _ => exact (M.bt e p).set_val x
  | .new d, ⟨a, ea, na, ro⟩, _ => subst ea; exact M.set_new e p na ro
theorem setP_flat {W : Addr → Prop} {H0 : Hp} {r : Rv} {v : V} (M : Mt C Z G Γ σ H n) (st : flatR3 r = true) (x : XOk C Z W H0 H1 r v) (fr : ∀ a, H0 a = none → H a = none) (e : Bt Z.p H H1) (p : PAt Z.p H1 n2) : Mt C Z G (Γ.set i (some r)) (σ.set i (some v)) H1 n2 := by
  match r, x, st with
  | .val d, x, st => exact (M.bt e p).set_val (sclP_any st x)
  | .new (.lst ds), ⟨a, ea, na, us, ha, rl⟩, st => subst ea; exact M.set_new e p (fr a na) ⟨us, ha, sclP_all st rl⟩
theorem rs_par3N {a b c : TE} {T U Y : TX} {i j l : Nat} (h : ∀ Z, RE C Z a T) (h2 : ∀ Z, RE C Z b U) (h3 : ∀ Z, RE C Z c Y) : RS C (tPar3 i j l (tCons a (tCons b (tCons c tNil)))) (tlPar3N i j l T U Y) := by
  intro Z G Γ σ H n E F M L q
  refine h Z G Γ σ H n _ _ M q fun v H1 r n1 e1 p1 x1 q1 => ?_
  have M1 := M.bt e1 p1
  refine h2 Z G Γ σ H1 n1 _ _ M1 q1 fun u H2 s n2 e2 p2 x2 q2 => ?_
  have M2 := M1.bt e2 p2
  refine h3 Z G Γ σ H2 n2 _ _ M2 q2 fun w H3 t n3 e3 p3 x3 ⟨sr, ss, stt, q3⟩ => ⟨v, u, w, rfl, ?_⟩
  have A := setP_any (i := i) M e1 p1 sr x1
  have B := setP_flat (i := j) A ss x2 (fun _ z => z) e2 p2
  have D_ := setP_flat (i := l) B stt x3 (fun _ z => z) e3 p3
  exact L.nx _ _ H3 n3 D_ q3
end
end TL
end
-- B
section
set_option Elab.async false
set_option linter.all false
set_option maxRecDepth 100000
set_option maxHeartbeats 4100000
namespace TL
open L2 PyProof.Rows PySem PySem.Spec TS TMin RZ
def B_is_count : TSt :=
  (tlRet (tlAnd (tlIsB "int" (tlV 0)) (tlAnd (tlNot (tlIsB "bool" (tlV 0))) (tlOp dGe (tlV 0) (tlC (.int 0))))))
def B_is_count_below (S1 : ST) : TSt :=
  (tlRet (tlAnd (tlCall [true] S1 (tlCons (tlV 0) tlNil)) (tlOp dLt (tlV 0) (tlV 1))))
def B_sorted_shelf : TSt :=
  (tlRet (tlShelf (tlV 0) (tlV 0)))
def B_mirrored (S1 : ST) : TSt :=
  (tlSq (tlEx (tlCall [true] S1 (tlCons (tlV 0) tlNil))) (tlRet (tlShelf (tlMeth [true] S_catalogue (tlV 0) tlNil) (tlRevA (tlMeth [true] S_row (tlV 0) tlNil)))))
def B_shelf_at (S1 : ST) (S2 : ST) : TSt :=
  (tlSq (tlIf (tlNotT (tlT (tlCall [true] S1 (tlCons (tlV 0) tlNil)))) tlNever tlNx) (tlSq (tlIf (tlNotT (tlT (tlCall [true, true] S2 (tlCons (tlV 1) (tlCons (tlB dFac (tlCons (tlB dLen (tlCons (tlV 0) tlNil)) tlNil)) tlNil))))) tlNever tlNx) (tlSq (tlRel 1 (tlPar3N 2 3 4 (tlB dList (tlCons (tlV 0) tlNil)) (tlLst tlNil) (tlV 1))) (tlSq (tlWhile (tlT (tlOp dNe (tlV 2) (tlLst tlNil))) (tlSq (tlSet 5 (tlB dFac (tlCons (tlOp dSub (tlB dLen (tlCons (tlV 2) tlNil)) (tlC (.int 1))) tlNil))) (tlSq (tlAppPop 3 2 (tlOp dFdiv (tlV 4) (tlV 5))) (tlSet 4 (tlOp dMod (tlV 4) (tlV 5)))))) (tlRet (tlShelf (tlV 0) (tlV 3)))))))
def BX_shelf_at (S1 : ST) (S2 : ST) (c_InvalidCatalogue : Addr) (c_InvalidCount : Addr) (Ex : EX_) : TSt :=
  (tlSq (tlIf (tlNotT (tlT (tlCall [true] S1 (tlCons (tlV 0) tlNil)))) (tlRel 0 (tlRz c_InvalidCatalogue Ex (tlV 0))) tlNx) (tlSq (tlIf (tlNotT (tlT (tlCall [true, true] S2 (tlCons (tlV 1) (tlCons (tlB dFac (tlCons (tlB dLen (tlCons (tlV 0) tlNil)) tlNil)) tlNil))))) (tlRel 1 (tlRz c_InvalidCount Ex (tlV 1))) tlNx) (tlSq (tlRel 1 (tlPar3N 2 3 4 (tlB dList (tlCons (tlV 0) tlNil)) (tlLst tlNil) (tlV 1))) (tlSq (tlWhile (tlT (tlOp dNe (tlV 2) (tlLst tlNil))) (tlSq (tlSet 5 (tlB dFac (tlCons (tlOp dSub (tlB dLen (tlCons (tlV 2) tlNil)) (tlC (.int 1))) tlNil))) (tlSq (tlAppPop 3 2 (tlOp dFdiv (tlV 4) (tlV 5))) (tlSet 4 (tlOp dMod (tlV 4) (tlV 5)))))) (tlRet (tlShelf (tlV 0) (tlV 3)))))))
def B_shelf_number (S1 : ST) : TSt :=
  (tlSq (tlSet 1 (tlCall [true] S1 (tlCons (tlV 0) tlNil))) (tlSq (tlSet 2 (tlC (.int 0))) (tlSq (tlRel 1 (tlFor (tlEnum (tlV 1)) (.tp [3, 4]) (tlSq (tlSet 5 (tlSl (tlV 1) (some (tlOp dAdd (tlV 3) (tlC (.int 1)))) none)) (tlAugN 2 (tlOp dMul (tlB dLen (tlCons (tlLc (tlSeq (tlV 5)) (.nm 6) (tlT (tlOp dLt (tlV 6) (tlV 4))) (tlV 6) [6]) tlNil)) (tlB dFac (tlCons (tlB dLen (tlCons (tlV 5) tlNil)) tlNil))))))) (tlRetV 2))))
def B_w_shuffled (S1 : ST) : TSt :=
  (tlSq (tlSet 2 (tlLst tlNil)) (tlSq (tlRel 1 (tlFor (tlSeq (tlV 1)) (.nm 3) (tlRel 3 (tlIns 2 (tlCall [true, true] S1 (tlCons (tlV 0) (tlCons (tlOp dAdd (tlB dLen (tlCons (tlV 2) tlNil)) (tlC (.int 1))) tlNil))) (tlV 3))))) (tlRetV 2)))
def B_w_exact (S1 : ST) : TSt :=
  (tlSq (tlIf (tlT (tlIsT "list" "tuple" (tlV 0))) (tlSq (tlSet 2 (tlAnd (tlOp dEq (tlIsB "list" (tlV 1)) (tlIsB "list" (tlV 0))) (tlOp dEq (tlIsB "tuple" (tlV 1)) (tlIsB "tuple" (tlV 0))))) (tlRet (tlAnd (tlV 2) (tlAnd (tlOp dEq (tlB dLen (tlCons (tlV 0) tlNil)) (tlB dLen (tlCons (tlV 1) tlNil))) (tlB dAll (tlCons (tlLc (tlZip (tlV 0) (tlV 1)) (.tp [3, 4]) tlYes (tlCall [true, true] S1 (tlCons (tlV 3) (tlCons (tlV 4) tlNil))) [3, 4]) tlNil)))))) tlNx) (tlSq (tlIf (tlT (tlIsB "dict" (tlV 0))) (tlSq (tlSet 2 (tlAnd (tlIsB "dict" (tlV 1)) (tlCall [true, true] S1 (tlCons (tlB dList (tlCons (tlV 0) tlNil)) (tlCons (tlB dList (tlCons (tlV 1) tlNil)) tlNil))))) (tlRet (tlAnd (tlV 2) (tlB dAll (tlCons (tlLockO 0 (tlLcK (.nm 5) tlYes (tlCall [true, true] S1 (tlCons (tlOp dIxD (tlV 0) (tlV 5)) (tlCons (tlOp dIxD (tlV 1) (tlV 5)) tlNil))) [5])) tlNil))))) tlNx) (tlRet (tlAnd (tlOp dEq (tlIsB "bool" (tlV 0)) (tlIsB "bool" (tlV 1))) (tlOp dEqA (tlV 0) (tlV 1))))))
def B_w_words (S1 : ST) (S2 : ST) : TSt :=
  (tlSq (tlPar 2 3 (tlCall [true] S1 (tlCons (tlV 0) tlNil)) (tlOp dEq (tlCall [true, true] S2 (tlCons (tlV 0) (tlCons (tlC (.int 3)) tlNil))) (tlC (.int 0)))) (tlSq (tlPar 4 5 (tlCall [true, true] S2 (tlCons (tlV 0) (tlCons (tlB dLen (tlCons (tlV 2) tlNil)) tlNil))) (tlLst tlNil)) (tlSq (tlFor (tlRng1 (tlV 1)) (.nm 6) (tlSq (tlSet 7 (tlOp dAdd (tlOp dAdd (tlSl (tlV 2) none (some (tlV 4))) (tlOp dIx (tlC (.str "abcdefghijklmnopqrstuvwxyz")) (tlCall [true, true] S2 (tlCons (tlV 0) (tlCons (tlC (.int 26)) tlNil))))) (tlSl (tlV 2) (some (tlOp dAdd (tlV 4) (tlC (.int 1)))) none))) (tlSq (tlIf (tlNotT (tlT (tlV 3))) (tlSet 7 (tlCall [true] S1 (tlCons (tlV 0) tlNil))) tlNx) (tlSq (tlIf (tlT (tlOp dInA (tlV 7) (tlV 5))) (tlSet 7 (tlOp dIx (tlLc (tlSeq (tlB dList (tlCons (tlC (.str "abcdefghijklmnopqrstuvwxyz")) tlNil))) (.nm 8) (tlT (tlOp dNin (tlV 8) (tlV 5))) (tlV 8) [8]) (tlC (.int 0)))) tlNx) (tlRel 7 (tlApp 5 (tlV 7))))))) (tlRetV 5))))
def B_w_catalogue (S1 : ST) (S2 : ST) (S3 : ST) : TSt :=
  (tlSq (tlSet 2 (tlCall [true, true] S1 (tlCons (tlV 0) (tlCons (tlV 1) tlNil)))) (tlRet (tlIfx (tlT (tlOp dEq (tlCall [true, true] S2 (tlCons (tlV 0) (tlCons (tlC (.int 2)) tlNil))) (tlC (.int 0)))) (tlB dSortedT (tlCons (tlV 2) tlNil)) (tlCall [true, true] S3 (tlCons (tlV 0) (tlCons (tlV 2) tlNil))))))
def B_w_many : TSt :=
  (tlSq (tlSet 1 (tlC (.int 1))) (tlSq (tlFor (tlRng2 (tlC (.int 2)) (tlOp dAdd (tlV 0) (tlC (.int 1)))) (.nm 2) (tlSet 1 (tlOp dMul (tlV 1) (tlV 2)))) (tlRetV 1)))
def B_w_next : TSt :=
  (tlSq (tlSet 1 (tlLc (tlRng1 (tlOp dSub (tlB dLen (tlCons (tlV 0) tlNil)) (tlC (.int 1)))) (.nm 2) (tlT (tlOp dLt (tlOp dIx (tlV 0) (tlV 2)) (tlOp dIx (tlV 0) (tlOp dAdd (tlV 2) (tlC (.int 1)))))) (tlV 2) [2])) (tlSq (tlIf (tlT (tlOp dEq (tlV 1) (tlLst tlNil))) (tlRet (tlC .non)) tlNx) (tlSq (tlSet 2 (tlOp dIx (tlV 1) (tlUn dNeg (tlC (.int 1))))) (tlSq (tlSet 3 (tlLc (tlRng2 (tlOp dAdd (tlV 2) (tlC (.int 1))) (tlB dLen (tlCons (tlV 0) tlNil))) (.nm 4) (tlT (tlOp dGt (tlOp dIx (tlV 0) (tlV 4)) (tlOp dIx (tlV 0) (tlV 2)))) (tlV 4) [4])) (tlSq (tlSet 5 (tlB dList (tlCons (tlV 0) tlNil))) (tlSq (tlSet2 5 (tlOp dIx (tlV 0) (tlOp dIx (tlV 3) (tlUn dNeg (tlC (.int 1))))) (tlOp dIx (tlV 0) (tlV 2)) (tlV 2) (tlOp dIx (tlV 3) (tlUn dNeg (tlC (.int 1))))) (tlRet (tlOp dAdd (tlSl (tlV 5) none (some (tlOp dAdd (tlV 2) (tlC (.int 1))))) (tlRevA (tlSl (tlV 5) (some (tlOp dAdd (tlV 2) (tlC (.int 1)))) none))))))))))
def B_w_over (S1 : ST) (SX1 : STX) (ok_InvalidCount : Addr → Prop) : TSt :=
  (tlSq (tlSet 2 (tlC .non)) (tlSq (tlRel 1 (tlRel 0 (tlTryE ok_InvalidCount 3 2 (fun Ex => (tlRel 1 (tlRel 0 (tlEx (tlCallX [false, false] SX1 Ex (tlCons (tlV 0) (tlCons (tlV 1) tlNil)))))))))) (tlRet (tlAnd (tlOp dNotN (tlV 2) (tlC .non)) (tlCall [true, true] S1 (tlCons (tlXv ok_InvalidCount (tlV 2)) (tlCons (tlV 1) tlNil)))))))
def B_w_number_right (S1 : ST) (S2 : ST) (S3 : ST) (S4 : ST) (S5 : ST) (S6 : ST) : TSt :=
  (tlSq (tlPar 2 3 (tlB dList (tlCons (tlV 0) tlNil)) (tlCall [true] S1 (tlCons (tlB dLen (tlCons (tlV 0) tlNil)) tlNil))) (tlSq (tlRel 1 (tlSet 4 (tlCallJ [true, false] S2 2 [1, 0] (tlCons (tlV 1) (tlCons (tlV 2) tlNil))))) (tlSq (tlRvs 2) (tlSq (tlRel 1 (tlRel 0 (tlIf (tlNotT (tlT (tlCall [true, true] S3 (tlCons (tlLst (tlCons (tlMeth [true] S_catalogue (tlV 4) tlNil) (tlCons (tlCallJ [true] S4 1 [0] (tlCons (tlV 4) tlNil)) (tlCons (tlB dSortedT (tlCons (tlMeth [true] S_row (tlV 4) tlNil) tlNil)) tlNil)))) (tlCons (tlLst (tlCons (tlV 0) (tlCons (tlV 1) (tlCons (tlB dSortedT (tlCons (tlV 0) tlNil)) tlNil)))) tlNil))))) (tlRet (tlC (.bl false))) tlNx))) (tlSq (tlSet 5 (tlCall [true] S5 (tlCons (tlV 4) tlNil))) (tlSq (tlIf (tlNotT (tlT (tlCall [true, true] S3 (tlCons (tlLc (tlSeq (tlV 5)) (.nm 6) tlYes (tlOp dIx (tlV 0) (tlV 6)) [6]) (tlCons (tlMeth [true] S_row (tlV 4) tlNil) tlNil))))) (tlRet (tlC (.bl false))) tlNx) (tlSq (tlSet 7 (tlCall [true] S6 (tlCons (tlV 5) tlNil))) (tlSq (tlIf (tlT (tlOp dNe (tlOp dIsN (tlV 7) (tlC .non)) (tlOp dEq (tlV 1) (tlOp dSub (tlV 3) (tlC (.int 1)))))) (tlRet (tlC (.bl false))) tlNx) (tlSq (tlIf (tlAndT (tlT (tlOp dNotN (tlV 7) (tlC .non))) (tlNotT (tlT (tlCall [true, true] S3 (tlCons (tlCall [true] S5 (tlCons (tlCall [true, false] S2 (tlCons (tlV 0) (tlCons (tlOp dAdd (tlV 1) (tlC (.int 1))) tlNil))) tlNil)) (tlCons (tlV 7) tlNil)))))) (tlRet (tlC (.bl false))) tlNx) (tlSq (tlSet 8 (tlShelf (tlV 0) (tlLc (tlSeq (tlV 5)) (.nm 6) tlYes (tlOp dIx (tlV 0) (tlOp dSub (tlOp dSub (tlB dLen (tlCons (tlV 0) tlNil)) (tlC (.int 1))) (tlV 6))) [6]))) (tlRet (tlAnd (tlCall [true, true] S3 (tlCons (tlCall [true] S4 (tlCons (tlV 8) tlNil)) (tlCons (tlOp dSub (tlOp dSub (tlV 3) (tlC (.int 1))) (tlV 1)) tlNil))) (tlOp dEqA (tlCall [true, false] S2 (tlCons (tlV 0) (tlCons (tlOp dSub (tlOp dSub (tlV 3) (tlC (.int 1))) (tlV 1)) tlNil))) (tlV 8))))))))))))))
def B_w_all_right (S1 : ST) (S2 : ST) (S3 : ST) (S4 : ST) (S5 : ST) (S6 : ST) : TSt :=
  (tlSq (tlPar 1 2 (tlLRg1 (tlB dLen (tlCons (tlV 0) tlNil))) (tlLst tlNil)) (tlSq (tlFor (tlRng1 (tlCall [true] S1 (tlCons (tlB dLen (tlCons (tlV 0) tlNil)) tlNil))) (.nm 3) (tlSq (tlRel 1 (tlApp 2 (tlV 1))) (tlSet 1 (tlCall [true] S2 (tlCons (tlV 1) tlNil))))) (tlSq (tlIf (tlOrT (tlT (tlOp dNotN (tlV 1) (tlC .non))) (tlT (tlOp dNe (tlB dSortedD (tlCons (tlV 2) tlNil)) (tlV 2)))) (tlRet (tlC (.bl false))) tlNx) (tlSq (tlRel 5 (tlSet 4 (tlLc (tlRng1 (tlB dLen (tlCons (tlV 2) tlNil))) (.nm 5) tlYes (tlCall [true, false] S3 (tlCons (tlV 0) (tlCons (tlV 5) tlNil))) [5]))) (tlSq (tlIf (tlNotT (tlT (tlCall [true, true] S4 (tlCons (tlLc (tlSeq (tlV 4)) (.nm 6) tlYes (tlCall [true] S5 (tlCons (tlV 6) tlNil)) [6]) (tlCons (tlV 2) tlNil))))) (tlRet (tlC (.bl false))) tlNx) (tlRet (tlCall [true, true] S4 (tlCons (tlLc (tlSeq (tlV 2)) (.nm 7) tlYes (tlCall [true] S6 (tlCons (tlShelf (tlV 0) (tlLc (tlSeq (tlV 7)) (.nm 8) tlYes (tlOp dIx (tlV 0) (tlV 8)) [8])) tlNil)) [7]) (tlCons (tlLRg1 (tlB dLen (tlCons (tlV 2) tlNil))) tlNil)))))))))
def B_w_right (S1 : ST) (S2 : ST) (S3 : ST) (S4 : ST) (S5 : ST) (S6 : ST) (S7 : ST) (S8 : ST) (S9 : ST) (S10 : ST) (S11 : ST) : TSt :=
  (tlSq (tlSet 2 (tlCall [true, true] S1 (tlCons (tlV 0) (tlCons (tlV 1) tlNil)))) (tlSq (tlSet 3 (tlCall [true] S2 (tlCons (tlV 1) tlNil))) (tlSq (tlSet 4 (tlLst (tlCons (tlC (.int 0)) (tlCons (tlOp dSub (tlV 3) (tlC (.int 1))) (tlCons (tlOp dFdiv (tlV 3) (tlC (.int 2))) (tlCons (tlCall [true, true] S3 (tlCons (tlV 0) (tlCons (tlV 3) tlNil))) (tlCons (tlCall [true, true] S3 (tlCons (tlV 0) (tlCons (tlV 3) tlNil))) (tlCons (tlB dMin2 (tlCons (tlOp dSub (tlV 3) (tlC (.int 1))) (tlCons (tlOp dFdiv (tlV 3) (tlV 1)) tlNil))) (tlCons (tlB dMax2 (tlCons (tlC (.int 0)) (tlCons (tlOp dSub (tlOp dFdiv (tlV 3) (tlV 1)) (tlC (.int 1))) tlNil))) tlNil))))))))) (tlSq (tlRel 5 (tlRel 2 (tlIf (tlT (tlOp dNe (tlLc (tlSeq (tlV 4)) (.nm 5) (tlNotT (tlT (tlCall [false, false] S4 (tlCons (tlV 2) (tlCons (tlV 5) tlNil))))) (tlV 5) [5]) (tlLst tlNil))) (tlRet (tlC (.bl false))) tlNx))) (tlSq (tlRel 6 (tlRel 3 (tlRel 2 (tlIf (tlT (tlOp dNe (tlLc (tlSeq (tlTup (tlCons (tlV 3) (tlCons (tlOp dAdd (tlV 3) (tlC (.int 1))) (tlCons (tlOp dMul (tlV 3) (tlC (.int 2))) (tlCons (tlOp dPow (tlC (.int 10)) (tlC (.int 29))) (tlCons (tlUn dNeg (tlC (.int 1))) (tlCons (tlUn dNeg (tlV 3)) tlNil)))))))) (.nm 6) (tlNotT (tlT (tlCall [false, false] S5 (tlCons (tlV 2) (tlCons (tlV 6) tlNil))))) (tlV 6) [6]) (tlLst tlNil))) (tlRet (tlC (.bl false))) tlNx)))) (tlSq (tlSet 7 (tlCall [true, true] S6 (tlCons (tlV 0) (tlCons (tlV 2) tlNil)))) (tlSq (tlSet 8 (tlShelf (tlV 2) (tlV 7))) (tlSq (tlSet 6 (tlCall [true] S7 (tlCons (tlV 8) tlNil))) (tlSq (tlRel 6 (tlIf (tlOrT (tlNotT (tlT (tlChain dLe dLt (tlC (.int 0)) (tlV 6) (tlV 3)))) (tlOrT (tlT (tlOp dNeA (tlCall [true, false] S8 (tlCons (tlV 2) (tlCons (tlV 6) tlNil))) (tlV 8))) (tlNotT (tlT (tlCall [true, true] S9 (tlCons (tlCall [true] S7 (tlCons (tlCall [true] S10 (tlCons (tlCall [true] S10 (tlCons (tlV 8) tlNil)) tlNil)) tlNil)) (tlCons (tlV 6) tlNil))))))) (tlRet (tlC (.bl false))) tlNx)) (tlSq (tlSet 9 (tlOp dIx (tlLc (tlRng1 (tlV 1)) (.nm 10) (tlT (tlOp dEqA (tlOp dIx (tlV 2) (tlV 10)) (tlOp dIx (tlV 7) (tlC (.int 0))))) (tlV 10) [10]) (tlC (.int 0)))) (tlSq (tlIf (tlT (tlOp dNe (tlOp dFdiv (tlV 6) (tlCall [true] S2 (tlCons (tlOp dSub (tlV 1) (tlC (.int 1))) tlNil))) (tlV 9))) (tlRet (tlC (.bl false))) tlNx) (tlSq (tlSet 11 (tlIfx (tlT (tlOp dGt (tlV 1) (tlC (.int 1)))) (tlShelf (tlLc (tlSeq (tlV 2)) (.nm 12) (tlT (tlOp dNeA (tlV 12) (tlOp dIx (tlV 7) (tlC (.int 0))))) (tlV 12) [12]) (tlSl (tlV 7) (some (tlC (.int 1))) none)) (tlC .non))) (tlSq (tlIf (tlAndT (tlT (tlOp dNotN (tlV 11) (tlC .non))) (tlT (tlOp dNe (tlCall [true] S7 (tlCons (tlV 11) tlNil)) (tlOp dMod (tlV 6) (tlCall [true] S2 (tlCons (tlOp dSub (tlV 1) (tlC (.int 1))) tlNil)))))) (tlRet (tlC (.bl false))) tlNx) (tlRet (tlAnd (tlOp dEq (tlCall [true] S7 (tlCons (tlCall [true] S11 (tlCons (tlV 2) tlNil)) tlNil)) (tlC (.int 0))) (tlOp dEqA (tlCall [true, false] S8 (tlCons (tlV 2) (tlCons (tlOp dSub (tlV 3) (tlC (.int 1))) tlNil))) (tlCall [true] S10 (tlCons (tlCall [true] S11 (tlCons (tlV 2) tlNil)) tlNil))))))))))))))))))
end TL
end
-- Dv
section
set_option Elab.async false
set_option linter.all false
set_option maxRecDepth 100000
set_option maxHeartbeats 4100000
namespace LW
open L2 PyProof.Rows PySem PySem.Spec TS TL TMin RZ
section
variable [TL.Tb] {P : Program} {w : World} {K : PySem.W.Frag} {mg : Str → Option Value} {base : Heap} {C : Addr}
abbrev st_is_count : Stmt := top 2
abbrev nn_is_count : List Str := ["value"]
theorem sc_is_count : FnScope nn_is_count ["value"] (defScope st_is_count) := ⟨rfl, rfl, rfl, by decide +kernel, rfl, by decide +kernel, by decide +kernel⟩
theorem has_is_count {S : ST} (M : Nm mg) (L : ShL P w K mg base C) (r : RawF K mg "is_count" st_is_count) 
    (tree : ∀ ds n R, S ds n R → B_is_count (ends R) (slots [true] ds 0) n) : Has P w K mg base C 1 "is_count" ["value"] [true] S := by
  obtain ⟨f, fd, m0, F⟩ := r
  obtain ⟨fi, fq, fc, fr, fdi, fdq, fdc, fdr, T, gS, Fi, bi, Fq, bq, Fc, bc, Fr, br, I⟩ := L.x
  refine ⟨f, fd, def_ok F sc_is_count rfl (fun cdv A outer s H E hr => ?_) tree, m0, F.kp, F.binds fun _ _ _ _ _ _ us hl => match us, hl with | [_], _ => rfl⟩
  have hu := units62 hr
  exact ⟨_, (pss_one (ps_ret (pe_and (pe_callB call_isi (by rfl) M.isinstance b_isinstance (pa_cons (pv 0) (pa_cons (pe_bltn (v := .ty "int") rfl M.int b_int rfl) pa_nil))) (pe_and (pe_not (pe_callB call_isi (by rfl) M.isinstance b_isinstance (pa_cons (pv 0) (pa_cons (pe_bltn (v := .ty "bool") rfl M.bool b_bool rfl) pa_nil)))) (pe_one (pe_cmpR op_ge (pv 0) pe_int (by first | exact nomark _ | rfl))))))), (rs_ret fun Z => (re_and (re_isB I (by decide) re_v) (re_and (re_not (re_isB I (by decide) re_v)) (re_op r2_ge re_v re_int))))⟩
abbrev st_is_count_below : Stmt := top 3
abbrev nn_is_count_below : List Str := ["value", "bound"]
theorem sc_is_count_below : FnScope nn_is_count_below ["value", "bound"] (defScope st_is_count_below) := ⟨rfl, rfl, rfl, by decide +kernel, rfl, by decide +kernel, by decide +kernel⟩
theorem has_is_count_below {S S1 : ST} (M : Nm mg) (r : RawF K mg "is_count_below" st_is_count_below) (h1 : Has P w K mg base C 1 "is_count" ["value"] [true] S1) 
    (tree : ∀ ds n R, S ds n R → B_is_count_below S1 (ends R) (slots [true, true] ds 0) n) : Has P w K mg base C 2 "is_count_below" ["value", "bound"] [true, true] S := by
  obtain ⟨f, fd, m0, F⟩ := r
  obtain ⟨f1, fd1, F1, m1, k1, b1⟩ := h1
  refine ⟨f, fd, def_ok F sc_is_count_below rfl (fun cdv A outer s H E hr => ?_) tree, m0, F.kp, F.binds fun _ _ _ _ _ _ us hl => match us, hl with | [_, _], _ => rfl⟩
  have hu := units62 hr
  exact ⟨_, (pss_one (ps_ret (pe_and (pe_call F1 (hr.mono (by first | decide | omega)) rfl m1 k1 b1 .nil pass0 (pa_cons (pv 0) pa_nil)) (pe_one (pe_cmpR op_ltA (pv 0) (pv 1) (by first | exact nomark _ | rfl)))))), (rs_ret fun Z => (re_and (re_call (ra_cons re_v ra_nil)) (re_op r2_lt re_v re_v)))⟩
abbrev st_sorted_shelf : Stmt := top 20
abbrev nn_sorted_shelf : List Str := ["catalogue"]
theorem sc_sorted_shelf : FnScope nn_sorted_shelf ["catalogue"] (defScope st_sorted_shelf) := ⟨rfl, rfl, rfl, by decide +kernel, rfl, by decide +kernel, by decide +kernel⟩
theorem has_sorted_shelf {S : ST} (M : Nm mg) (L : ShL P w K mg base C) (r : RawF K mg "sorted_shelf" st_sorted_shelf) 
    (tree : ∀ ds n R, S ds n R → B_sorted_shelf (ends R) (slots [true] ds 0) n) : Has P w K mg base C 6 "sorted_shelf" ["catalogue"] [true] S := by
  obtain ⟨f, fd, m0, F⟩ := r
  obtain ⟨fi, fq, fc, fr, fdi, fdq, fdc, fdr, T, gS, Fi, bi, Fq, bq, Fc, bc, Fr, br, I⟩ := L.x
  refine ⟨f, fd, def_ok F sc_sorted_shelf rfl (fun cdv A outer s H E hr => ?_) tree, m0, F.kp, F.binds fun _ _ _ _ _ _ us hl => match us, hl with | [_], _ => rfl⟩
  have hu := units62 hr
  exact ⟨_, (pss_one (ps_ret (pe_make T.makes Fi (hr.mono (by first | decide | omega)) rfl gS bi .nil pass0 (pa_cons (pv 0) (pa_cons (pv 0) pa_nil))))), (rs_ret fun Z => (re_shelf re_v re_v))⟩
abbrev st_mirrored : Stmt := top 21
abbrev nn_mirrored : List Str := ["shelf"]
theorem sc_mirrored : FnScope nn_mirrored ["shelf"] (defScope st_mirrored) := ⟨rfl, rfl, rfl, by decide +kernel, rfl, by decide +kernel, by decide +kernel⟩
theorem has_mirrored {S S1 : ST} (M : Nm mg) (L : ShL P w K mg base C) (r : RawF K mg "mirrored" st_mirrored) (h1 : Has P w K mg base C 1 "check_shelf" ["shelf"] [true] S1) 
    (tree : ∀ ds n R, S ds n R → B_mirrored S1 (ends R) (slots [true] ds 0) n) : Has P w K mg base C 6 "mirrored" ["shelf"] [true] S := by
  obtain ⟨f, fd, m0, F⟩ := r
  obtain ⟨fi, fq, fc, fr, fdi, fdq, fdc, fdr, T, gS, Fi, bi, Fq, bq, Fc, bc, Fr, br, I⟩ := L.x
  obtain ⟨f1, fd1, F1, m1, k1, b1⟩ := h1
  refine ⟨f, fd, def_ok F sc_mirrored rfl (fun cdv A outer s H E hr => ?_) tree, m0, F.kp, F.binds fun _ _ _ _ _ _ us hl => match us, hl with | [_], _ => rfl⟩
  have hu := units62 hr
  exact ⟨_, (pss_cons (ps_expr (pe_call F1 (hr.mono (by first | decide | omega)) rfl m1 k1 b1 .nil pass0 (pa_cons (pv 0) pa_nil))) (pss_one (ps_ret (pe_make T.makes Fi (hr.mono (by first | decide | omega)) rfl gS bi .nil pass0 (pa_cons (pe_meth0 (pv 0) T.cl T.mc Fc (hr.mono (by first | decide | omega)) bc .nil pass0) (pa_cons (pe_revA (pe_meth0 (pv 0) T.cl T.mr Fr (hr.mono (by first | decide | omega)) br .nil pass0)) pa_nil)))))), (rs_sq (rs_ex fun Z => (re_call (ra_cons re_v ra_nil))) (rs_ret fun Z => (re_shelf (re_meth rfl rfl re_v ra_nil) (re_revA (re_meth rfl rfl re_v ra_nil)))))⟩
abbrev st_shelf_at : Stmt := top 22
abbrev nn_shelf_at : List Str := ["catalogue", "number", "left", "row", "rest", "alike"]
theorem sc_shelf_at : FnScope nn_shelf_at ["catalogue", "number"] (defScope st_shelf_at) := ⟨rfl, rfl, rfl, by decide +kernel, rfl, by decide +kernel, by decide +kernel⟩
theorem has_shelf_at {S S1 S2 : ST} (M : Nm mg) (L : ShL P w K mg base C) (m_factorial : mg "factorial" = some (.builtin "math.factorial")) (r : RawF K mg "shelf_at" st_shelf_at) (h1 : Has P w K mg base C 2 "is_catalogue" ["value"] [true] S1) (h2 : Has P w K mg base C 2 "is_count_below" ["value", "bound"] [true, true] S2) 
    (tree : ∀ ds n R, S ds n R → B_shelf_at S1 S2 (ends R) (slots [true, false] ds 4) n) : Has P w K mg base C 6 "shelf_at" ["catalogue", "number"] [true, false] S := by
  obtain ⟨f, fd, m0, F⟩ := r
  obtain ⟨fi, fq, fc, fr, fdi, fdq, fdc, fdr, T, gS, Fi, bi, Fq, bq, Fc, bc, Fr, br, I⟩ := L.x
  obtain ⟨f1, fd1, F1, m1, k1, b1⟩ := h1
  obtain ⟨f2, fd2, F2, m2, k2, b2⟩ := h2
  refine ⟨f, fd, def_ok F sc_shelf_at rfl (fun cdv A outer s H E hr => ?_) tree, m0, F.kp, F.binds fun _ _ _ _ _ _ us hl => match us, hl with | [_, _], _ => rfl⟩
  have hu := units62 hr
  exact ⟨_, (pss_cons (ps_if (pt_not (pt_val (pe_call F1 (hr.mono (by first | decide | omega)) rfl m1 k1 b1 .nil pass0 (pa_cons (pv 0) pa_nil)))) pss_never pss_nil) (pss_cons (ps_if (pt_not (pt_val (pe_call F2 (hr.mono (by first | decide | omega)) rfl m2 k2 b2 .nil pass0 (pa_cons (pv 1) (pa_cons (pe_callM call_fac (by rfl) m_factorial (pa_cons (pe_callB call_lenA (by rfl) M.len b_len (pa_cons (pv 0) pa_nil)) pa_nil)) pa_nil))))) pss_never pss_nil) (pss_cons (ps_par3 (i := 2) (j := 3) (l := 4) rfl sc_shelf_at.nd rfl rfl rfl (by decide) (by decide) (by decide) rfl rfl rfl (pa_cons (pe_callTy (call_listA rfl) (by rfl) M.list b_list (pa_cons (pv 0) pa_nil)) (pa_cons (pe_lst pa_nil) (pa_cons (pv 1) pa_nil))) rfl) (pss_cons (ps_while PassesOwn.never (pt_cmpR (op_neP hu) (pv 2) (pe_lst pa_nil) (by first | exact nomark _ | rfl)) (pss_cons (ps_set (i := 5) sc_shelf_at.nd rfl (Or.inl rfl) (pe_callM call_fac (by rfl) m_factorial (pa_cons (pe_op op_sub (pe_callB call_lenA (by rfl) M.len b_len (pa_cons (pv 2) pa_nil)) pe_int) pa_nil))) (pss_cons (ps_expr (pe_bm PySem.F.plainAttrs_list PySem.F.slot_list_append PySem.F.type_list_append mt_append (pv 3) (pa_cons (pe_bm PySem.F.plainAttrs_list PySem.F.slot_list_pop PySem.F.type_list_pop mt_popAt (pv 2) (pa_cons (pe_op op_fdiv (pv 4) (pv 5)) pa_nil)) pa_nil))) (pss_one (ps_set (i := 4) sc_shelf_at.nd rfl (Or.inl rfl) (pe_op op_mod (pv 4) (pv 5))))))) (pss_one (ps_ret (pe_make T.makes Fi (hr.mono (by first | decide | omega)) rfl gS bi .nil pass0 (pa_cons (pv 0) (pa_cons (pv 3) pa_nil))))))))), (rs_sq (rs_if (fun Z => (rt_not (rt_v (re_call (ra_cons re_v ra_nil))))) rs_never rs_nx) (rs_sq (rs_if (fun Z => (rt_not (rt_v (re_call (ra_cons re_v (ra_cons (re_cb rn_fac (ra_cons (re_cb rn_len (ra_cons re_v ra_nil)) ra_nil)) ra_nil)))))) rs_never rs_nx) (rs_sq (rs_rel 1 (rs_par3N (fun Z => (re_cb rn_list (ra_cons re_v ra_nil))) (fun Z => (re_lst ra_nil)) (fun Z => re_v))) (rs_sq (rs_while (fun Z => (rt_c (re_op r2_ne re_v (re_lst ra_nil)))) (rs_sq (rs_set fun Z => (re_cb rn_fac (ra_cons (re_op r2_sub (re_cb rn_len (ra_cons re_v ra_nil)) re_int) ra_nil))) (rs_sq (rs_appPop (i := 3) (j := 2) (by decide) fun Z => (re_op r2_fdiv re_v re_v)) (rs_set fun Z => (re_op r2_mod re_v re_v))))) (rs_ret fun Z => (re_shelf re_v re_v))))))⟩
theorem hasJ_shelf_at_10 {S S1 S2 : ST} (M : Nm mg) (L : ShL P w K mg base C) (m_factorial : mg "factorial" = some (.builtin "math.factorial")) (r : RawF K mg "shelf_at" st_shelf_at) (h1 : Has P w K mg base C 2 "is_catalogue" ["value"] [true] S1) (h2 : Has P w K mg base C 2 "is_count_below" ["value", "bound"] [true, true] S2) 
    (tree : ∀ ds n R, S ds n R → B_shelf_at S1 S2 (ends R) (slots [true, false] ds 4) n) : HasJ P w K mg base C 6 "shelf_at" ["catalogue", "number"] [true, false] S ["number", "catalogue"] [1, 0] := by
  obtain ⟨f, fd, m0, F⟩ := r
  obtain ⟨fi, fq, fc, fr, fdi, fdq, fdc, fdr, T, gS, Fi, bi, Fq, bq, Fc, bc, Fr, br, I⟩ := L.x
  obtain ⟨f1, fd1, F1, m1, k1, b1⟩ := h1
  obtain ⟨f2, fd2, F2, m2, k2, b2⟩ := h2
  refine ⟨f, fd, def_ok F sc_shelf_at rfl (fun cdv A outer s H E hr => ?_) tree, m0, F.kp, F.bindsJ fun _ _ _ _ _ _ us hl => match us, hl with | [_, _], _ => rfl⟩
  have hu := units62 hr
  exact ⟨_, (pss_cons (ps_if (pt_not (pt_val (pe_call F1 (hr.mono (by first | decide | omega)) rfl m1 k1 b1 .nil pass0 (pa_cons (pv 0) pa_nil)))) pss_never pss_nil) (pss_cons (ps_if (pt_not (pt_val (pe_call F2 (hr.mono (by first | decide | omega)) rfl m2 k2 b2 .nil pass0 (pa_cons (pv 1) (pa_cons (pe_callM call_fac (by rfl) m_factorial (pa_cons (pe_callB call_lenA (by rfl) M.len b_len (pa_cons (pv 0) pa_nil)) pa_nil)) pa_nil))))) pss_never pss_nil) (pss_cons (ps_par3 (i := 2) (j := 3) (l := 4) rfl sc_shelf_at.nd rfl rfl rfl (by decide) (by decide) (by decide) rfl rfl rfl (pa_cons (pe_callTy (call_listA rfl) (by rfl) M.list b_list (pa_cons (pv 0) pa_nil)) (pa_cons (pe_lst pa_nil) (pa_cons (pv 1) pa_nil))) rfl) (pss_cons (ps_while PassesOwn.never (pt_cmpR (op_neP hu) (pv 2) (pe_lst pa_nil) (by first | exact nomark _ | rfl)) (pss_cons (ps_set (i := 5) sc_shelf_at.nd rfl (Or.inl rfl) (pe_callM call_fac (by rfl) m_factorial (pa_cons (pe_op op_sub (pe_callB call_lenA (by rfl) M.len b_len (pa_cons (pv 2) pa_nil)) pe_int) pa_nil))) (pss_cons (ps_expr (pe_bm PySem.F.plainAttrs_list PySem.F.slot_list_append PySem.F.type_list_append mt_append (pv 3) (pa_cons (pe_bm PySem.F.plainAttrs_list PySem.F.slot_list_pop PySem.F.type_list_pop mt_popAt (pv 2) (pa_cons (pe_op op_fdiv (pv 4) (pv 5)) pa_nil)) pa_nil))) (pss_one (ps_set (i := 4) sc_shelf_at.nd rfl (Or.inl rfl) (pe_op op_mod (pv 4) (pv 5))))))) (pss_one (ps_ret (pe_make T.makes Fi (hr.mono (by first | decide | omega)) rfl gS bi .nil pass0 (pa_cons (pv 0) (pa_cons (pv 3) pa_nil))))))))), (rs_sq (rs_if (fun Z => (rt_not (rt_v (re_call (ra_cons re_v ra_nil))))) rs_never rs_nx) (rs_sq (rs_if (fun Z => (rt_not (rt_v (re_call (ra_cons re_v (ra_cons (re_cb rn_fac (ra_cons (re_cb rn_len (ra_cons re_v ra_nil)) ra_nil)) ra_nil)))))) rs_never rs_nx) (rs_sq (rs_rel 1 (rs_par3N (fun Z => (re_cb rn_list (ra_cons re_v ra_nil))) (fun Z => (re_lst ra_nil)) (fun Z => re_v))) (rs_sq (rs_while (fun Z => (rt_c (re_op r2_ne re_v (re_lst ra_nil)))) (rs_sq (rs_set fun Z => (re_cb rn_fac (ra_cons (re_op r2_sub (re_cb rn_len (ra_cons re_v ra_nil)) re_int) ra_nil))) (rs_sq (rs_appPop (i := 3) (j := 2) (by decide) fun Z => (re_op r2_fdiv re_v re_v)) (rs_set fun Z => (re_op r2_mod re_v re_v))))) (rs_ret fun Z => (re_shelf re_v re_v))))))⟩
theorem hasX_shelf_at {S : STX} {S1 S2 : ST} {c_InvalidCatalogue i_InvalidCatalogue c_InvalidCount i_InvalidCount : Addr} (M : Nm mg) (L : ShL P w K mg base C) (r : RawF K mg "shelf_at" st_shelf_at) (h1 : Has P w K mg base C 2 "is_catalogue" ["value"] [true] S1) (h2 : Has P w K mg base C 2 "is_count_below" ["value", "bound"] [true, true] S2) (T_InvalidCatalogue : RawE K "InvalidCatalogue" c_InvalidCatalogue i_InvalidCatalogue) (m_InvalidCatalogue : mg "InvalidCatalogue" = some (.ref c_InvalidCatalogue)) (T_InvalidCount : RawE K "InvalidCount" c_InvalidCount i_InvalidCount) (m_InvalidCount : mg "InvalidCount" = some (.ref c_InvalidCount)) (m_factorial : mg "factorial" = some (.builtin "math.factorial"))
    (tree : ∀ ds n R Ex, S ds n R Ex → BX_shelf_at S1 S2 c_InvalidCatalogue c_InvalidCount (exY (dnX Ex)) (ends R) (slots [false, false] ds 4) n) : HasX P w K mg base C 6 "shelf_at" ["catalogue", "number"] [false, false] S := by
  obtain ⟨f, fd, m0, F⟩ := r
  obtain ⟨fi, fq, fc, fr, fdi, fdq, fdc, fdr, T, gS, Fi, bi, Fq, bq, Fc, bc, Fr, br, I⟩ := L.x
  obtain ⟨f1, fd1, F1, m1, k1, b1⟩ := h1
  obtain ⟨f2, fd2, F2, m2, k2, b2⟩ := h2
  refine ⟨f, fd, def_okX F sc_shelf_at rfl (fun cdv A outer s H E hr => ?_) tree, m0, F.kp, F.binds fun _ _ _ _ _ _ us hl => match us, hl with | [_, _], _ => rfl⟩
  have hu := units62 hr
  have tk := takes_of (X := cxOf (L2.CX P w) P w K mg base nn_shelf_at "shelf_at" (defScope st_shelf_at) f cdv A outer s H E) rfl rfl rfl rfl
  exact ⟨_, (pss_cons (ps_if (pt_not (pt_val (pe_call F1 (hr.mono (by first | decide | omega)) rfl m1 k1 b1 .nil pass0 (pa_cons (pv 0) pa_nil)))) (pss_one (ps_raiseV rfl T_InvalidCatalogue.er (hr.mono (by first | decide | omega)) tk (pa_cons (pv 0) pa_nil) rfl m_InvalidCatalogue)) pss_nil) (pss_cons (ps_if (pt_not (pt_val (pe_call F2 (hr.mono (by first | decide | omega)) rfl m2 k2 b2 .nil pass0 (pa_cons (pv 1) (pa_cons (pe_callM call_fac (by rfl) m_factorial (pa_cons (pe_callB call_lenA (by rfl) M.len b_len (pa_cons (pv 0) pa_nil)) pa_nil)) pa_nil))))) (pss_one (ps_raiseV rfl T_InvalidCount.er (hr.mono (by first | decide | omega)) tk (pa_cons (pv 1) pa_nil) rfl m_InvalidCount)) pss_nil) (pss_cons (ps_par3 (i := 2) (j := 3) (l := 4) rfl sc_shelf_at.nd rfl rfl rfl (by decide) (by decide) (by decide) rfl rfl rfl (pa_cons (pe_callTy (call_listA rfl) (by rfl) M.list b_list (pa_cons (pv 0) pa_nil)) (pa_cons (pe_lst pa_nil) (pa_cons (pv 1) pa_nil))) rfl) (pss_cons (ps_while (passes_of rfl) (pt_cmpR (op_neP hu) (pv 2) (pe_lst pa_nil) (by first | exact nomark _ | rfl)) (pss_cons (ps_set (i := 5) sc_shelf_at.nd rfl (Or.inl rfl) (pe_callM call_fac (by rfl) m_factorial (pa_cons (pe_op op_sub (pe_callB call_lenA (by rfl) M.len b_len (pa_cons (pv 2) pa_nil)) pe_int) pa_nil))) (pss_cons (ps_expr (pe_bm PySem.F.plainAttrs_list PySem.F.slot_list_append PySem.F.type_list_append mt_append (pv 3) (pa_cons (pe_bm PySem.F.plainAttrs_list PySem.F.slot_list_pop PySem.F.type_list_pop mt_popAt (pv 2) (pa_cons (pe_op op_fdiv (pv 4) (pv 5)) pa_nil)) pa_nil))) (pss_one (ps_set (i := 4) sc_shelf_at.nd rfl (Or.inl rfl) (pe_op op_mod (pv 4) (pv 5))))))) (pss_one (ps_ret (pe_make T.makes Fi (hr.mono (by first | decide | omega)) rfl gS bi .nil pass0 (pa_cons (pv 0) (pa_cons (pv 3) pa_nil))))))))), fun Z Ex => (rw_sq (rw_if (rt_not (rt_v (re_call (ra_cons re_v ra_nil)))) (rw_rel 0 (rw_raiseO re_v)) (rw_of rs_nx)) (rw_sq (rw_if (rt_not (rt_v (re_call (ra_cons re_v (ra_cons (re_cb rn_fac (ra_cons (re_cb rn_len (ra_cons re_v ra_nil)) ra_nil)) ra_nil))))) (rw_rel 1 (rw_raiseO re_v)) (rw_of rs_nx)) (rw_sq (rw_rel 1 (rw_of (rs_par3N (fun Z => (re_cb rn_list (ra_cons re_v ra_nil))) (fun Z => (re_lst ra_nil)) (fun Z => re_v)))) (rw_sq (rw_of (rs_while (fun Z => (rt_c (re_op r2_ne re_v (re_lst ra_nil)))) (rs_sq (rs_set fun Z => (re_cb rn_fac (ra_cons (re_op r2_sub (re_cb rn_len (ra_cons re_v ra_nil)) re_int) ra_nil))) (rs_sq (rs_appPop (i := 3) (j := 2) (by decide) fun Z => (re_op r2_fdiv re_v re_v)) (rs_set fun Z => (re_op r2_mod re_v re_v)))))) (rw_of (rs_ret fun Z => (re_shelf re_v re_v)))))))⟩
abbrev st_shelf_number : Stmt := top 23
abbrev nn_shelf_number : List Str := ["shelf", "entries", "number", "place", "entry", "behind", "later"]
theorem sc_shelf_number : FnScope nn_shelf_number ["shelf"] (defScope st_shelf_number) := ⟨rfl, rfl, rfl, by decide +kernel, rfl, by decide +kernel, by decide +kernel⟩
theorem has_shelf_number {S S1 : ST} (M : Nm mg) (m_factorial : mg "factorial" = some (.builtin "math.factorial")) (r : RawF K mg "shelf_number" st_shelf_number) (h1 : Has P w K mg base C 2 "ranks" ["shelf"] [true] S1) 
    (tree : ∀ ds n R, S ds n R → B_shelf_number S1 (ends R) (slots [true] ds 6) n) : Has P w K mg base C 3 "shelf_number" ["shelf"] [true] S := by
  obtain ⟨f, fd, m0, F⟩ := r
  obtain ⟨f1, fd1, F1, m1, k1, b1⟩ := h1
  refine ⟨f, fd, def_ok F sc_shelf_number rfl (fun cdv A outer s H E hr => ?_) tree, m0, F.kp, F.binds fun _ _ _ _ _ _ us hl => match us, hl with | [_], _ => rfl⟩
  have hu := units62 hr
  exact ⟨_, (pss_cons (ps_set (i := 1) sc_shelf_number.nd rfl (Or.inl rfl) (pe_call F1 (hr.mono (by first | decide | omega)) rfl m1 k1 b1 .nil pass0 (pa_cons (pv 0) pa_nil))) (pss_cons (ps_set (i := 2) sc_shelf_number.nd rfl (Or.inl rfl) pe_int) (pss_cons (ps_for PassesOwn.never rfl (pi_enum (by rfl) M.enumerate (pa_cons (pv 1) pa_nil)) (pg_un rfl (pgs_cons (pg_name (i := 3) sc_shelf_number.nd rfl (Or.inl rfl)) (pgs_cons (pg_name (i := 4) sc_shelf_number.nd rfl (Or.inr rfl)) pgs_nil))) (pss_cons (ps_set (i := 5) sc_shelf_number.nd rfl (Or.inl rfl) (pe_slice sl_any (pv 1) (po_some (pe_op op_addA (pv 3) pe_int)) po_none)) (pss_one (ps_aug (i := 2) sc_shelf_number.nd rfl (Or.inl rfl) (pe_op op_mulA (pe_callB call_lenA (by rfl) M.len b_len (pa_cons (pe_lc (own := [("later", 6)]) rfl sc_shelf_number.nd (pi_seq (pv 5)) (blkOk_by (N := nn_shelf_number) (sc := defScope st_shelf_number) (by decide +kernel)) (fun _ _ _ _ _ => (pg_name (i := 6) sc_shelf_number.nd rfl (Or.inl rfl))) (fun _ _ _ _ _ => (pts_one (pt_cmpR op_ltA (pv 6) (pv 4) (by first | exact nomark _ | rfl)))) (fun _ _ _ _ _ => (pv 6))) pa_nil)) (pe_callM call_fac (by rfl) m_factorial (pa_cons (pe_callB call_lenA (by rfl) M.len b_len (pa_cons (pv 5) pa_nil)) pa_nil))) ip_add)))) (pss_one (ps_ret (pv 2)))))), (rs_sq (rs_set fun Z => (re_call (ra_cons re_v ra_nil))) (rs_sq (rs_set fun Z => re_int) (rs_sq (rs_rel 1 (rs_for (fun Z => (ri_enum re_v)) (rg_un rfl) (rs_sq (rs_set fun Z => (re_sl re_v (ro_some (re_op r2_add re_v re_int)) ro_none)) (rs_augN fun Z => (re_op r2_mul (re_cb rn_len (ra_cons (re_lc (ri_seq re_v) rg_nm (by decide) (fun Z => (rt_c (re_op r2_lt re_v re_v))) (fun Z => re_v)) ra_nil)) (re_cb rn_fac (ra_cons (re_cb rn_len (ra_cons re_v ra_nil)) ra_nil))))))) rs_retV)))⟩
theorem hasJ_shelf_number_0 {S S1 : ST} (M : Nm mg) (m_factorial : mg "factorial" = some (.builtin "math.factorial")) (r : RawF K mg "shelf_number" st_shelf_number) (h1 : Has P w K mg base C 2 "ranks" ["shelf"] [true] S1) 
    (tree : ∀ ds n R, S ds n R → B_shelf_number S1 (ends R) (slots [true] ds 6) n) : HasJ P w K mg base C 3 "shelf_number" ["shelf"] [true] S ["shelf"] [0] := by
  obtain ⟨f, fd, m0, F⟩ := r
  obtain ⟨f1, fd1, F1, m1, k1, b1⟩ := h1
  refine ⟨f, fd, def_ok F sc_shelf_number rfl (fun cdv A outer s H E hr => ?_) tree, m0, F.kp, F.bindsJ fun _ _ _ _ _ _ us hl => match us, hl with | [_], _ => rfl⟩
  have hu := units62 hr
  exact ⟨_, (pss_cons (ps_set (i := 1) sc_shelf_number.nd rfl (Or.inl rfl) (pe_call F1 (hr.mono (by first | decide | omega)) rfl m1 k1 b1 .nil pass0 (pa_cons (pv 0) pa_nil))) (pss_cons (ps_set (i := 2) sc_shelf_number.nd rfl (Or.inl rfl) pe_int) (pss_cons (ps_for PassesOwn.never rfl (pi_enum (by rfl) M.enumerate (pa_cons (pv 1) pa_nil)) (pg_un rfl (pgs_cons (pg_name (i := 3) sc_shelf_number.nd rfl (Or.inl rfl)) (pgs_cons (pg_name (i := 4) sc_shelf_number.nd rfl (Or.inr rfl)) pgs_nil))) (pss_cons (ps_set (i := 5) sc_shelf_number.nd rfl (Or.inl rfl) (pe_slice sl_any (pv 1) (po_some (pe_op op_addA (pv 3) pe_int)) po_none)) (pss_one (ps_aug (i := 2) sc_shelf_number.nd rfl (Or.inl rfl) (pe_op op_mulA (pe_callB call_lenA (by rfl) M.len b_len (pa_cons (pe_lc (own := [("later", 6)]) rfl sc_shelf_number.nd (pi_seq (pv 5)) (blkOk_by (N := nn_shelf_number) (sc := defScope st_shelf_number) (by decide +kernel)) (fun _ _ _ _ _ => (pg_name (i := 6) sc_shelf_number.nd rfl (Or.inl rfl))) (fun _ _ _ _ _ => (pts_one (pt_cmpR op_ltA (pv 6) (pv 4) (by first | exact nomark _ | rfl)))) (fun _ _ _ _ _ => (pv 6))) pa_nil)) (pe_callM call_fac (by rfl) m_factorial (pa_cons (pe_callB call_lenA (by rfl) M.len b_len (pa_cons (pv 5) pa_nil)) pa_nil))) ip_add)))) (pss_one (ps_ret (pv 2)))))), (rs_sq (rs_set fun Z => (re_call (ra_cons re_v ra_nil))) (rs_sq (rs_set fun Z => re_int) (rs_sq (rs_rel 1 (rs_for (fun Z => (ri_enum re_v)) (rg_un rfl) (rs_sq (rs_set fun Z => (re_sl re_v (ro_some (re_op r2_add re_v re_int)) ro_none)) (rs_augN fun Z => (re_op r2_mul (re_cb rn_len (ra_cons (re_lc (ri_seq re_v) rg_nm (by decide) (fun Z => (rt_c (re_op r2_lt re_v re_v))) (fun Z => re_v)) ra_nil)) (re_cb rn_fac (ra_cons (re_cb rn_len (ra_cons re_v ra_nil)) ra_nil))))))) rs_retV)))⟩
abbrev st_w_shuffled : Stmt := top 29
abbrev nn_w_shuffled : List Str := ["_law_purse_here", "_law_some", "_law_found", "_law_item"]
theorem sc_w_shuffled : FnScope nn_w_shuffled ["_law_purse_here", "_law_some"] (defScope st_w_shuffled) := ⟨rfl, rfl, rfl, by decide +kernel, rfl, by decide +kernel, by decide +kernel⟩
theorem has_w_shuffled {S S1 : ST} (M : Nm mg) (r : RawF K mg "_law_shuffled" st_w_shuffled) (h1 : Has P w K mg base C 2 "_law_draw" ["_law_purse_here", "_law_many_here"] [true, true] S1) 
    (tree : ∀ ds n R, S ds n R → B_w_shuffled S1 (ends R) (slots [true, true] ds 2) n) : Has P w K mg base C 3 "_law_shuffled" ["_law_purse_here", "_law_some"] [true, true] S := by
  obtain ⟨f, fd, m0, F⟩ := r
  obtain ⟨f1, fd1, F1, m1, k1, b1⟩ := h1
  refine ⟨f, fd, def_ok F sc_w_shuffled rfl (fun cdv A outer s H E hr => ?_) tree, m0, F.kp, F.binds fun _ _ _ _ _ _ us hl => match us, hl with | [_, _], _ => rfl⟩
  have hu := units62 hr
  exact ⟨_, (pss_cons (ps_set (i := 2) sc_w_shuffled.nd rfl (Or.inl rfl) (pe_lst pa_nil)) (pss_cons (ps_for PassesOwn.never rfl (pi_seq (pv 1)) (pg_name (i := 3) sc_w_shuffled.nd rfl (Or.inl rfl)) (pss_one (ps_expr (pe_bm PySem.F.plainAttrs_list PySem.F.slot_list_insert PySem.F.type_list_insert mt_ins (pv 2) (pa_cons (pe_call F1 (hr.mono (by first | decide | omega)) rfl m1 k1 b1 .nil pass0 (pa_cons (pv 0) (pa_cons (pe_op op_addA (pe_callB call_lenA (by rfl) M.len b_len (pa_cons (pv 2) pa_nil)) pe_int) pa_nil))) (pa_cons (pv 3) pa_nil)))))) (pss_one (ps_ret (pv 2))))), (rs_sq (rs_set fun Z => (re_lst ra_nil)) (rs_sq (rs_rel 1 (rs_for (fun Z => (ri_seq re_v)) rg_nm (rs_rel 3 (rs_ins (fun Z => (re_call (ra_cons re_v (ra_cons (re_op r2_add (re_cb rn_len (ra_cons re_v ra_nil)) re_int) ra_nil)))) (fun Z => re_v))))) rs_retV))⟩
abbrev st_w_exact : Stmt := top 30
abbrev nn_w_exact : List Str := ["_law_mine", "_law_theirs", "_law_alike", "_law_a", "_law_b", "_law_key"]
theorem sc_w_exact : FnScope nn_w_exact ["_law_mine", "_law_theirs"] (defScope st_w_exact) := ⟨rfl, rfl, rfl, by decide +kernel, rfl, by decide +kernel, by decide +kernel⟩
theorem has_w_exact {k : Nat} {S S1 : ST} (M : Nm mg) (L : ShL P w K mg base C) (r : RawF K mg "_law_exact" st_w_exact) (h1 : Has P w K mg base C (k + 1) "_law_exact" ["_law_mine", "_law_theirs"] [true, true] S1) 
    (tree : ∀ ds n R, S ds n R → B_w_exact S1 (ends R) (slots [true, true] ds 4) n) : Has P w K mg base C (k + 2) "_law_exact" ["_law_mine", "_law_theirs"] [true, true] S := by
  obtain ⟨f, fd, m0, F⟩ := r
  obtain ⟨fi, fq, fc, fr, fdi, fdq, fdc, fdr, T, gS, Fi, bi, Fq, bq, Fc, bc, Fr, br, I⟩ := L.x
  obtain ⟨f1, fd1, F1, m1, k1, b1⟩ := h1
  refine ⟨f, fd, def_ok F sc_w_exact rfl (fun cdv A outer s H E hr => ?_) tree, m0, F.kp, F.binds fun _ _ _ _ _ _ us hl => match us, hl with | [_, _], _ => rfl⟩
  have hu := units62 hr
  exact ⟨_, (pss_cons (ps_if (pt_val (pe_callB call_isiT (by rfl) M.isinstance b_isinstance (pa_cons (pv 0) (pa_cons (pe_tup (pa_cons (pe_bltn (v := .ty "list") rfl M.list b_list rfl) (pa_cons (pe_bltn (v := .ty "tuple") rfl M.tuple b_tuple rfl) pa_nil))) pa_nil)))) (pss_cons (ps_set (i := 2) sc_w_exact.nd rfl (Or.inl rfl) (pe_and (pe_cmpR (op_eqP hu) (pe_callB call_isi (by rfl) M.isinstance b_isinstance (pa_cons (pv 1) (pa_cons (pe_bltn (v := .ty "list") rfl M.list b_list rfl) pa_nil))) (pe_callB call_isi (by rfl) M.isinstance b_isinstance (pa_cons (pv 0) (pa_cons (pe_bltn (v := .ty "list") rfl M.list b_list rfl) pa_nil))) (by first | exact nomark _ | rfl)) (pe_one (pe_cmpR (op_eqP hu) (pe_callB call_isi (by rfl) M.isinstance b_isinstance (pa_cons (pv 1) (pa_cons (pe_bltn (v := .ty "tuple") rfl M.tuple b_tuple rfl) pa_nil))) (pe_callB call_isi (by rfl) M.isinstance b_isinstance (pa_cons (pv 0) (pa_cons (pe_bltn (v := .ty "tuple") rfl M.tuple b_tuple rfl) pa_nil))) (by first | exact nomark _ | rfl))))) (pss_one (ps_ret (pe_and (pv 2) (pe_and (pe_cmpR (op_eqP hu) (pe_callB call_lenA (by rfl) M.len b_len (pa_cons (pv 0) pa_nil)) (pe_callB call_lenA (by rfl) M.len b_len (pa_cons (pv 1) pa_nil)) (by first | exact nomark _ | rfl)) (pe_one (pe_callB (cr_all rfl) (by rfl) M.all b_all (pa_cons (pe_lc (own := [("_law_a", 3), ("_law_b", 4)]) rfl sc_w_exact.nd (pi_zipA (by rfl) M.zip (pa_cons (pv 0) (pa_cons (pv 1) pa_nil))) (blkOk_by (N := nn_w_exact) (sc := defScope st_w_exact) (by decide +kernel)) (fun _ _ _ _ _ => (pg_un rfl (pgs_cons (pg_name (i := 3) sc_w_exact.nd rfl (Or.inl rfl)) (pgs_cons (pg_name (i := 4) sc_w_exact.nd rfl (Or.inl rfl)) pgs_nil)))) (fun _ _ _ _ _ => pts_nil) (fun _ _ _ _ _ => (pe_call F1 hr (by rfl) m1 k1 b1 .nil pass0 (pa_cons (pv 3) (pa_cons (pv 4) pa_nil))))) pa_nil)))))))) pss_nil) (pss_cons (ps_if (pt_val (pe_callB call_isi (by rfl) M.isinstance b_isinstance (pa_cons (pv 0) (pa_cons (pe_bltn (v := .ty "dict") rfl M.dict b_dict rfl) pa_nil)))) (pss_cons (ps_set (i := 2) sc_w_exact.nd rfl (Or.inl rfl) (pe_and (pe_callB call_isi (by rfl) M.isinstance b_isinstance (pa_cons (pv 1) (pa_cons (pe_bltn (v := .ty "dict") rfl M.dict b_dict rfl) pa_nil))) (pe_one (pe_call F1 hr rfl m1 k1 b1 .nil pass0 (pa_cons (pe_callTy (call_listA rfl) (by rfl) M.list b_list (pa_cons (pv 0) pa_nil)) (pa_cons (pe_callTy (call_listA rfl) (by rfl) M.list b_list (pa_cons (pv 1) pa_nil)) pa_nil)))))) (pss_one (ps_ret (pe_and (pv 2) (pe_one (pe_callB (cr_all rfl) (by rfl) M.all b_all (pa_cons (pe_lockO (pe_lc (own := [("_law_key", 5)]) rfl sc_w_exact.nd (pi_keys (pv 0)) (blkOk_by (N := nn_w_exact) (sc := defScope st_w_exact) (by decide +kernel)) (fun _ _ _ _ _ => (pg_name (i := 5) sc_w_exact.nd rfl (Or.inl rfl))) (fun _ _ _ _ _ => pts_nil) (fun _ _ _ _ _ => (pe_call F1 hr (by rfl) m1 k1 b1 .nil pass0 (pa_cons (pe_ix (ix_anyD hu) (pv 0) (pv 5) (fun _ _ => rfl)) (pa_cons (pe_ix (ix_anyD hu) (pv 1) (pv 5) (fun _ _ => rfl)) pa_nil)))))) pa_nil))))))) pss_nil) (pss_one (ps_ret (pe_and (pe_cmpR (op_eqP hu) (pe_callB call_isi (by rfl) M.isinstance b_isinstance (pa_cons (pv 0) (pa_cons (pe_bltn (v := .ty "bool") rfl M.bool b_bool rfl) pa_nil))) (pe_callB call_isi (by rfl) M.isinstance b_isinstance (pa_cons (pv 1) (pa_cons (pe_bltn (v := .ty "bool") rfl M.bool b_bool rfl) pa_nil))) (by first | exact nomark _ | rfl)) (pe_one (pe_cmpR (op_eqA hu Fq T.eq (hr.mono (by first | decide | omega)) bq) (pv 0) (pv 1) (by first | exact nomark _ | rfl)))))))), (rs_sq (rs_if (fun Z => (rt_v (re_isT I rfl rfl re_v))) (rs_sq (rs_set fun Z => (re_and (re_op r2_eq (re_isB I (by decide) re_v) (re_isB I (by decide) re_v)) (re_op r2_eq (re_isB I (by decide) re_v) (re_isB I (by decide) re_v)))) (rs_ret fun Z => (re_and re_v (re_and (re_op r2_eq (re_cb rn_len (ra_cons re_v ra_nil)) (re_cb rn_len (ra_cons re_v ra_nil))) (re_cb rn_all (ra_cons (re_lc (ri_zip re_v re_v) (rg_un rfl) (by decide) (fun Z => rt_yes) (fun Z => (re_call (ra_cons re_v (ra_cons re_v ra_nil))))) ra_nil)))))) rs_nx) (rs_sq (rs_if (fun Z => (rt_v (re_isB I (by decide) re_v))) (rs_sq (rs_set fun Z => (re_and (re_isB I (by decide) re_v) (re_call (ra_cons (re_cb rn_list (ra_cons re_v ra_nil)) (ra_cons (re_cb rn_list (ra_cons re_v ra_nil)) ra_nil))))) (rs_ret fun Z => (re_and re_v (re_cb rn_all (ra_cons (re_lockO (rek_lc rg_nm (by decide) (fun Z => rt_yes) (fun Z => (re_call (ra_cons (re_op r2_ixD re_v re_v) (ra_cons (re_op r2_ixD re_v re_v) ra_nil)))))) ra_nil))))) rs_nx) (rs_ret fun Z => (re_and (re_op r2_eq (re_isB I (by decide) re_v) (re_isB I (by decide) re_v)) (re_op (r2_eqA I) re_v re_v)))))⟩
abbrev st_w_words : Stmt := top 32
abbrev nn_w_words : List Str := ["_law_purse_here", "_law_many_here", "_law_base", "_law_near", "_law_spot", "_law_found", "_law_turn", "_law_word_here", "_law_letter"]
theorem sc_w_words : FnScope nn_w_words ["_law_purse_here", "_law_many_here"] (defScope st_w_words) := ⟨rfl, rfl, rfl, by decide +kernel, rfl, by decide +kernel, by decide +kernel⟩
theorem has_w_words {S S1 S2 : ST} (M : Nm mg) (r : RawF K mg "_law_words" st_w_words) (h1 : Has P w K mg base C 3 "_law_word" ["_law_purse_here"] [true] S1) (h2 : Has P w K mg base C 2 "_law_draw" ["_law_purse_here", "_law_many_here"] [true, true] S2) 
    (tree : ∀ ds n R, S ds n R → B_w_words S1 S2 (ends R) (slots [true, true] ds 7) n) : Has P w K mg base C 4 "_law_words" ["_law_purse_here", "_law_many_here"] [true, true] S := by
  obtain ⟨f, fd, m0, F⟩ := r
  obtain ⟨f1, fd1, F1, m1, k1, b1⟩ := h1
  obtain ⟨f2, fd2, F2, m2, k2, b2⟩ := h2
  refine ⟨f, fd, def_ok F sc_w_words rfl (fun cdv A outer s H E hr => ?_) tree, m0, F.kp, F.binds fun _ _ _ _ _ _ us hl => match us, hl with | [_, _], _ => rfl⟩
  have hu := units62 hr
  exact ⟨_, (pss_cons (ps_par (i := 2) (j := 3) rfl sc_w_words.nd rfl rfl (by decide) rfl rfl (pa_cons (pe_call F1 (hr.mono (by first | decide | omega)) rfl m1 k1 b1 .nil pass0 (pa_cons (pv 0) pa_nil)) (pa_cons (pe_cmpR (op_eqP hu) (pe_call F2 (hr.mono (by first | decide | omega)) rfl m2 k2 b2 .nil pass0 (pa_cons (pv 0) (pa_cons pe_int pa_nil))) pe_int (by first | exact nomark _ | rfl)) pa_nil)) rfl) (pss_cons (ps_asg (pe_tup (pa_cons (pe_call F2 (hr.mono (by first | decide | omega)) rfl m2 k2 b2 .nil pass0 (pa_cons (pv 0) (pa_cons (pe_callB call_lenA (by rfl) M.len b_len (pa_cons (pv 2) pa_nil)) pa_nil))) (pa_cons (pe_lst pa_nil) pa_nil))) (pg_un rfl (pgs_cons (pg_name (i := 4) sc_w_words.nd rfl (Or.inl rfl)) (pgs_cons (pg_name (i := 5) sc_w_words.nd rfl (Or.inr rfl)) pgs_nil)))) (pss_cons (ps_for PassesOwn.never rfl (pi_range1 (by rfl) M.range (pa_cons (pv 1) pa_nil)) (pg_name (i := 6) sc_w_words.nd rfl (Or.inl rfl)) (pss_cons (ps_set (i := 7) sc_w_words.nd rfl (Or.inl rfl) (pe_op op_addA (pe_op op_addA (pe_slice sl_any (pv 2) po_none (po_some (pv 4))) (pe_ix ix_any pe_str (pe_call F2 (hr.mono (by first | decide | omega)) rfl m2 k2 b2 .nil pass0 (pa_cons (pv 0) (pa_cons pe_int pa_nil))) (fun _ _ => rfl))) (pe_slice sl_any (pv 2) (po_some (pe_op op_addA (pv 4) pe_int)) po_none))) (pss_cons (ps_if (pt_not (pt_val (pv 3))) (pss_one (ps_set (i := 7) sc_w_words.nd rfl (Or.inl rfl) (pe_call F1 (hr.mono (by first | decide | omega)) rfl m1 k1 b1 .nil pass0 (pa_cons (pv 0) pa_nil)))) pss_nil) (pss_cons (ps_if (pt_cmpR (op_inA hu) (pv 7) (pv 5) (by first | exact nomark _ | rfl)) (pss_one (ps_set (i := 7) sc_w_words.nd rfl (Or.inl rfl) (pe_ix ix_any (pe_lc (own := [("_law_letter", 8)]) rfl sc_w_words.nd (pi_seq (pe_callTy (call_listA rfl) (by rfl) M.list b_list (pa_cons pe_str pa_nil))) (blkOk_by (N := nn_w_words) (sc := defScope st_w_words) (by decide +kernel)) (fun _ _ _ _ _ => (pg_name (i := 8) sc_w_words.nd rfl (Or.inl rfl))) (fun _ _ _ _ _ => (pts_one (pt_cmpR (op_ninP hu) (pv 8) (pv 5) (by first | exact nomark _ | rfl)))) (fun _ _ _ _ _ => (pv 8))) pe_int (fun _ _ => rfl)))) pss_nil) (pss_one (ps_expr (pe_bm PySem.F.plainAttrs_list PySem.F.slot_list_append PySem.F.type_list_append mt_append (pv 5) (pa_cons (pv 7) pa_nil)))))))) (pss_one (ps_ret (pv 5)))))), (rs_sq (rs_par (fun Z => (re_call (ra_cons re_v ra_nil))) (fun Z => (re_op r2_eq (re_call (ra_cons re_v (ra_cons re_int ra_nil))) re_int))) (rs_sq (rs_parU (fun Z => (re_call (ra_cons re_v (ra_cons (re_cb rn_len (ra_cons re_v ra_nil)) ra_nil)))) (fun Z => (re_lst ra_nil))) (rs_sq (rs_for (fun Z => (ri_r1 re_v)) rg_nm (rs_sq (rs_set fun Z => (re_op r2_add (re_op r2_add (re_sl re_v ro_none (ro_some re_v)) (re_op r2_ix re_str (re_call (ra_cons re_v (ra_cons re_int ra_nil))))) (re_sl re_v (ro_some (re_op r2_add re_v re_int)) ro_none))) (rs_sq (rs_if (fun Z => (rt_not (rt_v re_v))) (rs_set fun Z => (re_call (ra_cons re_v ra_nil))) rs_nx) (rs_sq (rs_if (fun Z => (rt_c (re_op r2_inA re_v re_v))) (rs_set fun Z => (re_op r2_ix (re_lc (ri_seq (re_cb rn_list (ra_cons re_str ra_nil))) rg_nm (by decide) (fun Z => (rt_c (re_op r2_nin re_v re_v))) (fun Z => re_v)) re_int)) rs_nx) (rs_rel 7 (rs_app fun Z => re_v)))))) rs_retV)))⟩
abbrev st_w_catalogue : Stmt := top 33
abbrev nn_w_catalogue : List Str := ["_law_purse_here", "_law_many_here", "_law_words_here"]
theorem sc_w_catalogue : FnScope nn_w_catalogue ["_law_purse_here", "_law_many_here"] (defScope st_w_catalogue) := ⟨rfl, rfl, rfl, by decide +kernel, rfl, by decide +kernel, by decide +kernel⟩
theorem has_w_catalogue {S S1 S2 S3 : ST} (M : Nm mg) (r : RawF K mg "_law_catalogue" st_w_catalogue) (h1 : Has P w K mg base C 4 "_law_words" ["_law_purse_here", "_law_many_here"] [true, true] S1) (h2 : Has P w K mg base C 2 "_law_draw" ["_law_purse_here", "_law_many_here"] [true, true] S2) (h3 : Has P w K mg base C 3 "_law_shuffled" ["_law_purse_here", "_law_some"] [true, true] S3) 
    (tree : ∀ ds n R, S ds n R → B_w_catalogue S1 S2 S3 (ends R) (slots [true, true] ds 1) n) : Has P w K mg base C 5 "_law_catalogue" ["_law_purse_here", "_law_many_here"] [true, true] S := by
  obtain ⟨f, fd, m0, F⟩ := r
  obtain ⟨f1, fd1, F1, m1, k1, b1⟩ := h1
  obtain ⟨f2, fd2, F2, m2, k2, b2⟩ := h2
  obtain ⟨f3, fd3, F3, m3, k3, b3⟩ := h3
  refine ⟨f, fd, def_ok F sc_w_catalogue rfl (fun cdv A outer s H E hr => ?_) tree, m0, F.kp, F.binds fun _ _ _ _ _ _ us hl => match us, hl with | [_, _], _ => rfl⟩
  have hu := units62 hr
  exact ⟨_, (pss_cons (ps_set (i := 2) sc_w_catalogue.nd rfl (Or.inl rfl) (pe_call F1 (hr.mono (by first | decide | omega)) rfl m1 k1 b1 .nil pass0 (pa_cons (pv 0) (pa_cons (pv 1) pa_nil)))) (pss_one (ps_ret (pe_ifExp (pt_cmpR (op_eqP hu) (pe_call F2 (hr.mono (by first | decide | omega)) rfl m2 k2 b2 .nil pass0 (pa_cons (pv 0) (pa_cons pe_int pa_nil))) pe_int (by first | exact nomark _ | rfl)) (pe_callB cr_sortAT (by rfl) M.sorted b_sorted (pa_cons (pv 2) pa_nil)) (pe_call F3 (hr.mono (by first | decide | omega)) rfl m3 k3 b3 .nil pass0 (pa_cons (pv 0) (pa_cons (pv 2) pa_nil))))))), (rs_sq (rs_set fun Z => (re_call (ra_cons re_v (ra_cons re_v ra_nil)))) (rs_ret fun Z => (re_ifx (rt_c (re_op r2_eq (re_call (ra_cons re_v (ra_cons re_int ra_nil))) re_int)) (re_cb rn_sortedT (ra_cons re_v ra_nil)) (re_call (ra_cons re_v (ra_cons re_v ra_nil))))))⟩
abbrev st_w_many : Stmt := top 34
abbrev nn_w_many : List Str := ["_law_size", "_law_found", "_law_number"]
theorem sc_w_many : FnScope nn_w_many ["_law_size"] (defScope st_w_many) := ⟨rfl, rfl, rfl, by decide +kernel, rfl, by decide +kernel, by decide +kernel⟩
theorem has_w_many {S : ST} (M : Nm mg) (r : RawF K mg "_law_many" st_w_many) 
    (tree : ∀ ds n R, S ds n R → B_w_many (ends R) (slots [true] ds 2) n) : Has P w K mg base C 1 "_law_many" ["_law_size"] [true] S := by
  obtain ⟨f, fd, m0, F⟩ := r
  refine ⟨f, fd, def_ok F sc_w_many rfl (fun cdv A outer s H E hr => ?_) tree, m0, F.kp, F.binds fun _ _ _ _ _ _ us hl => match us, hl with | [_], _ => rfl⟩
  have hu := units62 hr
  exact ⟨_, (pss_cons (ps_set (i := 1) sc_w_many.nd rfl (Or.inl rfl) pe_int) (pss_cons (ps_for PassesOwn.never rfl (pi_range2 (by rfl) M.range (pa_cons pe_int (pa_cons (pe_op op_addA (pv 0) pe_int) pa_nil))) (pg_name (i := 2) sc_w_many.nd rfl (Or.inl rfl)) (pss_one (ps_set (i := 1) sc_w_many.nd rfl (Or.inl rfl) (pe_op op_mulA (pv 1) (pv 2))))) (pss_one (ps_ret (pv 1))))), (rs_sq (rs_set fun Z => re_int) (rs_sq (rs_for (fun Z => (ri_r2 re_int (re_op r2_add re_v re_int))) rg_nm (rs_set fun Z => (re_op r2_mul re_v re_v))) rs_retV))⟩
abbrev st_w_next : Stmt := top 35
abbrev nn_w_next : List Str := ["_law_numbers", "_law_ups", "_law_at", "_law_greater", "_law_place", "_law_late"]
theorem sc_w_next : FnScope nn_w_next ["_law_numbers"] (defScope st_w_next) := ⟨rfl, rfl, rfl, by decide +kernel, rfl, by decide +kernel, by decide +kernel⟩
theorem has_w_next {S : ST} (M : Nm mg) (r : RawF K mg "_law_next" st_w_next) 
    (tree : ∀ ds n R, S ds n R → B_w_next (ends R) (slots [true] ds 5) n) : Has P w K mg base C 1 "_law_next" ["_law_numbers"] [true] S := by
  obtain ⟨f, fd, m0, F⟩ := r
  refine ⟨f, fd, def_ok F sc_w_next rfl (fun cdv A outer s H E hr => ?_) tree, m0, F.kp, F.binds fun _ _ _ _ _ _ us hl => match us, hl with | [_], _ => rfl⟩
  have hu := units62 hr
  exact ⟨_, (pss_cons (ps_setLc (i := 1) (own := [("_law_at", 2)]) rfl sc_w_next.nd rfl rfl (sw_true rfl rfl rfl (by decide +kernel)) (pi_range1 (by rfl) M.range (pa_cons (pe_op op_sub (pe_callB call_lenA (by rfl) M.len b_len (pa_cons (pv 0) pa_nil)) pe_int) pa_nil)) (blkOk_by (N := nn_w_next) (sc := defScope st_w_next) (by decide +kernel)) (fun _ _ _ _ _ => (pg_name (i := 2) sc_w_next.nd rfl (Or.inl rfl))) (fun _ _ _ _ _ => (pts_one (pt_cmpR op_ltA (pe_ix ix_any (pv 0) (pv 2) (fun _ _ => rfl)) (pe_ix ix_any (pv 0) (pe_op op_addA (pv 2) pe_int) (fun _ _ => rfl)) (by first | exact nomark _ | rfl)))) (fun _ _ _ _ _ => (pv 2))) (pss_cons (ps_if (pt_cmpR (op_eqP hu) (pv 1) (pe_lst pa_nil) (by first | exact nomark _ | rfl)) (pss_one (ps_ret pe_non)) pss_nil) (pss_cons (ps_set (i := 2) sc_w_next.nd rfl (Or.inr rfl) (pe_ix ix_any (pv 1) (pe_un un_neg pe_int) (fun _ _ => rfl))) (pss_cons (ps_setLc (i := 3) (own := [("_law_place", 4)]) rfl sc_w_next.nd rfl rfl (sw_true rfl rfl rfl (by decide +kernel)) (pi_range2 (by rfl) M.range (pa_cons (pe_op op_addA (pv 2) pe_int) (pa_cons (pe_callB call_lenA (by rfl) M.len b_len (pa_cons (pv 0) pa_nil)) pa_nil))) (blkOk_by (N := nn_w_next) (sc := defScope st_w_next) (by decide +kernel)) (fun _ _ _ _ _ => (pg_name (i := 4) sc_w_next.nd rfl (Or.inl rfl))) (fun _ _ _ _ _ => (pts_one (pt_cmpR op_gt (pe_ix ix_any (pv 0) (pv 4) (fun _ _ => rfl)) (pe_ix ix_any (pv 0) (pv 2) (fun _ _ => rfl)) (by first | exact nomark _ | rfl)))) (fun _ _ _ _ _ => (pv 4))) (pss_cons (ps_set (i := 5) sc_w_next.nd rfl (Or.inl rfl) (pe_callTy (call_listA rfl) (by rfl) M.list b_list (pa_cons (pv 0) pa_nil))) (pss_cons (ps_asg (pe_tup (pa_cons (pe_ix ix_any (pv 0) (pe_ix ix_any (pv 3) (pe_un un_neg pe_int) (fun _ _ => rfl)) (fun _ _ => rfl)) (pa_cons (pe_ix ix_any (pv 0) (pv 2) (fun _ _ => rfl)) pa_nil))) (pg_un rfl (pgs_cons (pg_sub (pv 5) (pv 2) set_list) (pgs_cons (pg_sub (pv 5) (pe_ix ix_any (pv 3) (pe_un un_neg pe_int) (fun _ _ => rfl)) set_list) pgs_nil)))) (pss_one (ps_ret (pe_op op_addA (pe_slice sl_any (pv 5) po_none (po_some (pe_op op_addA (pv 2) pe_int))) (pe_revA (pe_slice sl_any (pv 5) (po_some (pe_op op_addA (pv 2) pe_int)) po_none))))))))))), (rs_sq (rs_set fun Z => (re_lc (ri_r1 (re_op r2_sub (re_cb rn_len (ra_cons re_v ra_nil)) re_int)) rg_nm (by decide) (fun Z => (rt_c (re_op r2_lt (re_op r2_ix re_v re_v) (re_op r2_ix re_v (re_op r2_add re_v re_int))))) (fun Z => re_v))) (rs_sq (rs_if (fun Z => (rt_c (re_op r2_eq re_v (re_lst ra_nil)))) (rs_ret fun Z => re_non) rs_nx) (rs_sq (rs_set fun Z => (re_op r2_ix re_v (re_un r1_neg re_int))) (rs_sq (rs_set fun Z => (re_lc (ri_r2 (re_op r2_add re_v re_int) (re_cb rn_len (ra_cons re_v ra_nil))) rg_nm (by decide) (fun Z => (rt_c (re_op r2_gt (re_op r2_ix re_v re_v) (re_op r2_ix re_v re_v)))) (fun Z => re_v))) (rs_sq (rs_set fun Z => (re_cb rn_list (ra_cons re_v ra_nil))) (rs_sq (rs_set2 (fun Z => (re_op r2_ix re_v (re_op r2_ix re_v (re_un r1_neg re_int)))) (fun Z => (re_op r2_ix re_v re_v)) (fun Z => re_v) (fun Z => (re_op r2_ix re_v (re_un r1_neg re_int)))) (rs_ret fun Z => (re_op r2_add (re_sl re_v ro_none (ro_some (re_op r2_add re_v re_int))) (re_revA (re_sl re_v (ro_some (re_op r2_add re_v re_int)) ro_none))))))))))⟩
abbrev st_w_over : Stmt := top 36
abbrev nn_w_over : List Str := ["_law_books", "_law_number", "_law_caught", "error"]
theorem sc_w_over : FnScope nn_w_over ["_law_books", "_law_number"] (defScope st_w_over) := ⟨rfl, rfl, rfl, by decide +kernel, rfl, by decide +kernel, by decide +kernel⟩
theorem has_w_over {S S1 : ST} (M : Nm mg) (r : RawF K mg "_law_over" st_w_over) (h1 : Has P w K mg base C 6 "_law_exact" ["_law_mine", "_law_theirs"] [true, true] S1) {SX1 : STX} (hX1 : HasX P w K mg base C 6 "shelf_at" ["catalogue", "number"] [false, false] SX1) {ok_InvalidCount : Addr → Prop} {c_InvalidCount : Addr} (m_InvalidCount : mg "InvalidCount" = some (.ref c_InvalidCount)) (he_InvalidCount : ∀ c, ok_InvalidCount c → PySem.W.exmOne K (.ref c) (.ref c_InvalidCount) = some true) (hv_InvalidCount : ∀ c, ok_InvalidCount c → XfC K c ∧ PySem.W.findIn K (.ref c) "value" = some none) 
    (tree : ∀ ds n R, S ds n R → B_w_over S1 SX1 ok_InvalidCount (ends R) (slots [false, false] ds 2) n) : Has P w K mg base C 7 "_law_over" ["_law_books", "_law_number"] [false, false] S := by
  obtain ⟨f, fd, m0, F⟩ := r
  obtain ⟨f1, fd1, F1, m1, k1, b1⟩ := h1
  obtain ⟨fX1, fdX1, X1, mX1, kX1, bX1⟩ := hX1
  refine ⟨f, fd, def_ok F sc_w_over rfl (fun cdv A outer s H E hr => ?_) tree, m0, F.kp, F.binds fun _ _ _ _ _ _ us hl => match us, hl with | [_, _], _ => rfl⟩
  have hu := units62 hr
  exact ⟨_, (pss_cons (ps_set (i := 2) sc_w_over.nd rfl (Or.inl rfl) pe_non) (pss_cons (ps_try_asE (i := 3) rfl rfl sc_w_over.nd rfl rfl ⟨rfl, by decide, .inl m_InvalidCount⟩ takes0 (fun W pn xe tk _ => (pss_one (ps_expr (pe_callS X1 (hr.mono (by first | decide | omega)) rfl mX1 kX1 bX1 (fun s => passAt tk s) (pa_cons (pv 0) (pa_cons (pv 1) pa_nil)))))) (fun a oe cls d pn _ _ => (pss_one (ps_set (i := 2) sc_w_over.nd rfl (Or.inl rfl) (pv 3)))) rfl) (pss_one (ps_ret (pe_and (pe_cmpR op_notN (pv 2) pe_non (by first | exact nomark _ | rfl)) (pe_one (pe_call F1 (hr.mono (by first | decide | omega)) rfl m1 k1 b1 .nil pass0 (pa_cons (pe_xv_ hv_InvalidCount (pv 2) (by rfl)) (pa_cons (pv 1) pa_nil))))))))), (rs_sq (rs_set fun Z => re_non) (rs_sq (rs_rel 1 (rs_rel 0 (rs_tryE (i := 3) (j := 2) (by decide) he_InvalidCount (fun Z W Ex => (rw_rel 1 (rw_rel 0 (rw_ex (re_callX (ra_cons re_v (ra_cons re_v ra_nil)))))))))) (rs_ret fun Z => (re_and (re_op r2_notN re_v re_non) (re_call (ra_cons (re_xv re_v) (ra_cons re_v ra_nil)))))))⟩
abbrev st_w_number_right : Stmt := top 37
abbrev nn_w_number_right : List Str := ["_law_books", "_law_number", "_law_handed", "_law_many_here", "_law_made", "_law_numbers", "_law_rank", "_law_late", "_law_contrary"]
theorem sc_w_number_right : FnScope nn_w_number_right ["_law_books", "_law_number"] (defScope st_w_number_right) := ⟨rfl, rfl, rfl, by decide +kernel, rfl, by decide +kernel, by decide +kernel⟩
theorem has_w_number_right {S S1 S2 S3 S4 S5 S6 : ST} (M : Nm mg) (L : ShL P w K mg base C) (r : RawF K mg "_law_number_right" st_w_number_right) (h1 : Has P w K mg base C 1 "_law_many" ["_law_size"] [true] S1) (h2 : Has P w K mg base C 6 "shelf_at" ["catalogue", "number"] [true, false] S2) (h3 : Has P w K mg base C 6 "_law_exact" ["_law_mine", "_law_theirs"] [true, true] S3) (h4 : Has P w K mg base C 3 "shelf_number" ["shelf"] [true] S4) (h5 : Has P w K mg base C 2 "ranks" ["shelf"] [true] S5) (h6 : Has P w K mg base C 1 "_law_next" ["_law_numbers"] [true] S6) (hj1 : HasJ P w K mg base C 6 "shelf_at" ["catalogue", "number"] [true, false] S2 ["number", "catalogue"] [1, 0]) (hj2 : HasJ P w K mg base C 3 "shelf_number" ["shelf"] [true] S4 ["shelf"] [0]) 
    (tree : ∀ ds n R, S ds n R → B_w_number_right S1 S2 S3 S4 S5 S6 (ends R) (slots [false, false] ds 7) n) : Has P w K mg base C 7 "_law_number_right" ["_law_books", "_law_number"] [false, false] S := by
  obtain ⟨f, fd, m0, F⟩ := r
  obtain ⟨fi, fq, fc, fr, fdi, fdq, fdc, fdr, T, gS, Fi, bi, Fq, bq, Fc, bc, Fr, br, I⟩ := L.x
  obtain ⟨f1, fd1, F1, m1, k1, b1⟩ := h1
  obtain ⟨f2, fd2, F2, m2, k2, b2⟩ := h2
  obtain ⟨f3, fd3, F3, m3, k3, b3⟩ := h3
  obtain ⟨f4, fd4, F4, m4, k4, b4⟩ := h4
  obtain ⟨f5, fd5, F5, m5, k5, b5⟩ := h5
  obtain ⟨f6, fd6, F6, m6, k6, b6⟩ := h6
  obtain ⟨fj1, fdj1, Fj1, mj1, kj1, bj1⟩ := hj1
  obtain ⟨fj2, fdj2, Fj2, mj2, kj2, bj2⟩ := hj2
  refine ⟨f, fd, def_ok F sc_w_number_right rfl (fun cdv A outer s H E hr => ?_) tree, m0, F.kp, F.binds fun _ _ _ _ _ _ us hl => match us, hl with | [_, _], _ => rfl⟩
  have hu := units62 hr
  exact ⟨_, (pss_cons (ps_par (i := 2) (j := 3) rfl sc_w_number_right.nd rfl rfl (by decide) rfl rfl (pa_cons (pe_callTy (call_listA rfl) (by rfl) M.list b_list (pa_cons (pv 0) pa_nil)) (pa_cons (pe_call F1 (hr.mono (by first | decide | omega)) rfl m1 k1 b1 .nil pass0 (pa_cons (pe_callB call_lenA (by rfl) M.len b_len (pa_cons (pv 0) pa_nil)) pa_nil)) pa_nil)) rfl) (pss_cons (ps_set (i := 4) sc_w_number_right.nd rfl (Or.inl rfl) (pe_callJ Fj1 (hr.mono (by first | decide | omega)) rfl mj1 kj1 bj1 pass0 (pk_cons (pv 1) (pk_cons (pv 2) pk_nil)))) (pss_cons (ps_expr (pe_bm0 PySem.F.plainAttrs_list PySem.F.slot_list_reverse PySem.F.type_list_reverse mt_reverse (pv 2))) (pss_cons (ps_if (pt_not (pt_val (pe_call F3 (hr.mono (by first | decide | omega)) rfl m3 k3 b3 .nil pass0 (pa_cons (pe_lst (pa_cons (pe_meth0 (pv 4) T.cl T.mc Fc (hr.mono (by first | decide | omega)) bc .nil pass0) (pa_cons (pe_callJ Fj2 (hr.mono (by first | decide | omega)) rfl mj2 kj2 bj2 pass0 (pk_cons (pv 4) pk_nil)) (pa_cons (pe_callB cr_sortAT (by rfl) M.sorted b_sorted (pa_cons (pe_meth0 (pv 4) T.cl T.mr Fr (hr.mono (by first | decide | omega)) br .nil pass0) pa_nil)) pa_nil)))) (pa_cons (pe_lst (pa_cons (pv 0) (pa_cons (pv 1) (pa_cons (pe_callB cr_sortAT (by rfl) M.sorted b_sorted (pa_cons (pv 0) pa_nil)) pa_nil)))) pa_nil))))) (pss_one (ps_ret pe_bl)) pss_nil) (pss_cons (ps_set (i := 5) sc_w_number_right.nd rfl (Or.inl rfl) (pe_call F5 (hr.mono (by first | decide | omega)) rfl m5 k5 b5 .nil pass0 (pa_cons (pv 4) pa_nil))) (pss_cons (ps_if (pt_not (pt_val (pe_call F3 (hr.mono (by first | decide | omega)) rfl m3 k3 b3 .nil pass0 (pa_cons (pe_lc (own := [("_law_rank", 6)]) rfl sc_w_number_right.nd (pi_seq (pv 5)) (blkOk_by (N := nn_w_number_right) (sc := defScope st_w_number_right) (by decide +kernel)) (fun _ _ _ _ _ => (pg_name (i := 6) sc_w_number_right.nd rfl (Or.inl rfl))) (fun _ _ _ _ _ => pts_nil) (fun _ _ _ _ _ => (pe_ix ix_any (pv 0) (pv 6) (fun _ _ => rfl)))) (pa_cons (pe_meth0 (pv 4) T.cl T.mr Fr (hr.mono (by first | decide | omega)) br .nil pass0) pa_nil))))) (pss_one (ps_ret pe_bl)) pss_nil) (pss_cons (ps_set (i := 7) sc_w_number_right.nd rfl (Or.inl rfl) (pe_call F6 (hr.mono (by first | decide | omega)) rfl m6 k6 b6 .nil pass0 (pa_cons (pv 5) pa_nil))) (pss_cons (ps_if (pt_cmpR (op_neP hu) (pe_cmpR op_isN (pv 7) pe_non (by first | exact nomark _ | rfl)) (pe_cmpR (op_eqP hu) (pv 1) (pe_op op_sub (pv 3) pe_int) (by first | exact nomark _ | rfl)) (by first | exact nomark _ | rfl)) (pss_one (ps_ret pe_bl)) pss_nil) (pss_cons (ps_if (PW.pt (pw_and (pt_cmpR op_notN (pv 7) pe_non (by first | exact nomark _ | rfl)) (pw_and1 (pt_not (pt_val (pe_call F3 (hr.mono (by first | decide | omega)) rfl m3 k3 b3 .nil pass0 (pa_cons (pe_call F5 (hr.mono (by first | decide | omega)) rfl m5 k5 b5 .nil pass0 (pa_cons (pe_call F2 (hr.mono (by first | decide | omega)) rfl m2 k2 b2 .nil pass0 (pa_cons (pv 0) (pa_cons (pe_op op_addA (pv 1) pe_int) pa_nil))) pa_nil)) (pa_cons (pv 7) pa_nil)))))))) (pss_one (ps_ret pe_bl)) pss_nil) (pss_cons (ps_set (i := 8) sc_w_number_right.nd rfl (Or.inl rfl) (pe_make T.makes Fi (hr.mono (by first | decide | omega)) rfl gS bi .nil pass0 (pa_cons (pv 0) (pa_cons (pe_lc (own := [("_law_rank", 6)]) rfl sc_w_number_right.nd (pi_seq (pv 5)) (blkOk_by (N := nn_w_number_right) (sc := defScope st_w_number_right) (by decide +kernel)) (fun _ _ _ _ _ => (pg_name (i := 6) sc_w_number_right.nd rfl (Or.inl rfl))) (fun _ _ _ _ _ => pts_nil) (fun _ _ _ _ _ => (pe_ix ix_any (pv 0) (pe_op op_sub (pe_op op_sub (pe_callB call_lenA (by rfl) M.len b_len (pa_cons (pv 0) pa_nil)) pe_int) (pv 6)) (fun _ _ => rfl)))) pa_nil)))) (pss_one (ps_ret (pe_and (pe_call F3 (hr.mono (by first | decide | omega)) rfl m3 k3 b3 .nil pass0 (pa_cons (pe_call F4 (hr.mono (by first | decide | omega)) rfl m4 k4 b4 .nil pass0 (pa_cons (pv 8) pa_nil)) (pa_cons (pe_op op_sub (pe_op op_sub (pv 3) pe_int) (pv 1)) pa_nil))) (pe_one (pe_cmpR (op_eqA hu Fq T.eq (hr.mono (by first | decide | omega)) bq) (pe_call F2 (hr.mono (by first | decide | omega)) rfl m2 k2 b2 .nil pass0 (pa_cons (pv 0) (pa_cons (pe_op op_sub (pe_op op_sub (pv 3) pe_int) (pv 1)) pa_nil))) (pv 8) (by first | exact nomark _ | rfl)))))))))))))))), (rs_sq (rs_par (fun Z => (re_cb rn_list (ra_cons re_v ra_nil))) (fun Z => (re_call (ra_cons (re_cb rn_len (ra_cons re_v ra_nil)) ra_nil)))) (rs_sq (rs_rel 1 (rs_set fun Z => (re_callJ (ra_cons re_v (ra_cons re_v ra_nil))))) (rs_sq rs_rvs (rs_sq (rs_rel 1 (rs_rel 0 (rs_if (fun Z => (rt_not (rt_v (re_call (ra_cons (re_lst (ra_cons (re_meth rfl rfl re_v ra_nil) (ra_cons (re_callJ (ra_cons re_v ra_nil)) (ra_cons (re_cb rn_sortedT (ra_cons (re_meth rfl rfl re_v ra_nil) ra_nil)) ra_nil)))) (ra_cons (re_lst (ra_cons re_v (ra_cons re_v (ra_cons (re_cb rn_sortedT (ra_cons re_v ra_nil)) ra_nil)))) ra_nil)))))) (rs_ret fun Z => re_bl) rs_nx))) (rs_sq (rs_set fun Z => (re_call (ra_cons re_v ra_nil))) (rs_sq (rs_if (fun Z => (rt_not (rt_v (re_call (ra_cons (re_lc (ri_seq re_v) rg_nm (by decide) (fun Z => rt_yes) (fun Z => (re_op r2_ix re_v re_v))) (ra_cons (re_meth rfl rfl re_v ra_nil) ra_nil)))))) (rs_ret fun Z => re_bl) rs_nx) (rs_sq (rs_set fun Z => (re_call (ra_cons re_v ra_nil))) (rs_sq (rs_if (fun Z => (rt_c (re_op r2_ne (re_op r2_isN re_v re_non) (re_op r2_eq re_v (re_op r2_sub re_v re_int))))) (rs_ret fun Z => re_bl) rs_nx) (rs_sq (rs_if (fun Z => (rt_and (rt_c (re_op r2_notN re_v re_non)) (rt_not (rt_v (re_call (ra_cons (re_call (ra_cons (re_call (ra_cons re_v (ra_cons (re_op r2_add re_v re_int) ra_nil))) ra_nil)) (ra_cons re_v ra_nil))))))) (rs_ret fun Z => re_bl) rs_nx) (rs_sq (rs_set fun Z => (re_shelf re_v (re_lc (ri_seq re_v) rg_nm (by decide) (fun Z => rt_yes) (fun Z => (re_op r2_ix re_v (re_op r2_sub (re_op r2_sub (re_cb rn_len (ra_cons re_v ra_nil)) re_int) re_v)))))) (rs_ret fun Z => (re_and (re_call (ra_cons (re_call (ra_cons re_v ra_nil)) (ra_cons (re_op r2_sub (re_op r2_sub re_v re_int) re_v) ra_nil))) (re_op (r2_eqA I) (re_call (ra_cons re_v (ra_cons (re_op r2_sub (re_op r2_sub re_v re_int) re_v) ra_nil))) re_v)))))))))))))⟩
abbrev st_w_all_right : Stmt := top 38
abbrev nn_w_all_right : List Str := ["_law_books", "_law_numbers", "_law_found", "_law_turn", "_law_told", "_law_number", "_law_shelf", "_law_row", "_law_rank"]
theorem sc_w_all_right : FnScope nn_w_all_right ["_law_books"] (defScope st_w_all_right) := ⟨rfl, rfl, rfl, by decide +kernel, rfl, by decide +kernel, by decide +kernel⟩
theorem has_w_all_right {S S1 S2 S3 S4 S5 S6 : ST} (M : Nm mg) (L : ShL P w K mg base C) (r : RawF K mg "_law_all_right" st_w_all_right) (h1 : Has P w K mg base C 1 "_law_many" ["_law_size"] [true] S1) (h2 : Has P w K mg base C 1 "_law_next" ["_law_numbers"] [true] S2) (h3 : Has P w K mg base C 6 "shelf_at" ["catalogue", "number"] [true, false] S3) (h4 : Has P w K mg base C 6 "_law_exact" ["_law_mine", "_law_theirs"] [true, true] S4) (h5 : Has P w K mg base C 2 "ranks" ["shelf"] [true] S5) (h6 : Has P w K mg base C 3 "shelf_number" ["shelf"] [true] S6) 
    (tree : ∀ ds n R, S ds n R → B_w_all_right S1 S2 S3 S4 S5 S6 (ends R) (slots [true] ds 8) n) : Has P w K mg base C 7 "_law_all_right" ["_law_books"] [true] S := by
  obtain ⟨f, fd, m0, F⟩ := r
  obtain ⟨fi, fq, fc, fr, fdi, fdq, fdc, fdr, T, gS, Fi, bi, Fq, bq, Fc, bc, Fr, br, I⟩ := L.x
  obtain ⟨f1, fd1, F1, m1, k1, b1⟩ := h1
  obtain ⟨f2, fd2, F2, m2, k2, b2⟩ := h2
  obtain ⟨f3, fd3, F3, m3, k3, b3⟩ := h3
  obtain ⟨f4, fd4, F4, m4, k4, b4⟩ := h4
  obtain ⟨f5, fd5, F5, m5, k5, b5⟩ := h5
  obtain ⟨f6, fd6, F6, m6, k6, b6⟩ := h6
  refine ⟨f, fd, def_ok F sc_w_all_right rfl (fun cdv A outer s H E hr => ?_) tree, m0, F.kp, F.binds fun _ _ _ _ _ _ us hl => match us, hl with | [_], _ => rfl⟩
  have hu := units62 hr
  exact ⟨_, (pss_cons (ps_par (i := 1) (j := 2) rfl sc_w_all_right.nd rfl rfl (by decide) rfl rfl (pa_cons (pe_listRg rfl (by rfl) M.list (prg_1 (by rfl) M.range (pe_callB call_lenA (by rfl) M.len b_len (pa_cons (pv 0) pa_nil)))) (pa_cons (pe_lst pa_nil) pa_nil)) rfl) (pss_cons (ps_for PassesOwn.never rfl (pi_range1 (by rfl) M.range (pa_cons (pe_call F1 (hr.mono (by first | decide | omega)) rfl m1 k1 b1 .nil pass0 (pa_cons (pe_callB call_lenA (by rfl) M.len b_len (pa_cons (pv 0) pa_nil)) pa_nil)) pa_nil)) (pg_name (i := 3) sc_w_all_right.nd rfl (Or.inl rfl)) (pss_cons (ps_expr (pe_bm PySem.F.plainAttrs_list PySem.F.slot_list_append PySem.F.type_list_append mt_append (pv 2) (pa_cons (pv 1) pa_nil))) (pss_one (ps_set (i := 1) sc_w_all_right.nd rfl (Or.inl rfl) (pe_call F2 (hr.mono (by first | decide | omega)) rfl m2 k2 b2 .nil pass0 (pa_cons (pv 1) pa_nil)))))) (pss_cons (ps_if (PW.pt (pw_or (pt_cmpR op_notN (pv 1) pe_non (by first | exact nomark _ | rfl)) (pw_or1 (pt_cmpR (op_neP hu) (pe_callB (cr_sortedD hu) (by rfl) M.sorted b_sorted (pa_cons (pv 2) pa_nil)) (pv 2) (by first | exact nomark _ | rfl))))) (pss_one (ps_ret pe_bl)) pss_nil) (pss_cons (ps_setLc (i := 4) (own := [("_law_number", 5)]) rfl sc_w_all_right.nd rfl rfl (sw_true rfl rfl rfl (by decide +kernel)) (pi_range1 (by rfl) M.range (pa_cons (pe_callB call_lenA (by rfl) M.len b_len (pa_cons (pv 2) pa_nil)) pa_nil)) (blkOk_by (N := nn_w_all_right) (sc := defScope st_w_all_right) (by decide +kernel)) (fun _ _ _ _ _ => (pg_name (i := 5) sc_w_all_right.nd rfl (Or.inl rfl))) (fun _ _ _ _ _ => pts_nil) (fun _ _ _ _ _ => (pe_call F3 (hr.mono (by first | decide | omega)) (by rfl) m3 k3 b3 .nil pass0 (pa_cons (pv 0) (pa_cons (pv 5) pa_nil))))) (pss_cons (ps_if (pt_not (pt_val (pe_call F4 (hr.mono (by first | decide | omega)) rfl m4 k4 b4 .nil pass0 (pa_cons (pe_lc (own := [("_law_shelf", 6)]) rfl sc_w_all_right.nd (pi_seq (pv 4)) (blkOk_by (N := nn_w_all_right) (sc := defScope st_w_all_right) (by decide +kernel)) (fun _ _ _ _ _ => (pg_name (i := 6) sc_w_all_right.nd rfl (Or.inl rfl))) (fun _ _ _ _ _ => pts_nil) (fun _ _ _ _ _ => (pe_call F5 (hr.mono (by first | decide | omega)) (by rfl) m5 k5 b5 .nil pass0 (pa_cons (pv 6) pa_nil)))) (pa_cons (pv 2) pa_nil))))) (pss_one (ps_ret pe_bl)) pss_nil) (pss_one (ps_ret (pe_call F4 (hr.mono (by first | decide | omega)) rfl m4 k4 b4 .nil pass0 (pa_cons (pe_lc (own := [("_law_row", 7)]) rfl sc_w_all_right.nd (pi_seq (pv 2)) (blkOk_by (N := nn_w_all_right) (sc := defScope st_w_all_right) (by decide +kernel)) (fun _ _ _ _ _ => (pg_name (i := 7) sc_w_all_right.nd rfl (Or.inl rfl))) (fun _ _ _ _ _ => pts_nil) (fun _ _ _ _ _ => (pe_call F6 (hr.mono (by first | decide | omega)) (by rfl) m6 k6 b6 .nil pass0 (pa_cons (pe_make T.makes Fi (hr.mono (by first | decide | omega)) rfl gS bi .nil pass0 (pa_cons (pv 0) (pa_cons (pe_lc (own := [("_law_rank", 8)]) rfl sc_w_all_right.nd (pi_seq (pv 7)) (blkOk_by (N := nn_w_all_right) (sc := { kind := .function, names := [(".0", .local), ("_law_row", .local), ("shelf_number", .globalImplicit), ("Shelf", .globalImplicit), ("_law_books", .cell)], isGenerator := false, isCoroutine := false }) (by decide +kernel)) (fun _ _ _ _ _ => (pg_name (i := 8) sc_w_all_right.nd rfl (Or.inl rfl))) (fun _ _ _ _ _ => pts_nil) (fun _ _ _ _ _ => (pe_ix ix_any (pv 0) (pv 8) (fun _ _ => rfl)))) pa_nil))) pa_nil)))) (pa_cons (pe_listRg rfl (by rfl) M.list (prg_1 (by rfl) M.range (pe_callB call_lenA (by rfl) M.len b_len (pa_cons (pv 2) pa_nil)))) pa_nil)))))))))), (rs_sq (rs_par (fun Z => (re_lrg1 (re_cb rn_len (ra_cons re_v ra_nil)))) (fun Z => (re_lst ra_nil))) (rs_sq (rs_for (fun Z => (ri_r1 (re_call (ra_cons (re_cb rn_len (ra_cons re_v ra_nil)) ra_nil)))) rg_nm (rs_sq (rs_rel 1 (rs_app fun Z => re_v)) (rs_set fun Z => (re_call (ra_cons re_v ra_nil))))) (rs_sq (rs_if (fun Z => (rt_or (rt_c (re_op r2_notN re_v re_non)) (rt_c (re_op r2_ne (re_cb rn_sortedD (ra_cons re_v ra_nil)) re_v)))) (rs_ret fun Z => re_bl) rs_nx) (rs_sq (rs_rel 5 (rs_set fun Z => (re_lc (ri_r1 (re_cb rn_len (ra_cons re_v ra_nil))) rg_nm (by decide) (fun Z => rt_yes) (fun Z => (re_call (ra_cons re_v (ra_cons re_v ra_nil))))))) (rs_sq (rs_if (fun Z => (rt_not (rt_v (re_call (ra_cons (re_lc (ri_seq re_v) rg_nm (by decide) (fun Z => rt_yes) (fun Z => (re_call (ra_cons re_v ra_nil)))) (ra_cons re_v ra_nil)))))) (rs_ret fun Z => re_bl) rs_nx) (rs_ret fun Z => (re_call (ra_cons (re_lc (ri_seq re_v) rg_nm (by decide) (fun Z => rt_yes) (fun Z => (re_call (ra_cons (re_shelf re_v (re_lc (ri_seq re_v) rg_nm (by decide) (fun Z => rt_yes) (fun Z => (re_op r2_ix re_v re_v)))) ra_nil)))) (ra_cons (re_lrg1 (re_cb rn_len (ra_cons re_v ra_nil))) ra_nil)))))))))⟩
abbrev st_w_right : Stmt := top 39
abbrev nn_w_right : List Str := ["_law_purse_here", "_law_size", "_law_books", "_law_many_here", "_law_spots", "_law_spot", "_law_number", "_law_row", "_law_shelf", "_law_first", "_law_rank", "_law_rest", "_law_book"]
theorem sc_w_right : FnScope nn_w_right ["_law_purse_here", "_law_size"] (defScope st_w_right) := ⟨rfl, rfl, rfl, by decide +kernel, rfl, by decide +kernel, by decide +kernel⟩
theorem has_w_right {S S1 S2 S3 S4 S5 S6 S7 S8 S9 S10 S11 : ST} (M : Nm mg) (L : ShL P w K mg base C) (r : RawF K mg "_law_right" st_w_right) (h1 : Has P w K mg base C 5 "_law_catalogue" ["_law_purse_here", "_law_many_here"] [true, true] S1) (h2 : Has P w K mg base C 1 "_law_many" ["_law_size"] [true] S2) (h3 : Has P w K mg base C 2 "_law_draw" ["_law_purse_here", "_law_many_here"] [true, true] S3) (h4 : Has P w K mg base C 7 "_law_number_right" ["_law_books", "_law_number"] [false, false] S4) (h5 : Has P w K mg base C 7 "_law_over" ["_law_books", "_law_number"] [false, false] S5) (h6 : Has P w K mg base C 3 "_law_shuffled" ["_law_purse_here", "_law_some"] [true, true] S6) (h7 : Has P w K mg base C 3 "shelf_number" ["shelf"] [true] S7) (h8 : Has P w K mg base C 6 "shelf_at" ["catalogue", "number"] [true, false] S8) (h9 : Has P w K mg base C 6 "_law_exact" ["_law_mine", "_law_theirs"] [true, true] S9) (h10 : Has P w K mg base C 6 "mirrored" ["shelf"] [true] S10) (h11 : Has P w K mg base C 6 "sorted_shelf" ["catalogue"] [true] S11) 
    (tree : ∀ ds n R, S ds n R → B_w_right S1 S2 S3 S4 S5 S6 S7 S8 S9 S10 S11 (ends R) (slots [true, true] ds 11) n) : Has P w K mg base C 8 "_law_right" ["_law_purse_here", "_law_size"] [true, true] S := by
  obtain ⟨f, fd, m0, F⟩ := r
  obtain ⟨fi, fq, fc, fr, fdi, fdq, fdc, fdr, T, gS, Fi, bi, Fq, bq, Fc, bc, Fr, br, I⟩ := L.x
  obtain ⟨f1, fd1, F1, m1, k1, b1⟩ := h1
  obtain ⟨f2, fd2, F2, m2, k2, b2⟩ := h2
  obtain ⟨f3, fd3, F3, m3, k3, b3⟩ := h3
  obtain ⟨f4, fd4, F4, m4, k4, b4⟩ := h4
  obtain ⟨f5, fd5, F5, m5, k5, b5⟩ := h5
  obtain ⟨f6, fd6, F6, m6, k6, b6⟩ := h6
  obtain ⟨f7, fd7, F7, m7, k7, b7⟩ := h7
  obtain ⟨f8, fd8, F8, m8, k8, b8⟩ := h8
  obtain ⟨f9, fd9, F9, m9, k9, b9⟩ := h9
  obtain ⟨f10, fd10, F10, m10, k10, b10⟩ := h10
  obtain ⟨f11, fd11, F11, m11, k11, b11⟩ := h11
  refine ⟨f, fd, def_ok F sc_w_right rfl (fun cdv A outer s H E hr => ?_) tree, m0, F.kp, F.binds fun _ _ _ _ _ _ us hl => match us, hl with | [_, _], _ => rfl⟩
  have hu := units62 hr
  exact ⟨_, (pss_cons (ps_set (i := 2) sc_w_right.nd rfl (Or.inr rfl) (pe_call F1 (hr.mono (by first | decide | omega)) rfl m1 k1 b1 .nil pass0 (pa_cons (pv 0) (pa_cons (pv 1) pa_nil)))) (pss_cons (ps_set (i := 3) sc_w_right.nd rfl (Or.inl rfl) (pe_call F2 (hr.mono (by first | decide | omega)) rfl m2 k2 b2 .nil pass0 (pa_cons (pv 1) pa_nil))) (pss_cons (ps_set (i := 4) sc_w_right.nd rfl (Or.inl rfl) (pe_lst (pa_cons pe_int (pa_cons (pe_op op_sub (pv 3) pe_int) (pa_cons (pe_op op_fdiv (pv 3) pe_int) (pa_cons (pe_call F3 (hr.mono (by first | decide | omega)) rfl m3 k3 b3 .nil pass0 (pa_cons (pv 0) (pa_cons (pv 3) pa_nil))) (pa_cons (pe_call F3 (hr.mono (by first | decide | omega)) rfl m3 k3 b3 .nil pass0 (pa_cons (pv 0) (pa_cons (pv 3) pa_nil))) (pa_cons (pe_callB (call_minA rfl) (by rfl) M.min b_min (pa_cons (pe_op op_sub (pv 3) pe_int) (pa_cons (pe_op op_fdiv (pv 3) (pv 1)) pa_nil))) (pa_cons (pe_callB (call_maxA rfl) (by rfl) M.max b_max (pa_cons pe_int (pa_cons (pe_op op_sub (pe_op op_fdiv (pv 3) (pv 1)) pe_int) pa_nil))) pa_nil))))))))) (pss_cons (ps_if (pt_cmpR (op_neP hu) (pe_lc (own := [("_law_spot", 5)]) rfl sc_w_right.nd (pi_seq (pv 4)) (blkOk_by (N := nn_w_right) (sc := defScope st_w_right) (by decide +kernel)) (fun _ _ _ _ _ => (pg_name (i := 5) sc_w_right.nd rfl (Or.inl rfl))) (fun _ _ _ _ _ => (pts_one (pt_not (pt_val (pe_call F4 (hr.mono (by first | decide | omega)) (by rfl) m4 k4 b4 .nil pass0 (pa_cons (pv 2) (pa_cons (pv 5) pa_nil))))))) (fun _ _ _ _ _ => (pv 5))) (pe_lst pa_nil) (by first | exact nomark _ | rfl)) (pss_one (ps_ret pe_bl)) pss_nil) (pss_cons (ps_if (pt_cmpR (op_neP hu) (pe_lc (own := [("_law_number", 6)]) rfl sc_w_right.nd (pi_seq (pe_tup (pa_cons (pv 3) (pa_cons (pe_op op_addA (pv 3) pe_int) (pa_cons (pe_op op_mulA (pv 3) pe_int) (pa_cons (pe_op op_pow pe_int pe_int) (pa_cons (pe_un un_neg pe_int) (pa_cons (pe_un un_neg (pv 3)) pa_nil)))))))) (blkOk_by (N := nn_w_right) (sc := defScope st_w_right) (by decide +kernel)) (fun _ _ _ _ _ => (pg_name (i := 6) sc_w_right.nd rfl (Or.inl rfl))) (fun _ _ _ _ _ => (pts_one (pt_not (pt_val (pe_call F5 (hr.mono (by first | decide | omega)) (by rfl) m5 k5 b5 .nil pass0 (pa_cons (pv 2) (pa_cons (pv 6) pa_nil))))))) (fun _ _ _ _ _ => (pv 6))) (pe_lst pa_nil) (by first | exact nomark _ | rfl)) (pss_one (ps_ret pe_bl)) pss_nil) (pss_cons (ps_set (i := 7) sc_w_right.nd rfl (Or.inr rfl) (pe_call F6 (hr.mono (by first | decide | omega)) rfl m6 k6 b6 .nil pass0 (pa_cons (pv 0) (pa_cons (pv 2) pa_nil)))) (pss_cons (ps_set (i := 8) sc_w_right.nd rfl (Or.inl rfl) (pe_make T.makes Fi (hr.mono (by first | decide | omega)) rfl gS bi .nil pass0 (pa_cons (pv 2) (pa_cons (pv 7) pa_nil)))) (pss_cons (ps_set (i := 6) sc_w_right.nd rfl (Or.inl rfl) (pe_call F7 (hr.mono (by first | decide | omega)) rfl m7 k7 b7 .nil pass0 (pa_cons (pv 8) pa_nil))) (pss_cons (ps_if (PW.pt (pw_or (pt_not (pt_chain op_le op_ltA pe_int (pv 6) (pv 3))) (pw_or (pt_cmpR (op_neA hu Fq T.eq (hr.mono (by first | decide | omega)) bq) (pe_call F8 (hr.mono (by first | decide | omega)) rfl m8 k8 b8 .nil pass0 (pa_cons (pv 2) (pa_cons (pv 6) pa_nil))) (pv 8) (by first | exact nomark _ | rfl)) (pw_or1 (pt_not (pt_val (pe_call F9 (hr.mono (by first | decide | omega)) rfl m9 k9 b9 .nil pass0 (pa_cons (pe_call F7 (hr.mono (by first | decide | omega)) rfl m7 k7 b7 .nil pass0 (pa_cons (pe_call F10 (hr.mono (by first | decide | omega)) rfl m10 k10 b10 .nil pass0 (pa_cons (pe_call F10 (hr.mono (by first | decide | omega)) rfl m10 k10 b10 .nil pass0 (pa_cons (pv 8) pa_nil)) pa_nil)) pa_nil)) (pa_cons (pv 6) pa_nil))))))))) (pss_one (ps_ret pe_bl)) pss_nil) (pss_cons (ps_set (i := 9) sc_w_right.nd rfl (Or.inl rfl) (pe_ix ix_any (pe_lc (own := [("_law_rank", 10)]) rfl sc_w_right.nd (pi_range1 (by rfl) M.range (pa_cons (pv 1) pa_nil)) (blkOk_by (N := nn_w_right) (sc := defScope st_w_right) (by decide +kernel)) (fun _ _ _ _ _ => (pg_name (i := 10) sc_w_right.nd rfl (Or.inl rfl))) (fun _ _ _ _ _ => (pts_one (pt_cmpR (op_eqA hu Fq T.eq (hr.mono (by first | decide | omega)) bq) (pe_ix ix_any (pv 2) (pv 10) (fun _ _ => rfl)) (pe_ix ix_any (pv 7) pe_int (fun _ _ => rfl)) (by first | exact nomark _ | rfl)))) (fun _ _ _ _ _ => (pv 10))) pe_int (fun _ _ => rfl))) (pss_cons (ps_if (pt_cmpR (op_neP hu) (pe_op op_fdiv (pv 6) (pe_call F2 (hr.mono (by first | decide | omega)) rfl m2 k2 b2 .nil pass0 (pa_cons (pe_op op_sub (pv 1) pe_int) pa_nil))) (pv 9) (by first | exact nomark _ | rfl)) (pss_one (ps_ret pe_bl)) pss_nil) (pss_cons (ps_set (i := 11) sc_w_right.nd rfl (Or.inl rfl) (pe_ifExp (pt_cmpR op_gt (pv 1) pe_int (by first | exact nomark _ | rfl)) (pe_make T.makes Fi (hr.mono (by first | decide | omega)) rfl gS bi .nil pass0 (pa_cons (pe_lc (own := [("_law_book", 12)]) rfl sc_w_right.nd (pi_seq (pv 2)) (blkOk_by (N := nn_w_right) (sc := defScope st_w_right) (by decide +kernel)) (fun _ _ _ _ _ => (pg_name (i := 12) sc_w_right.nd rfl (Or.inl rfl))) (fun _ _ _ _ _ => (pts_one (pt_cmpR (op_neA hu Fq T.eq (hr.mono (by first | decide | omega)) bq) (pv 12) (pe_ix ix_any (pv 7) pe_int (fun _ _ => rfl)) (by first | exact nomark _ | rfl)))) (fun _ _ _ _ _ => (pv 12))) (pa_cons (pe_slice sl_any (pv 7) (po_some pe_int) po_none) pa_nil))) pe_non)) (pss_cons (ps_if (PW.pt (pw_and (pt_cmpR op_notN (pv 11) pe_non (by first | exact nomark _ | rfl)) (pw_and1 (pt_cmpR (op_neP hu) (pe_call F7 (hr.mono (by first | decide | omega)) rfl m7 k7 b7 .nil pass0 (pa_cons (pv 11) pa_nil)) (pe_op op_mod (pv 6) (pe_call F2 (hr.mono (by first | decide | omega)) rfl m2 k2 b2 .nil pass0 (pa_cons (pe_op op_sub (pv 1) pe_int) pa_nil))) (by first | exact nomark _ | rfl))))) (pss_one (ps_ret pe_bl)) pss_nil) (pss_one (ps_ret (pe_and (pe_cmpR (op_eqP hu) (pe_call F7 (hr.mono (by first | decide | omega)) rfl m7 k7 b7 .nil pass0 (pa_cons (pe_call F11 (hr.mono (by first | decide | omega)) rfl m11 k11 b11 .nil pass0 (pa_cons (pv 2) pa_nil)) pa_nil)) pe_int (by first | exact nomark _ | rfl)) (pe_one (pe_cmpR (op_eqA hu Fq T.eq (hr.mono (by first | decide | omega)) bq) (pe_call F8 (hr.mono (by first | decide | omega)) rfl m8 k8 b8 .nil pass0 (pa_cons (pv 2) (pa_cons (pe_op op_sub (pv 3) pe_int) pa_nil))) (pe_call F10 (hr.mono (by first | decide | omega)) rfl m10 k10 b10 .nil pass0 (pa_cons (pe_call F11 (hr.mono (by first | decide | omega)) rfl m11 k11 b11 .nil pass0 (pa_cons (pv 2) pa_nil)) pa_nil)) (by first | exact nomark _ | rfl))))))))))))))))))), (rs_sq (rs_set fun Z => (re_call (ra_cons re_v (ra_cons re_v ra_nil)))) (rs_sq (rs_set fun Z => (re_call (ra_cons re_v ra_nil))) (rs_sq (rs_set fun Z => (re_lst (ra_cons re_int (ra_cons (re_op r2_sub re_v re_int) (ra_cons (re_op r2_fdiv re_v re_int) (ra_cons (re_call (ra_cons re_v (ra_cons re_v ra_nil))) (ra_cons (re_call (ra_cons re_v (ra_cons re_v ra_nil))) (ra_cons (re_cb (rn_or1 rn_min2) (ra_cons (re_op r2_sub re_v re_int) (ra_cons (re_op r2_fdiv re_v re_v) ra_nil))) (ra_cons (re_cb (rn_or1 rn_max2) (ra_cons re_int (ra_cons (re_op r2_sub (re_op r2_fdiv re_v re_v) re_int) ra_nil))) ra_nil))))))))) (rs_sq (rs_rel 5 (rs_rel 2 (rs_if (fun Z => (rt_c (re_op r2_ne (re_lc (ri_seq re_v) rg_nm (by decide) (fun Z => (rt_not (rt_v (re_call (ra_cons re_v (ra_cons re_v ra_nil)))))) (fun Z => re_v)) (re_lst ra_nil)))) (rs_ret fun Z => re_bl) rs_nx))) (rs_sq (rs_rel 6 (rs_rel 3 (rs_rel 2 (rs_if (fun Z => (rt_c (re_op r2_ne (re_lc (ri_seq (re_tup (ra_cons re_v (ra_cons (re_op r2_add re_v re_int) (ra_cons (re_op r2_mul re_v re_int) (ra_cons (re_op r2_pow re_int re_int) (ra_cons (re_un r1_neg re_int) (ra_cons (re_un r1_neg re_v) ra_nil)))))))) rg_nm (by decide) (fun Z => (rt_not (rt_v (re_call (ra_cons re_v (ra_cons re_v ra_nil)))))) (fun Z => re_v)) (re_lst ra_nil)))) (rs_ret fun Z => re_bl) rs_nx)))) (rs_sq (rs_set fun Z => (re_call (ra_cons re_v (ra_cons re_v ra_nil)))) (rs_sq (rs_set fun Z => (re_shelf re_v re_v)) (rs_sq (rs_set fun Z => (re_call (ra_cons re_v ra_nil))) (rs_sq (rs_rel 6 (rs_if (fun Z => (rt_or (rt_not (rt_c (re_chain r2_le r2_lt re_int re_v re_v))) (rt_or (rt_c (re_op (r2_neA I) (re_call (ra_cons re_v (ra_cons re_v ra_nil))) re_v)) (rt_not (rt_v (re_call (ra_cons (re_call (ra_cons (re_call (ra_cons (re_call (ra_cons re_v ra_nil)) ra_nil)) ra_nil)) (ra_cons re_v ra_nil)))))))) (rs_ret fun Z => re_bl) rs_nx)) (rs_sq (rs_set fun Z => (re_op r2_ix (re_lc (ri_r1 re_v) rg_nm (by decide) (fun Z => (rt_c (re_op (r2_eqA I) (re_op r2_ix re_v re_v) (re_op r2_ix re_v re_int)))) (fun Z => re_v)) re_int)) (rs_sq (rs_if (fun Z => (rt_c (re_op r2_ne (re_op r2_fdiv re_v (re_call (ra_cons (re_op r2_sub re_v re_int) ra_nil))) re_v))) (rs_ret fun Z => re_bl) rs_nx) (rs_sq (rs_set fun Z => (re_ifx (rt_c (re_op r2_gt re_v re_int)) (re_shelf (re_lc (ri_seq re_v) rg_nm (by decide) (fun Z => (rt_c (re_op (r2_neA I) re_v (re_op r2_ix re_v re_int)))) (fun Z => re_v)) (re_sl re_v (ro_some re_int) ro_none)) re_non)) (rs_sq (rs_if (fun Z => (rt_and (rt_c (re_op r2_notN re_v re_non)) (rt_c (re_op r2_ne (re_call (ra_cons re_v ra_nil)) (re_op r2_mod re_v (re_call (ra_cons (re_op r2_sub re_v re_int) ra_nil))))))) (rs_ret fun Z => re_bl) rs_nx) (rs_ret fun Z => (re_and (re_op r2_eq (re_call (ra_cons (re_call (ra_cons re_v ra_nil)) ra_nil)) re_int) (re_op (r2_eqA I) (re_call (ra_cons re_v (ra_cons (re_op r2_sub re_v re_int) ra_nil))) (re_call (ra_cons (re_call (ra_cons re_v ra_nil)) ra_nil))))))))))))))))))⟩
end
end LW
end
-- LawG
section
set_option Elab.async false
set_option linter.all false
set_option maxRecDepth 100000
set_option maxHeartbeats 4100000
/-! ### a law: for each of its purses a body, then True -/
namespace LW
open L2 PyProof.Rows PySem PySem.Spec TS TL
theorem _root_.TL.PurseAt.neRefs {H : Hp} {p a c : Addr} {b : Int} {r : List V} (h : PurseAt H p b) (ha : H a = some (.lst (.ref c :: r))) : p ≠ a := by
  rintro rfl
  obtain ⟨_, _, _, _, hp, _⟩ := h
  have := congrArg (fun o => match o with | some (HO.lst (.int _ :: _)) => true | _ => false) (hp.symm.trans ha)
  cases this
variable [TL.Tb]
theorem off_purse {p a : Addr} {H : Hp} {o : HO} (t : LamX.Tabs Tb.T H) (np : p ≠ a) (h : H a = some o) (n : ∀ ps, o ≠ .tbl ps) : ¬ (⟨some p⟩ : Pz).On a := fun z => z.elim (fun e => np (Option.some.inj e)) fun ⟨q, hq, e⟩ => tabs_ne t h n q hq e
def spLaw (K : PySem.W.Frag) : Sp := fun vs H Q _ => ∃ (a : Addr) (zs : List Int), vs = [.ref a] ∧ SqL K H a (zs.map V.int) ∧ zs.length ≤ 63 ∧ LamX.Tabs Tb.T H ∧ ∀ H', Q (.bl true) H'
end LW
end
-- LawG2
section
set_option Elab.async false
set_option linter.all false
set_option maxRecDepth 100000
set_option maxHeartbeats 4100000
/-! ### a law with a head and a foot: something ahead, for each of its purses a body, something behind -/
namespace LW
open L2 PyProof.Rows PySem PySem.Spec TS TL
section
variable [TL.Tb]
theorem off0 {a : Addr} {H : Hp} {o : HO} (t : LamX.Tabs Tb.T H) (h : H a = some o) (n : ∀ ps, o ≠ .tbl ps) : ¬ (⟨none⟩ : Pz).On a := fun z => z.elim (fun e => nomatch e) fun ⟨q, hq, e⟩ => tabs_ne t h n q hq e
theorem dom0 {H : Hp} (t : LamX.Tabs Tb.T H) : ∀ b, (⟨none⟩ : Pz).On b → ∃ o, H b = some o := fun b z => z.elim (fun e => nomatch e) fun ⟨q, hq, e⟩ => by
  obtain ⟨ps', h1, _⟩ := t q hq
  exact ⟨_, by rw [← e]; exact h1⟩
theorem bt0_seq {K : PySem.W.Frag} {H H1 : Hp} {a : Addr} {xs : List V} (t : LamX.Tabs Tb.T H) (e : Bt ⟨none⟩ H H1) (h : SqL K H a xs) : SqL K H1 a xs := by
  rcases h with (h | ⟨o, h⟩) | h
  · exact .inl (.inl (e _ _ (off0 t h (by simp)) h))
  · exact .inl (.inr ⟨o, e _ _ (off0 t h (by simp)) h⟩)
  · exact .inr h
variable {P : Program} {w : World} {K : PySem.W.Frag} {mg : Str → Option Value} {base : Heap} {C : Addr}
theorem law_ok2 {st : Stmt} {f : Addr} {fd : FuncData} {N : List Str} {k ip few c : Nat} {T0 T T2 : TSt} {keep : Gm} (F : Fun K "law" "law" st f fd) (sc : FnScope N ["_law_script"] (defScope st)) (hN : N.length = keep.length) (hip : ip < keep.length) (hfew : few ≤ 100) (hc : c ≤ 1000000000)
    (hv : ∀ (i : Nat) (r : Rv), keep[i]? = some (some r) → ∃ d, r = .val d ∧ npu d = true) (hkp : keep[ip]? = some none) (hk0 : keep[0]? = some none)
    (body : ∀ (cdv : Value) (A : Around) (outer : List Env) (s : Shared) (H : Hp) (E : XK), Room k (A.deeper (envOfC "law" (defScope st) s.heap.objs.size f cdv)) →
      ∃ (E' : XK) (t0 tb t2 : TS), PSs (cxOf CX0 P w K mg base N "law" (defScope st) f cdv A outer s H E).nox (defBody st) (tSeq t0 (tSeq (tFor (iList K (tCall (spPurses K) [] E' (tCons (tVar 0) (tCons (tC (.int few)) tNil)))) (gName ip) tb) t2)) ∧ RSx C 0 t0 T0 ∧ RS C tb T ∧ RS C t2 T2)
    (pre : ∀ (E : TEn) (n : Nat), 1000000000 ≤ n → (∀ Γ q, Γ.length = keep.length → Keeps keep Γ → E.nx Γ q) → T0 E (List.replicate keep.length none) n)
    (tree : ∀ (E : TEn) (n : Nat), c ≤ n → (∀ Γ q, Kept keep Γ → n ≤ q + c → E.nx Γ q) → T E (keep.set ip (some (.bor .purse))) n)
    (post : ∀ (E : TEn) (n : Nat), 1000000000 ≤ n → (∀ q, E.rt (.val (.bl true)) q) → T2 E keep n) : FnOk P w K mg base CX0 (k + 1) f fd ["_law_script"] (spLaw K) := by
  refine F.ok sc (fun vs H Q E h => ?_) (fun cdv A outer s H vs Q E hr h => ?_)
  · obtain ⟨a, zs, rfl, _⟩ := h
    rfl
  · obtain ⟨a, zs, rfl, hS, hlen, tb0, q⟩ := h
    obtain ⟨E', t0, tb, t2, h1, h2, h3, h4⟩ := body cdv A outer s H E hr
    refine ⟨_, h1, ?_⟩
    have l0 : (L2.start N [V.ref a]).length = keep.length := by
      unfold L2.start
      simp only [List.length_append, List.length_map, List.length_replicate, List.length_cons, List.length_nil]
      omega
    have blank : ∀ (m i : Nat) (r : Rv), (List.replicate m (none : Option Rv))[i]? ≠ some (some r) := fun m i r h => by
      rw [List.getElem?_replicate] at h
      split at h <;> cases h
    have M0 : Mt C (Zx.at ⟨none⟩ (⟨none⟩ : Pz).On H (dom0 tb0) (fun _ h => h)) [] (List.replicate keep.length none) (L2.start N [V.ref a]) H 1000000000 :=
      ⟨by rw [l0, List.length_replicate], .refl, ⟨trivial, tb0⟩, fun i r hi => absurd hi (blank _ i r), fun g hg => (nomatch hg), fun i j b h => absurd h.1.choose_spec (blank _ i _)⟩
    refine h2 (.ref a) _ [] _ _ H _ { nx := fun Γ _ => Γ.length = keep.length ∧ Keeps keep Γ, rt := fun _ _ => False } _ M0 (by unfold L2.start; rfl) ⟨fun Γ1 σ1 H1 q1 M1 s0 hk1 => ?_, fun _ _ _ _ _ _ _ _ h => h.elim, fun _ _ _ _ _ _ h => h.elim, fun _ _ _ _ _ _ h => h.elim⟩ (pre _ _ Nat.le.refl fun Γ q l h => ⟨l, h⟩)
    obtain ⟨lΓ1, hk1⟩ := hk1
    have s01 : Bt ⟨none⟩ H H1 := M1.fr
    have tb1 := M1.pa.2
    refine ⟨.ref a, s0, a, zs, few, rfl, bt0_seq tb0 s01 hS, hlen, hfew, fun H0 L ps s1 nL hL few0 purses fresh => ?_⟩
    refine ⟨L, rfl, ⟨_, SqL.of hL⟩, ?_⟩
    have lσ1 : σ1.length = keep.length := by rw [M1.len, lΓ1]
    have nn : ∀ (i : Nat) (d : D), (keep.set ip (some (.bor .purse)))[i]? ≠ some (some (.new d)) := fun i d h => by
      rcases get_set h with ⟨_, e⟩ | ⟨_, e⟩
      · cases e
      · obtain ⟨d', e', _⟩ := hv i _ e
        cases e'
    have nk : ∀ (i : Nat) (d : D), keep[i]? ≠ some (some (.new d)) := fun i d h => by
      obtain ⟨d', e', _⟩ := hv i _ h
      cases e'
    have first : ∀ (j : Nat) (d : D), keep[j]? = some (some (.val d)) → ∃ v, σ1[j]? = some (some v) ∧ Rep ⟨none⟩ C (fun b => b ∈ ps ∨ (⟨none⟩ : Pz).On b) H0 d v := fun j d hj => by
      obtain ⟨d', e', np⟩ := hv j _ hj
      injection e' with e'
      subst e'
      have base_ : ∃ v, σ1[j]? = some (some v) ∧ Rep ⟨none⟩ C (⟨none⟩ : Pz).On H1 d v := by
        rcases hk1 j d hj with h | h
        · obtain ⟨v, hv, r⟩ := M1.sl j _ h
          exact ⟨v, hv, Rep.mono (fun c o nc h => ⟨fun z => nc (.inl z), h⟩) r⟩
        · obtain ⟨v, hv, b, e, _, r⟩ := M1.sl j _ h
          subst e
          exact ⟨_, hv, RepO.rep (M1.own ⟨⟨d, h⟩, hv⟩).2.2 (RepO.mono (fun c o nc h => ⟨fun z => nc (.inl z), h⟩) (fun _ h => h) r)⟩
      obtain ⟨v, hv, r⟩ := base_
      exact ⟨v, hv, r.mono fun c o nc h => ⟨(fun z => z.elim (fun z => by rw [fresh c z] at h; cases h) nc), s1 c o h⟩⟩
    refine for_list (K := K) (xs := ps.map V.ref) (fun i σ H' => σ.length = keep.length ∧ H' L = some (.lst (ps.map V.ref)) ∧ (∀ x ∈ ps, PurseAt H' x (((c * i : Nat) : Nat) : Int)) ∧ (∀ (j : Nat) (d : D), keep[j]? = some (some (.val d)) → ∃ v, σ[j]? = some (some v) ∧ Rep ⟨none⟩ C (fun b => b ∈ ps ∨ (⟨none⟩ : Pz).On b) H' d v) ∧ LamX.Tabs Tb.T H') ?_ ?_ ?_ ?_
    · exact ⟨lσ1, hL, fun x hx => (purses x hx).le (by omega), first, tb1.ext s1⟩
    · rintro i σ H' _ ⟨_, h, _⟩
      exact SqL.of h
    · rintro i v σ H hv' ⟨lσ, hL, purses, vals, tb2⟩
      rw [List.getElem?_map] at hv'
      obtain ⟨p, hp, rfl⟩ := Option.map_eq_some_iff.1 hv'
      have lti := (List.getElem?_eq_some_iff.1 hp).1
      have pin := List.mem_of_getElem? hp
      have hP := purses p pin
      have nLp : p ≠ L := by
        cases ps with
        | nil => simp at hp
        | cons y r => exact hP.neRefs hL
      have hi : c * i ≤ 100000000000 := Nat.le_trans (Nat.mul_le_mul hc (by omega : i ≤ 100)) (by decide)
      have dom : ∀ b, b ∈ ps ∨ (⟨none⟩ : Pz).On b → ∃ o, H b = some o := fun b hb => by
        rcases hb with hb | hb
        · obtain ⟨_, _, _, _, z, _⟩ := purses b hb
          exact ⟨_, z⟩
        · exact dom0 tb2 b hb
      have pw : ∀ b, (⟨some p⟩ : Pz).On b → b ∈ ps ∨ (⟨none⟩ : Pz).On b := fun b e => by
        rcases e with e | e
        · obtain rfl := Option.some.inj e
          exact .inl pin
        · exact .inr (.inr e)
      have fuel : c * i + c ≤ 2 ^ 40 := by omega
      generalize hn : 2 ^ 40 - c * i = n at fuel
      have M : Mt C (Zx.at ⟨some p⟩ (fun b => b ∈ ps ∨ (⟨none⟩ : Pz).On b) H dom pw) [] (keep.set ip (some (.bor .purse))) (σ.set ip (some (.ref p))) H n := by
        refine ⟨by rw [List.length_set, List.length_set, lσ], .refl, ⟨⟨_, hP, by omega⟩, tb2⟩, fun j r hj => ?_, fun g hg => (nomatch hg), fun j j' b h => absurd h.1.choose_spec (nn j _)⟩
        rcases get_set hj with ⟨rfl, er⟩ | ⟨ne, e⟩
        · obtain rfl := Option.some.inj er
          exact ⟨.ref p, by rw [List.getElem?_set_self (by omega)], .inl ⟨p, rfl, rfl⟩⟩
        · obtain ⟨d, rfl, np⟩ := hv j r e
          obtain ⟨v, h1, h2⟩ := vals j d e
          refine ⟨v, by rw [List.getElem?_set_ne ne]; exact h1, Rep.any (fun c o nc h => ⟨fun z => ?_, h⟩) np h2⟩
          rcases z with z | ⟨j', ⟨d', hd'⟩, _⟩
          · exact nc z
          · exact nn j' d' hd'
      refine h3 _ [] _ _ H n { nx := fun Γ q => Kept keep Γ ∧ n ≤ q + c, rt := fun _ _ => False } _ M ⟨fun Γ σ' H' q M' ⟨hΓ, hq⟩ => ?_, fun _ _ _ _ _ _ _ _ h => h.elim, fun _ _ _ _ _ h => h.elim, fun _ _ _ _ _ h => h.elim⟩ (tree _ n (by omega) fun Γ q l h => ⟨l, h⟩)
      have fr : Bt ⟨some p⟩ H H' := M'.fr
      refine ⟨by rw [M'.len, hΓ.1], fr L _ (off_purse tb2 nLp hL (by simp)) hL, fun x hx => ?_, fun j d hj => ?_, M'.pa.2⟩
      · have e : c * (i + 1) = c * i + c := Nat.mul_succ c i
        by_cases z : x = p
        · subst z
          obtain ⟨b, hb, hbq⟩ := M'.pa.1
          exact hb.le (by omega)
        · obtain ⟨p0, p1, p2, p3, h, r1, r2, r3, r4, r5, r6⟩ := purses x hx
          exact ⟨p0, p1, p2, p3, fr x _ (off_purse tb2 (fun e => z e.symm) h (by simp)) h, r1, r2, r3, by omega, r5, r6⟩
      · obtain ⟨v, h1, h2⟩ := M'.sl j _ (hΓ.2 j d hj)
        obtain ⟨d', e', np⟩ := hv j _ hj
        injection e' with e'
        subst e'
        exact ⟨v, h1, Rep.any (p := ⟨some p⟩) (fun c o nc h => ⟨fun z => nc (.inl z), h⟩) np h2⟩
    · rintro σ H' ⟨lσ, hL, purses, vals, tb2⟩
      have M2 : Mt C (Zx.at ⟨none⟩ (⟨none⟩ : Pz).On H' (dom0 tb2) (fun _ h => h)) [] keep σ H' 1000000000 := by
        refine ⟨lσ, .refl, ⟨trivial, tb2⟩, fun j r hj => ?_, fun g hg => (nomatch hg), fun i j b h => absurd h.1.choose_spec (nk i _)⟩
        obtain ⟨d, rfl, np⟩ := hv j r hj
        obtain ⟨v, h1, h2⟩ := vals j d hj
        refine ⟨v, h1, h2.mono fun c o nc h => ⟨fun z => ?_, h⟩⟩
        rcases z with z | ⟨j', ⟨d', hd'⟩, _⟩
        · exact nc (.inr z)
        · exact nk j' d' hd'
      exact h4 _ [] _ _ H' _ { nx := fun _ _ => False, rt := fun r _ => r = .val (.bl true) } _ M2 ⟨fun _ _ _ _ _ h => h.elim, fun v H2 r n _ _ _ x e => by subst e; rw [show v = .bl true from x]; exact q H2, fun _ _ _ _ _ h => h.elim, fun _ _ _ _ _ h => h.elim⟩ (post _ _ Nat.le.refl fun _ => rfl)
end
end LW
end
-- LawG3
-- BL
section
set_option Elab.async false
set_option linter.all false
set_option maxRecDepth 100000
set_option maxHeartbeats 4100000
namespace TL
open L2 PyProof.Rows PySem PySem.Spec TS TMin RZ
def B_lawin (S2 : ST) (S3 : ST) (S4 : ST) (S5 : ST) (S6 : ST) (S7 : ST) : TSt :=
  (tlSq (tlIf (tlOrT (tlNotT (tlT (tlCall [true, true] S2 (tlCons (tlV 1) (tlCons (tlOp dAdd (tlC (.int 1)) (tlCall [true, true] S3 (tlCons (tlV 1) (tlCons (tlC (.int 12)) tlNil)))) tlNil))))) (tlNotT (tlT (tlCall [true, true] S2 (tlCons (tlV 1) (tlCons (tlC (.int 12)) tlNil)))))) (tlRet (tlC (.bl false))) tlNx) (tlIf (tlNotT (tlT (tlCall [true] S4 (tlCons (tlCall [true, true] S5 (tlCons (tlV 1) (tlCons (tlOp dAdd (tlC (.int 1)) (tlCall [true, true] S3 (tlCons (tlV 1) (tlCons (tlC (.int 4)) tlNil)))) tlNil))) tlNil)))) (tlRet (tlC (.bl false))) tlNx))
def B_lawhead (S2 : ST) (S3 : ST) (S4 : ST) (S5 : ST) (S6 : ST) (S7 : ST) : TSt :=
  tlNx
def B_lawfoot (S2 : ST) (S3 : ST) (S4 : ST) (S5 : ST) (S6 : ST) (S7 : ST) : TSt :=
  (tlRet (tlAnd (tlOp dEq (tlCall [true] S6 (tlCons (tlShelf (tlLst (tlCons (tlC (.str "b")) (tlCons (tlC (.str "c")) (tlCons (tlC (.str "a")) tlNil)))) (tlLst (tlCons (tlC (.str "a")) (tlCons (tlC (.str "b")) (tlCons (tlC (.str "c")) tlNil))))) tlNil)) (tlC (.int 4))) (tlOp dEq (tlMeth [true] S_row (tlCall [true, false] S7 (tlCons (tlLst (tlCons (tlC (.str "z")) tlNil)) (tlCons (tlC (.int 0)) tlNil))) tlNil) (tlLst (tlCons (tlC (.str "z")) tlNil)))))
end TL
end
-- DL
section
set_option Elab.async false
set_option linter.all false
set_option maxRecDepth 100000
set_option maxHeartbeats 4100000
namespace LW
open L2 PyProof.Rows PySem PySem.Spec TS TL TMin RZ
section
variable [TL.Tb] {P : Program} {w : World} {K : PySem.W.Frag} {mg : Str → Option Value} {base : Heap} {C : Addr}
abbrev st_law : Stmt := top 40
abbrev nn_law : List Str := ["_law_script", "_law_purse_here"]
theorem sc_law : FnScope nn_law ["_law_script"] (defScope st_law) := ⟨rfl, rfl, rfl, by decide +kernel, rfl, by decide +kernel, by decide +kernel⟩
theorem pss_pre {X : Cx} {ss : List Stmt} {t : TS} (h : PSs X ss t) : PSs X ss (tSeq tNext t) := by
  rw [← seq_next]
  exact h
abbrev kp_law : Gm := [none, none]
theorem law_fin {f : Addr} {fd : FuncData} {S2 S3 S4 S5 S6 S7 : ST} (M : Nm mg) (L : ShL P w K mg base C) (F : Fun K "law" "law" st_law f fd) (h1 : ∃ f fd, FnOk P w K mg base CX0 2 f fd ["_law_script", "_law_few"] (spPurses K) ∧ mg "_law_purses" = some (.ref f) ∧ PySem.W.keepIn K (.ref f) = true ∧ Binds K fd ["_law_script", "_law_few"] []) (h2 : Has P w K mg base C 8 "_law_right" ["_law_purse_here", "_law_size"] [true, true] S2) (h3 : Has P w K mg base C 2 "_law_draw" ["_law_purse_here", "_law_many_here"] [true, true] S3) (h4 : Has P w K mg base C 7 "_law_all_right" ["_law_books"] [true] S4) (h5 : Has P w K mg base C 5 "_law_catalogue" ["_law_purse_here", "_law_many_here"] [true, true] S5) (h6 : Has P w K mg base C 3 "shelf_number" ["shelf"] [true] S6) (h7 : Has P w K mg base C 6 "shelf_at" ["catalogue", "number"] [true, false] S7)
    (hv : ∀ (i : Nat) (r : Rv), kp_law[i]? = some (some r) → ∃ d, r = .val d ∧ npu d = true)
    (treeh : ∀ (E : TEn) (n : Nat), 1000000000 ≤ n → (∀ Γ q, Γ.length = kp_law.length → Keeps kp_law Γ → E.nx Γ q) → B_lawhead S2 S3 S4 S5 S6 S7 E (List.replicate kp_law.length none) n)
    (tree : ∀ (E : TEn) (n : Nat), 5000000 ≤ n → (∀ Γ q, Kept kp_law Γ → n ≤ q + 5000000 → E.nx Γ q) → B_lawin S2 S3 S4 S5 S6 S7 E (kp_law.set 1 (some (.bor .purse))) n)
    (treef : ∀ (E : TEn) (n : Nat), 1000000000 ≤ n → (∀ q, E.rt (.val (.bl true)) q) → B_lawfoot S2 S3 S4 S5 S6 S7 E kp_law n) : FnOk P w K mg base CX0 9 f fd ["_law_script"] (spLaw K) := by
  obtain ⟨fi, fq, fc, fr, fdi, fdq, fdc, fdr, T, gS, Fi, bi, Fq, bq, Fc, bc, Fr, br, I⟩ := L.x
  obtain ⟨f1, fd1, F1, m1, k1, b1⟩ := h1
  obtain ⟨f2, fd2, F2, m2, k2, b2⟩ := h2
  obtain ⟨f3, fd3, F3, m3, k3, b3⟩ := h3
  obtain ⟨f4, fd4, F4, m4, k4, b4⟩ := h4
  obtain ⟨f5, fd5, F5, m5, k5, b5⟩ := h5
  obtain ⟨f6, fd6, F6, m6, k6, b6⟩ := h6
  obtain ⟨f7, fd7, F7, m7, k7, b7⟩ := h7
  refine law_ok2 (C := C) (few := 3) (c := 5000000) (keep := kp_law) (ip := 1) F sc_law rfl (by decide) (by decide) (by decide) hv rfl rfl (fun cdv A outer s H E hr => ?_) treeh tree treef
  have hu := units62 hr
  exact ⟨_, _, _, _, pss_pre (pss_cons (ps_for PassesOwn.never rfl (pi_list (pe_call F1 (hr.mono (by first | decide | omega)) rfl m1 k1 b1 .nil pass0 (pa_cons (pv 0) (pa_cons pe_int pa_nil)))) (pg_name (i := 1) sc_law.nd rfl (Or.inl rfl)) (pss_cons (ps_if (PW.pt (pw_or (pt_not (pt_val (pe_call F2 (hr.mono (by first | decide | omega)) rfl m2 k2 b2 .nil pass0 (pa_cons (pv 1) (pa_cons (pe_op op_addA pe_int (pe_call F3 (hr.mono (by first | decide | omega)) rfl m3 k3 b3 .nil pass0 (pa_cons (pv 1) (pa_cons pe_int pa_nil)))) pa_nil))))) (pw_or1 (pt_not (pt_val (pe_call F2 (hr.mono (by first | decide | omega)) rfl m2 k2 b2 .nil pass0 (pa_cons (pv 1) (pa_cons pe_int pa_nil)))))))) (pss_one (ps_ret pe_bl)) pss_nil) (pss_one (ps_if (pt_not (pt_val (pe_call F4 (hr.mono (by first | decide | omega)) rfl m4 k4 b4 .nil pass0 (pa_cons (pe_call F5 (hr.mono (by first | decide | omega)) rfl m5 k5 b5 .nil pass0 (pa_cons (pv 1) (pa_cons (pe_op op_addA pe_int (pe_call F3 (hr.mono (by first | decide | omega)) rfl m3 k3 b3 .nil pass0 (pa_cons (pv 1) (pa_cons pe_int pa_nil)))) pa_nil))) pa_nil)))) (pss_one (ps_ret pe_bl)) pss_nil)))) (pss_one (ps_ret (pe_and (pe_cmpR (op_eqP hu) (pe_call F6 (hr.mono (by first | decide | omega)) rfl m6 k6 b6 .nil pass0 (pa_cons (pe_make T.makes Fi (hr.mono (by first | decide | omega)) rfl gS bi .nil pass0 (pa_cons (pe_lst (pa_cons pe_str (pa_cons pe_str (pa_cons pe_str pa_nil)))) (pa_cons (pe_lst (pa_cons pe_str (pa_cons pe_str (pa_cons pe_str pa_nil)))) pa_nil))) pa_nil)) pe_int (by first | exact nomark _ | rfl)) (pe_one (pe_cmpR (op_eqP hu) (pe_meth0 (pe_call F7 (hr.mono (by first | decide | omega)) rfl m7 k7 b7 .nil pass0 (pa_cons (pe_lst (pa_cons pe_str pa_nil)) (pa_cons pe_int pa_nil))) T.cl T.mr Fr (hr.mono (by first | decide | omega)) br .nil pass0) (pe_lst (pa_cons pe_str pa_nil)) (by first | exact nomark _ | rfl))))))), rx_nx, (rs_sq (rs_if (fun Z => (rt_or (rt_not (rt_v (re_call (ra_cons re_v (ra_cons (re_op r2_add re_int (re_call (ra_cons re_v (ra_cons re_int ra_nil)))) ra_nil))))) (rt_not (rt_v (re_call (ra_cons re_v (ra_cons re_int ra_nil))))))) (rs_ret fun Z => re_bl) rs_nx) (rs_if (fun Z => (rt_not (rt_v (re_call (ra_cons (re_call (ra_cons re_v (ra_cons (re_op r2_add re_int (re_call (ra_cons re_v (ra_cons re_int ra_nil)))) ra_nil))) ra_nil))))) (rs_ret fun Z => re_bl) rs_nx)), (rs_ret fun Z => (re_and (re_op r2_eq (re_call (ra_cons (re_shelf (re_lst (ra_cons re_str (ra_cons re_str (ra_cons re_str ra_nil)))) (re_lst (ra_cons re_str (ra_cons re_str (ra_cons re_str ra_nil))))) ra_nil)) re_int) (re_op r2_eq (re_meth rfl rfl (re_call (ra_cons (re_lst (ra_cons re_str ra_nil)) (ra_cons re_int ra_nil))) ra_nil) (re_lst (ra_cons re_str ra_nil)))))⟩
end
end LW
end
-- T1
section
set_option Elab.async false
set_option linter.all false
set_option maxRecDepth 100000
set_option maxHeartbeats 4100000
/-! T1: draws of many kinds -/
variable [TL.Tb]
namespace TL
open L2 PyProof.Rows PySem PySem.Spec TS RZ
def S_shuffled : ST := fun ds n R => ∃ xs : List D, ds = [.purse, .lst xs] ∧ xs.length ≤ 100000 ∧ xs.length ≤ n ∧ ∀ ys : List D, ys.Perm xs → R (.new (.lst ys)) (n - xs.length)
theorem ins_perm {α : Type} (zs : List α) (z : α) (r : Nat) : (zs.take r ++ [z] ++ zs.drop r).Perm (zs ++ [z]) := by
  rw [List.append_assoc]
  refine (List.perm_middle.trans (List.Perm.cons z ?_)).trans (List.perm_append_singleton z zs).symm
  change (zs.take r ++ zs.drop r).Perm zs
  rw [List.take_append_drop]
theorem tree_w_shuffled : ∀ ds n R, S_shuffled ds n R → B_w_shuffled S_draw (ends R) (slots [true, true] ds 2) n := by
  rintro _ n R ⟨xs, rfl, few, hn, h⟩
  refine ⟨rfl, by decide, Nat.le_refl 1, ?_⟩
  refine forF_inv (j := 0) (fun i Γ k => ∃ (ys : List D) (o : Option Rv), Γ = [some (.bor .purse), some (.bor (.lst xs)), some (.new (.lst ys)), o] ∧ ys.Perm (xs.take i) ∧ k + i = n) ⟨[], none, rfl, .nil, rfl⟩ ?_ ?_
  · rintro i d Γ k hd ⟨ys, o, rfl, pm, hk⟩
    rw [Nat.zero_add] at pm hk
    have lt := (List.getElem?_eq_some_iff.1 hd).1
    have len : ys.length = i := by rw [pm.length_eq, List.length_take]; omega
    refine ⟨_, rfl, fun kk hkk => ?_⟩
    refine ⟨rfl, ys.length + 1, rfl, by omega, by omega, by omega, fun r hr => ?_⟩
    refine ⟨rfl, by omega, by omega, by omega, hkk _ _ ⟨ys.take r ++ [d] ++ ys.drop r, some (.val d), rfl, ?_, by omega⟩⟩
    rw [Nat.zero_add, List.take_succ, hd]
    exact (ins_perm ys d r).trans (pm.append (.refl _))
  · rintro Γ k ⟨ys, o, rfl, pm, hk⟩
    rw [Nat.zero_add, List.take_length] at pm
    have := h ys pm
    exact ⟨_, by omega, this⟩
end TL
end
-- T3
section
set_option Elab.async false
set_option linter.all false
set_option maxRecDepth 100000
set_option maxHeartbeats 4100000
/-! T3: words, catalogues -/
variable [TL.Tb]
namespace TL
open L2 PyProof.Rows PySem PySem.Spec TS RZ
theorem cps_app (a b : Str) : (a ++ b).cps.toList = a.cps.toList ++ b.cps.toList := by
  change (a.cps ++ b.cps).toList = _
  simp
theorem str_app_len (a b : Str) : (a ++ b).length = a.length + b.length := by
  change (a.cps ++ b.cps).size = _
  simp [Str.length]
theorem sIx_n {n d i : Nat} (h : i ≤ n) : HT.sIx n d (some ((i : Nat) : Int)) = i := (HT.sIx_nat n d i).trans (Nat.min_eq_left h)
theorem cut_len (z : Str) (lo hi : Option Int) : (cutS z lo hi).length ≤ z.length := by
  have n : z.cps.toList.length = z.length := by simp [Str.length]
  change (cutS z lo hi).cps.size ≤ _
  unfold cutS
  rw [← Array.length_toList]
  simp only [List.length_take, List.length_drop, n]
  omega
/-- a letter put in the place of one -/
theorem swap_word {z : Str} {r c : Nat} (hz : isWord z) (hr : r < z.length) (hc : 97 ≤ c ∧ c ≤ 122) :
    isWord (cutS z none (some ((r : Nat) : Int)) ++ (⟨#[c]⟩ : Str) ++ cutS z (some (((r : Nat) : Int) + 1)) none) := by
  have n : z.cps.toList.length = z.length := by simp [Str.length]
  have e : (cutS z none (some ((r : Nat) : Int)) ++ (⟨#[c]⟩ : Str) ++ cutS z (some (((r : Nat) : Int) + 1)) none).cps.toList = z.cps.toList.take r ++ [c] ++ z.cps.toList.drop (r + 1) := by
    rw [cps_app, cps_app]
    have i1 : HT.sIx z.length z.length (some ((r : Nat) : Int)) = r := sIx_n (by omega)
    have i2 : HT.sIx z.length 0 (some (((r : Nat) : Int) + 1)) = r + 1 := sIx_n (i := r + 1) (by omega)
    have h1 : (cutS z none (some ((r : Nat) : Int))).cps.toList = z.cps.toList.take r := by
      unfold cutS
      rw [i1]
      simp [HT.sIx]
    have h2 : (cutS z (some (((r : Nat) : Int) + 1)) none).cps.toList = z.cps.toList.drop (r + 1) := by
      unfold cutS
      rw [i2]
      have : HT.sIx z.length z.length none = z.length := rfl
      rw [this]
      simp only []
      rw [List.take_of_length_le (by rw [List.length_drop, n]; exact Nat.le.refl)]
    rw [h1, h2]
  have size : (cutS z none (some ((r : Nat) : Int)) ++ (⟨#[c]⟩ : Str) ++ cutS z (some (((r : Nat) : Int) + 1)) none).length = z.length := by
    change (_ : Str).cps.size = _
    rw [← Array.length_toList, e]
    simp only [List.length_append, List.length_take, List.length_drop, List.length_singleton, n]
    omega
  refine ⟨by rw [size]; exact hz.1, by rw [size]; exact hz.2.1, fun d hd => ?_⟩
  rw [e] at hd
  rcases List.mem_append.1 hd with hd | hd
  · rcases List.mem_append.1 hd with hd | hd
    · exact hz.2.2 d (List.mem_of_mem_take hd)
    · rw [List.mem_singleton.1 hd]
      exact hc
  · exact hz.2.2 d (List.mem_of_mem_drop hd)
theorem nodup_le : ∀ (ys xs : List Str), ys.Nodup → (∀ y ∈ ys, y ∈ xs) → ys.length ≤ xs.length
  | [], xs, _, _ => Nat.zero_le _
  | y :: r, xs, nd, sub => by
    rw [List.nodup_cons] at nd
    have hy : y ∈ xs := sub y List.mem_cons_self
    have ih := nodup_le r (xs.erase y) nd.2 fun z hz => (List.mem_erase_of_ne fun (q : z = y) => nd.1 (q ▸ hz)).2 (sub z (List.mem_cons_of_mem _ hz))
    rw [List.length_erase_of_mem hy] at ih
    have := List.length_pos_of_mem hy
    rw [List.length_cons]
    omega
abbrev abc : Str := "abcdefghijklmnopqrstuvwxyz"
theorem abc_list : abc.cps.toList = (List.range 26).map fun k => 97 + k := by decide +kernel
theorem abc_signs : (signs abc).length = 26 ∧ (signs abc).Nodup ∧ ∀ y ∈ signs abc, isWord y := by
  have e : signs abc = (List.range 26).map fun k => (⟨#[97 + k]⟩ : Str) := by
    unfold signs
    rw [abc_list, List.map_map]
    rfl
  refine ⟨by rw [e]; rfl, by rw [e]; decide +kernel, fun y hy => ?_⟩
  rw [e] at hy
  obtain ⟨k, hk, rfl⟩ := List.mem_map.1 hy
  have := List.mem_range.1 hk
  refine ⟨Nat.le.refl, (show 1 ≤ 8 by decide), fun c hc => ?_⟩
  have : c = 97 + k := by simpa using hc
  omega
/-- some letter is not among few words -/
theorem abc_left {zs : List Str} (few : zs.length < 26) : ((signs abc).filter fun y => decide (y ∉ zs)) ≠ [] := by
  intro e
  obtain ⟨n, nd, _⟩ := abc_signs
  have sub : ∀ y ∈ signs abc, y ∈ zs := fun y hy => by
    have := List.filter_eq_nil_iff.1 e y hy
    simpa using this
  have := nodup_le (signs abc) zs nd sub
  omega
/-! ### texts within lists -/
theorem plns_str : ∀ zs : List Str, plns (zs.map D.str) = true
  | [] => rfl
  | _ :: r => by simp [plns_str r]
theorem deps_str : ∀ zs : List Str, deps (zs.map D.str) = 0
  | [] => rfl
  | z :: r => by
    have := deps_str r
    simp [this]
theorem any_str (y : Str) : ∀ zs : List Str, ((zs.map D.str).any fun z => PyData.eqv (toP z) (toP (.str y))) = decide (y ∈ zs)
  | [] => by simp
  | z :: r => by
    rw [List.map_cons, List.any_cons, any_str y r]
    have : PyData.eqv (toP (.str z)) (toP (.str y)) = decide (z = y) := by
      by_cases h : z = y <;> simp [PyData.eqv, h]
    rw [this]
    by_cases h : z = y
    · subst h
      simp
    · have h' : ¬ y = z := fun q => h q.symm
      simp [h, h']
theorem dep_ok (zs : List Str) {k : Nat} : min (deps (zs.map D.str)) k ≤ 60 := by
  rw [deps_str]
  exact Nat.le_trans (Nat.min_le_left _ _) (Nat.zero_le _)
def S_words : ST := fun ds n R => ∃ m : Nat, ds = [.purse, .int m] ∧ m ≤ 20 ∧ 1000 ≤ n ∧ ∀ zs : List Str, zs.length = m → (∀ z ∈ zs, isWord z) → zs.Nodup → R (.new (dS zs)) (n - 1000)
theorem rng0_len (m : Nat) : ((rng 0 (m : Int)).map D.int).length = m := by simp [rng]
theorem words_last {E : TEn} {g0 g1 g2 g3 g4 o6 o8 : Option Rv} {zs : List Str} {x1 : Str} {k : Nat} (few : zs.length < 26) (w1 : isWord x1)
    (h : ∀ y, isWord y → y ∉ zs → E.nx [g0, g1, g2, g3, g4, some (.new (dS (zs ++ [y]))), o6, some (.val (.str y)), o8] k) :
    tlSq (tlIf (tlT (tlOp dInA (tlV 7) (tlV 5))) (tlSet 7 (tlOp dIx (tlLc (tlSeq (tlB dList (tlCons (tlC (.str "abcdefghijklmnopqrstuvwxyz")) tlNil))) (.nm 8) (tlT (tlOp dNin (tlV 8) (tlV 5))) (tlV 8) [8]) (tlC (.int 0)))) tlNx) (tlRel 7 (tlApp 5 (tlV 7)))
      E [g0, g1, g2, g3, g4, some (.new (dS zs)), o6, some (.val (.str x1)), o8] k := by
  have fin : ∀ y, isWord y → y ∉ zs → tlRel 7 (tlApp 5 (tlV 7)) E [g0, g1, g2, g3, g4, some (.new (dS zs)), o6, some (.val (.str y)), o8] k := fun y wy ny => by
    refine ⟨rfl, by rw [List.length_map]; omega, ?_⟩
    have := h y wy ny
    rw [dS, List.map_append] at this
    exact this
  refine ⟨rfl, plns_str zs, dep_ok zs, ?_⟩
  rw [any_str]
  by_cases q : x1 ∈ zs
  · rw [decide_eq_true q]
    refine iteT ⟨by decide, ?_, ?_⟩
    · show ((signs abc).map D.str).length ≤ _
      rw [List.length_map, abc_signs.1]
      decide
    · refine lcF_filter (f := fun y : Str => D.str y) (b := fun y => decide (y ∉ zs)) (fun y _ n R hR => ?_) (fun y _ _ n R hR => hR (.val (.str y)) rfl rfl) ?_
      · refine ⟨rfl, plns_str zs, dep_ok zs, ?_⟩
        rw [decide_not, ← any_str] at hR
        exact hR
      · rw [List.nil_append]
        have ne := abc_left few
        obtain ⟨y, r, ey⟩ : ∃ y r, ((signs abc).filter fun y => decide (y ∉ zs)) = y :: r := by
          cases e : (signs abc).filter fun y => decide (y ∉ zs) with
          | nil => exact absurd e ne
          | cons y r => exact ⟨y, r, rfl⟩
        have hy : y ∈ (signs abc).filter fun y => decide (y ∉ zs) := by rw [ey]; exact List.mem_cons_self
        rw [List.mem_filter] at hy
        refine ⟨.str y, by rw [ey]; exact atI_nat (j := 0) rfl, fin y (abc_signs.2.2 y hy.1) (by simpa using hy.2)⟩
  · rw [decide_eq_false q]
    exact iteF (fin x1 w1 q)
theorem tree_w_words : ∀ ds n R, S_words ds n R → B_w_words S_word S_draw (ends R) (slots [true, true] ds 7) n := by
  rintro _ n R ⟨m, rfl, hm, hn, h⟩
  refine ⟨rfl, rfl, by omega, fun z hz => ?_⟩
  refine ⟨rfl, 3, rfl, by omega, by omega, by omega, fun r1 hr1 => ?_⟩
  refine ⟨by have := hz.2.1; omega, rfl, z.length, rfl, hz.1, by have := hz.2.1; omega, by omega, fun r2 hr2 => ?_⟩
  refine ⟨rfl, Nat.zero_le _, ?_⟩
  refine ⟨by omega, by omega, by decide, ?_⟩
  refine forF_inv (j := 0) (fun i Γ k => ∃ (zs : List Str) (o6 o7 o8 : Option Rv), Γ = [some (.bor .purse), some (.bor (.int m)), some (.val (.str z)), some (.val (.bl (decide ((r1 : Int) = 0)))), some (.val (.int r2)), some (.new (dS zs)), o6, o7, o8] ∧
    zs.length = i ∧ (∀ z ∈ zs, isWord z) ∧ zs.Nodup ∧ n ≤ k + 22 + 30 * i) ⟨[], none, none, none, rfl, rfl, by simp, List.nodup_nil, by omega⟩ ?_ ?_
  · rintro i d Γ k hd ⟨zs, o6, o7, o8, rfl, hl, hw, nd, hk⟩
    have lt : i < m := by have := (List.getElem?_eq_some_iff.1 hd).1; rw [rng0_len] at this; exact this
    rw [Nat.zero_add] at hl hk
    generalize decide ((r1 : Int) = 0) = near
    refine ⟨_, rfl, fun kk hkk => ?_⟩
    have zl := hz.2.1
    have one : ∀ c : Nat, ((⟨#[c]⟩ : Str)).length = 1 := fun _ => rfl
    have cl := cut_len z
    refine ⟨rfl, by omega, rfl, 26, rfl, by omega, by omega, by omega, fun r3 hr3 => ?_⟩
    refine ⟨by decide, 97 + r3, by rw [abc_list]; exact atI_nat (by simp [hr3]), ?_⟩
    refine ⟨by rw [one]; have := cl none (some (r2 : Int)); omega, rfl, by omega, ?_⟩
    refine ⟨by rw [str_app_len, one]; have := cl none (some (r2 : Int)); have := cl (some ((r2 : Int) + 1)) none; omega, ?_⟩
    have w1 := swap_word hz hr2 (c := 97 + r3) ⟨by omega, by omega⟩
    generalize cutS z none (some ((r2 : Nat) : Int)) ++ (⟨#[97 + r3]⟩ : Str) ++ cutS z (some (((r2 : Nat) : Int) + 1)) none = x1 at w1 ⊢
    have more : ∀ (zs' : List Str) (y : Str), isWord y → y ∉ zs → zs' = zs ++ [y] → zs'.length = 0 + i + 1 ∧ (∀ z ∈ zs', isWord z) ∧ zs'.Nodup := fun zs' y wy ny e => by
      subst e
      refine ⟨by simp; omega, fun x hx => ?_, List.nodup_append.2 ⟨nd, by simp, fun a ha b hb => ?_⟩⟩
      · rcases List.mem_append.1 hx with hx | hx
        · exact hw x hx
        · rw [List.mem_singleton.1 hx]; exact wy
      · rw [List.mem_singleton.1 hb]
        exact fun q => ny (q ▸ ha)
    cases near with
    | true =>
      refine words_last (by omega) w1 fun y wy ny => hkk _ _ ⟨_, _, _, _, rfl, ?_⟩
      obtain ⟨m1, m2, m3⟩ := more _ y wy ny rfl
      exact ⟨m1, m2, m3, by omega⟩
    | false =>
      refine ⟨rfl, rfl, by omega, fun x2 w2 => ?_⟩
      refine words_last (by omega) w2 fun y wy ny => hkk _ _ ⟨_, _, _, _, rfl, ?_⟩
      obtain ⟨m1, m2, m3⟩ := more _ y wy ny rfl
      exact ⟨m1, m2, m3, by omega⟩
  · rintro Γ k ⟨zs, o6, o7, o8, rfl, hl, hw, nd, hk⟩
    rw [Nat.zero_add, rng0_len] at hl hk
    exact ⟨n - 1000, by omega, h zs hl hw nd⟩
end TL
end
-- T4
section
set_option Elab.async false
set_option linter.all false
set_option maxRecDepth 100000
set_option maxHeartbeats 4100000
/-! T4: catalogues; sizes of parts -/
variable [TL.Tb]
namespace TL
open L2 PyProof.Rows PySem PySem.Spec TS RZ
def S_cat : ST := fun ds n R => ∃ m : Nat, ds = [.purse, .int m] ∧ 1 ≤ m ∧ m ≤ 20 ∧ 2000 ≤ n ∧ ∀ xs : List Str, Cat xs → xs.length = m → R (.new (dS xs)) (n - 2000)
theorem perm_str {ds : List D} {zs : List Str} (h : ds.Perm (zs.map D.str)) : ∃ ys : List Str, ds = ys.map D.str ∧ ys.Perm zs := by
  generalize e : zs.map D.str = es at h
  induction h generalizing zs with
  | nil => exact ⟨[], rfl, by rw [List.map_eq_nil_iff.1 e]⟩
  | cons x _ ih =>
    cases zs with
    | nil => cases e
    | cons z r =>
      injection e with e1 e2
      obtain ⟨ys, rfl, p⟩ := ih e2
      exact ⟨z :: ys, by rw [← e1]; rfl, p.cons z⟩
  | swap x y l =>
    cases zs with
    | nil => cases e
    | cons z r =>
      cases r with
      | nil => cases e
      | cons z2 r =>
        injection e with e1 e2
        injection e2 with e2 e3
        exact ⟨z2 :: z :: r, by rw [← e1, ← e2, ← e3]; rfl, .swap _ _ _⟩
  | trans _ _ ih1 ih2 =>
    obtain ⟨ys, rfl, p⟩ := ih2 e
    obtain ⟨us, rfl, q⟩ := ih1 rfl
    exact ⟨us, rfl, q.trans p⟩
theorem Cat.perm {xs ys : List Str} (h : Cat xs) (p : ys.Perm xs) : Cat ys :=
  ⟨fun e => h.1 (List.Perm.nil_eq (e ▸ p)).symm, by rw [p.length_eq]; exact h.2.1, fun y hy => h.2.2.1 y (p.mem_iff.1 hy), p.nodup_iff.2 h.2.2.2⟩
theorem tree_w_catalogue : ∀ ds n R, S_cat ds n R → B_w_catalogue S_words S_draw S_shuffled (ends R) (slots [true, true] ds 1) n := by
  rintro _ n R ⟨m, rfl, h1, hm, hn, h⟩
  refine ⟨rfl, m, rfl, hm, by omega, fun zs hl hw nd => ?_⟩
  have cat : Cat zs := ⟨fun e => by rw [e] at hl; simp at hl; omega, by omega, hw, nd⟩
  refine ⟨rfl, 2, rfl, by omega, by omega, by omega, fun r hr => ?_⟩
  show (if decide ((r : Int) = 0) = true then _ else _)
  cases decide ((r : Int) = 0) with
  | true =>
    refine .inl ⟨zs, rfl, by omega, fun ys pm _ => ⟨rfl, n - 2000, by omega, h ys (cat.perm pm) (by rw [pm.length_eq, hl])⟩⟩
  | false =>
    refine ⟨rfl, zs.map D.str, rfl, by rw [List.length_map]; omega, by rw [List.length_map]; omega, fun ys pm => ?_⟩
    obtain ⟨us, rfl, p⟩ := perm_str pm
    exact ⟨rfl, n - 2000, by rw [List.length_map]; omega, h us (cat.perm p) (by rw [p.length_eq, hl])⟩
/-! ### numbers -/
@[reducible] def eN (x : Nat) : D := .int x
@[reducible] def dN (xs : List Nat) : D := .lst (xs.map eN)
/-! ### crossed rows -/
end TL
end
-- T5
section
set_option Elab.async false
set_option linter.all false
set_option maxRecDepth 100000
set_option maxHeartbeats 4100000
/-! T5: sizes of a heap's parts -/
variable [TL.Tb]
namespace TL
open L2 PyProof.Rows PySem PySem.Spec TS RZ
theorem pln_nats : ∀ xs : List Nat, plns (xs.map eN) = true
  | [] => rfl
  | _ :: r => by simp [pln_nats r]
end TL
end
-- KA
section
set_option linter.all false
/-! KA: stretches of a line of unlike numbers that are gapless; cuts -/
namespace KN
/-- the numbers at a .. b-1 are just c .. d-1 -/
structure Bl (f : Nat → Nat) (a b c d : Nat) : Prop where
  into : ∀ k, a ≤ k → k < b → c ≤ f k ∧ f k < d
  onto : ∀ x, c ≤ x → x < d → ∃ k, a ≤ k ∧ k < b ∧ f k = x
def Inj (f : Nat → Nat) (m : Nat) : Prop := ∀ i j, i < m → j < m → f i = f j → i = j
end KN
end
-- KB
section
set_option linter.all false
/-! KB: a line of unlike numbers cut into pieces -/
namespace KN
def mnl : List Nat → Nat
  | [] => 0
  | a :: r => r.foldl min a
def mxl : List Nat → Nat
  | [] => 0
  | a :: r => r.foldl max a
theorem fold_min : ∀ (r : List Nat) (a : Nat), r.foldl min a ∈ a :: r ∧ ∀ y ∈ a :: r, r.foldl min a ≤ y
  | [], a => by simp
  | x :: r, a => by
    obtain ⟨h1, h2⟩ := fold_min r (min a x)
    rw [List.foldl_cons]
    refine ⟨?_, fun y hy => ?_⟩
    · rcases List.mem_cons.1 h1 with e | e
      · rw [e]
        rcases Nat.le_total a x with c | c
        · rw [Nat.min_eq_left c]; simp
        · rw [Nat.min_eq_right c]; simp
      · exact List.mem_cons_of_mem _ (List.mem_cons_of_mem _ e)
    · have h0 := h2 (min a x) List.mem_cons_self
      rcases List.mem_cons.1 hy with e | e
      · omega
      · rcases List.mem_cons.1 e with e | e
        · omega
        · exact h2 y (List.mem_cons_of_mem _ e)
theorem fold_max : ∀ (r : List Nat) (a : Nat), r.foldl max a ∈ a :: r ∧ ∀ y ∈ a :: r, y ≤ r.foldl max a
  | [], a => by simp
  | x :: r, a => by
    obtain ⟨h1, h2⟩ := fold_max r (max a x)
    rw [List.foldl_cons]
    refine ⟨?_, fun y hy => ?_⟩
    · rcases List.mem_cons.1 h1 with e | e
      · rw [e]
        rcases Nat.le_total a x with c | c
        · rw [Nat.max_eq_right c]; simp
        · rw [Nat.max_eq_left c]; simp
      · exact List.mem_cons_of_mem _ (List.mem_cons_of_mem _ e)
    · have h0 := h2 (max a x) List.mem_cons_self
      rcases List.mem_cons.1 hy with e | e
      · omega
      · rcases List.mem_cons.1 e with e | e
        · omega
        · exact h2 y (List.mem_cons_of_mem _ e)
theorem mnl_ok {s : List Nat} (h : s ≠ []) : mnl s ∈ s ∧ ∀ y ∈ s, mnl s ≤ y := by
  cases s with
  | nil => exact absurd rfl h
  | cons a r => exact fold_min r a
theorem mxl_ok {s : List Nat} (h : s ≠ []) : mxl s ∈ s ∧ ∀ y ∈ s, y ≤ mxl s := by
  cases s with
  | nil => exact absurd rfl h
  | cons a r => exact fold_max r a
theorem nodup_len {α : Type} [DecidableEq α] : ∀ (m t : List α), m.Nodup → (∀ y ∈ m, y ∈ t) → m.length ≤ t.length
  | [], t, _, _ => Nat.zero_le _
  | a :: r, t, nd, sub => by
    obtain ⟨h1, h2⟩ := List.nodup_cons.1 nd
    have ha := sub a List.mem_cons_self
    have := nodup_len r (t.erase a) h2 fun y hy => by
      have : y ≠ a := fun e => h1 (e ▸ hy)
      exact (List.mem_erase_of_ne this).2 (sub y (List.mem_cons_of_mem _ hy))
    rw [List.length_erase_of_mem ha] at this
    have := List.length_pos_of_mem ha
    rw [List.length_cons]
    omega
theorem all_of_len {α : Type} [DecidableEq α] {m t : List α} (nm : m.Nodup) (sub : ∀ y ∈ m, y ∈ t) (len : t.length ≤ m.length) : ∀ y ∈ t, y ∈ m := fun y hy => by
  apply Classical.byContradiction
  intro ny
  have := nodup_len (y :: m) t (List.nodup_cons.2 ⟨ny, nm⟩) fun z hz => (List.mem_cons.1 hz).elim (fun e => e ▸ hy) (sub z)
  rw [List.length_cons] at this
  omega
/-- gapless, as the program and the law ask -/
def Gap (t : List Nat) : Prop := t ≠ [] ∧ mxl t + 1 = mnl t + t.length
theorem gap_of {t : List Nat} (nd : t.Nodup) (ne : t ≠ []) {c d : Nat} (into : ∀ x ∈ t, c ≤ x ∧ x < d) (onto : ∀ x, c ≤ x → x < d → x ∈ t) : mnl t = c ∧ mxl t + 1 = d ∧ t.length = d - c ∧ Gap t := by
  obtain ⟨h1, h2⟩ := mnl_ok ne
  obtain ⟨h3, h4⟩ := mxl_ok ne
  have a1 := into _ h1
  have a3 := into _ h3
  have b1 := h2 c (onto c (Nat.le_refl _) (by omega))
  have b3 := h4 (d - 1) (onto (d - 1) (by omega) (by omega))
  have l1 := nodup_len t (List.range' c (d - c)) nd fun y hy => by
    have := into y hy
    rw [List.mem_range'_1]; omega
  have l2 := nodup_len (List.range' c (d - c)) t List.nodup_range' fun y hy => by
    rw [List.mem_range'_1] at hy
    exact onto y hy.1 (by omega)
  rw [List.length_range'] at l1 l2
  exact ⟨by omega, by omega, by omega, ne, by omega⟩
theorem all_within {t : List Nat} (nd : t.Nodup) {c : Nat} (into : ∀ x ∈ t, c ≤ x ∧ x < c + t.length) : ∀ x, c ≤ x → x < c + t.length → x ∈ t := fun x h1 h2 =>
  all_of_len nd (t := List.range' c t.length) (fun y hy => by have := into y hy; rw [List.mem_range'_1]; omega) (by rw [List.length_range']; exact Nat.le_refl _) x (by rw [List.mem_range'_1]; omega)
theorem gap_all {t : List Nat} (nd : t.Nodup) (g : Gap t) : ∀ x, x ∈ t ↔ mnl t ≤ x ∧ x < mnl t + t.length := by
  obtain ⟨ne, e⟩ := g
  have h2 := (mnl_ok ne).2
  have h4 := (mxl_ok ne).2
  have into : ∀ x ∈ t, mnl t ≤ x ∧ x < mnl t + t.length := fun x hx => ⟨h2 x hx, by have := h4 x hx; omega⟩
  exact fun x => ⟨into x, fun h => all_within nd into x h.1 h.2⟩
/-! ### stretches -/
def sl (s : List Nat) (a b : Nat) : List Nat := (s.drop a).take (b - a)
def fn (s : List Nat) : Nat → Nat := fun k => s.getD k 0
theorem fn_at {s : List Nat} {k : Nat} (h : k < s.length) : s[k]? = some (fn s k) := by
  unfold fn
  rw [List.getD_eq_getElem?_getD, List.getElem?_eq_getElem h]
  rfl
theorem fn_inj {s : List Nat} (nd : s.Nodup) : Inj (fn s) s.length := fun i j hi hj e => by
  refine (List.getElem?_inj hi nd).1 ?_
  rw [fn_at hi, fn_at hj, e]
theorem sl_len {s : List Nat} {a b : Nat} (h : b ≤ s.length) : (sl s a b).length = b - a := by
  unfold sl
  rw [List.length_take, List.length_drop]
  omega
theorem sl_get {s : List Nat} {a b k : Nat} (h : k < b - a) : (sl s a b)[k]? = s[a + k]? := by
  unfold sl
  rw [List.getElem?_take_of_lt h, List.getElem?_drop]
theorem sl_mem {s : List Nat} {a b x : Nat} (hb : b ≤ s.length) : x ∈ sl s a b ↔ ∃ k, a ≤ k ∧ k < b ∧ fn s k = x := by
  constructor
  · intro h
    obtain ⟨k, hk, e⟩ := List.mem_iff_getElem.1 h
    rw [sl_len hb] at hk
    refine ⟨a + k, by omega, by omega, ?_⟩
    have e2 := sl_get (s := s) hk
    rw [List.getElem?_eq_getElem (by rw [sl_len hb]; exact hk), e, fn_at (by omega)] at e2
    exact (Option.some.inj e2).symm
  · rintro ⟨k, h1, h2, rfl⟩
    refine List.mem_of_getElem? (i := k - a) ?_
    rw [sl_get (by omega), show a + (k - a) = k by omega, fn_at (by omega)]
theorem sl_nodup {s : List Nat} (nd : s.Nodup) (a b : Nat) : (sl s a b).Nodup := nd.sublist ((List.take_sublist _ _).trans (List.drop_sublist _ _))
theorem sl_ne {s : List Nat} {a b : Nat} (hb : b ≤ s.length) (ab : a < b) : sl s a b ≠ [] := fun e => by
  have := sl_len (a := a) hb
  rw [e, List.length_nil] at this
  omega
theorem Bl.set {s : List Nat} {a b c d : Nat} (hb : b ≤ s.length) (h : Bl (fn s) a b c d) : (∀ x ∈ sl s a b, c ≤ x ∧ x < d) ∧ ∀ x, c ≤ x → x < d → x ∈ sl s a b :=
  ⟨fun x hx => by obtain ⟨k, k1, k2, rfl⟩ := (sl_mem hb).1 hx; exact h.into k k1 k2, fun x x1 x2 => (sl_mem hb).2 (h.onto x x1 x2)⟩
theorem sl_all (s : List Nat) : sl s 0 s.length = s := by unfold sl; simp
end KN
end
-- KC
section
set_option linter.all false
/-! KC: pieces between cuts -/
namespace KN
section
variable {s : List Nat} {a b c i j m : Nat} {cs : List Nat}
/-- ascending from a to m -/
def Asc (m : Nat) : Nat → List Nat → Prop
  | a, [] => a < m
  | a, c :: cs => a < c ∧ Asc m c cs
theorem Asc.lt : ∀ {cs : List Nat} {a : Nat}, Asc m a cs → a < m
  | [], a, h => h
  | c :: cs, a, h => Nat.lt_trans h.1 (Asc.lt h.2)
theorem Asc.mem : ∀ {cs : List Nat} {a : Nat}, Asc m a cs → ∀ c ∈ cs, a < c ∧ c < m
  | [], a, h, c, hc => nomatch hc
  | d :: cs, a, h, c, hc => by
    rcases List.mem_cons.1 hc with rfl | hc
    · exact ⟨h.1, h.2.lt⟩
    · have := h.2.mem c hc
      have := h.1
      omega
theorem sl_join (h1 : a ≤ b) (h2 : b ≤ c) : sl s a b ++ sl s b c = sl s a c := by
  unfold sl
  rw [show c - a = (b - a) + (c - b) by omega, List.take_add, List.drop_drop, show a + (b - a) = b by omega]
theorem sl_in (h1 : a ≤ i) (h2 : i ≤ j) (h3 : j ≤ b) : sl s a b = sl s a i ++ sl s i j ++ sl s j b := by
  rw [sl_join h1 h2, sl_join (Nat.le_trans h1 h2) h3]
end
/-- a stretch of a line -/
def Sg (s t : List Nat) : Prop := t ≠ [] ∧ ∃ a c, s = a ++ t ++ c
theorem sg_sl {s t : List Nat} : Sg s t ↔ ∃ i j, i < j ∧ j ≤ s.length ∧ t = sl s i j := by
  constructor
  · rintro ⟨ne, a, c, e⟩
    have := List.length_pos_iff.2 ne
    refine ⟨a.length, a.length + t.length, by omega, by rw [e, List.length_append, List.length_append]; omega, ?_⟩
    unfold sl
    rw [e, List.append_assoc, List.drop_left, show a.length + t.length - a.length = t.length by omega, List.take_left]
  · rintro ⟨i, j, h1, h2, rfl⟩
    refine ⟨sl_ne h2 h1, sl s 0 i, sl s j s.length, ?_⟩
    rw [← sl_in (Nat.zero_le _) (Nat.le_of_lt h1) h2, sl_all]
theorem Sg.sub {s t : List Nat} (h : Sg s t) : ∀ y ∈ t, y ∈ s := by
  obtain ⟨_, a, c, rfl⟩ := h
  intro y hy
  simp [hy]
theorem Sg.trans {s t u : List Nat} (h : Sg s t) (g : Sg t u) : Sg s u := by
  obtain ⟨_, a, c, rfl⟩ := h
  obtain ⟨ne, b, d, rfl⟩ := g
  exact ⟨ne, a ++ b, d ++ c, by simp⟩
theorem Sg.nodup {s t : List Nat} (h : Sg s t) (nd : s.Nodup) : t.Nodup := by
  obtain ⟨i, j, _, _, rfl⟩ := sg_sl.1 h
  exact sl_nodup nd i j
theorem Sg.len {s t : List Nat} (h : Sg s t) : t.length ≤ s.length := by
  obtain ⟨_, a, c, rfl⟩ := h
  simp
  omega
end KN
end
-- KD
section
set_option linter.all false
/-! KD: what a stretch falls into -/
namespace KN
def endsX (s : List Nat) (a : Nat) : List Nat := (List.range' (a + 1) (s.length - a)).filter fun b => decide (b - a < s.length) && decide (mxl (sl s a b) + 1 = mnl (sl s a b) + (sl s a b).length)
def nxt (s : List Nat) (a : Nat) : Nat := mxl (endsX s a)
def gr (s : List Nat) : Nat → Nat → List Nat
  | 0, _ => []
  | f + 1, a => if nxt s a < s.length then nxt s a :: gr s f (nxt s a) else []
structure Split (s : List Nat) (lin : Bool) (ps : List (List Nat)) : Prop where
  flat : ps.flatten = s
  two : 2 ≤ ps.length
  gap : ∀ p ∈ ps, Sg s p ∧ Gap p
  runs : ∀ t, Sg s t → Gap t → (∃ p ∈ ps, Sg p t) ∨ (lin = true ∧ ∃ A B C, ps = A ++ B ++ C ∧ 2 ≤ B.length ∧ t = B.flatten) ∨ t = s
  join : lin = true → ∀ A B C, ps = A ++ B ++ C → B ≠ [] → Gap B.flatten
section
variable {s : List Nat} {cs : List Nat}
theorem sg_within {i j p q : Nat} (h1 : p ≤ i) (h2 : i < j) (h3 : j ≤ q) (hq : q ≤ s.length) : Sg (sl s p q) (sl s i j) := ⟨sl_ne (by omega) h2, sl s p i, sl s j q, sl_in h1 (by omega) h3⟩
end
end KN
end
-- KE_
section
set_option linter.all false
/-! KE_: knots are the stretches that none overlaps -/
namespace KN
theorem pw_all {α : Type} {R : α → α → Prop} (sym : ∀ a b, R a b → R b a) : ∀ {l : List α}, l.Pairwise R → ∀ a ∈ l, ∀ b ∈ l, a ≠ b → R a b
  | [], _, a, ha, _, _, _ => nomatch ha
  | c :: l, h, a, ha, b, hb, ne => by
    obtain ⟨h1, h2⟩ := List.pairwise_cons.1 h
    rcases List.mem_cons.1 ha with e1 | ha1
    · rcases List.mem_cons.1 hb with e2 | hb1
      · exact absurd (e1.trans e2.symm) ne
      · exact e1 ▸ h1 b hb1
    · rcases List.mem_cons.1 hb with e2 | hb1
      · exact e2 ▸ sym _ _ (h1 a ha1)
      · exact pw_all sym h2 a ha1 b hb1 ne
theorem flat_apart {ps : List (List Nat)} (nd : ps.flatten.Nodup) {p q : List Nat} (hp : p ∈ ps) (hq : q ∈ ps) {x : Nat} (h1 : x ∈ p) (h2 : x ∈ q) : p = q := by
  apply Classical.byContradiction
  intro ne
  have := (List.pairwise_flatten.1 nd).2
  exact pw_all (R := fun l₁ l₂ => ∀ x ∈ l₁, ∀ y ∈ l₂, x ≠ y) (fun a b h x hx y hy e => h y hy x hx e.symm) this p hp q hq ne x h1 x h2 rfl
/-- two stretches overlap -/
def Ov (t u : List Nat) : Prop := (∃ x ∈ t, x ∈ u) ∧ (∃ x ∈ t, x ∉ u) ∧ ∃ x ∈ u, x ∉ t
/-- a gapless stretch that none overlaps -/
def St (s t : List Nat) : Prop := Sg s t ∧ Gap t ∧ ∀ u, Sg s u → Gap u → ¬ Ov t u
section
variable {s t u : List Nat} {l : Bool} {ps : List (List Nat)}
theorem sg_of_sub (nd : s.Nodup) (ht : Sg s t) (hu : Sg s u) (sub : ∀ x ∈ u, x ∈ t) : Sg t u := by
  obtain ⟨p, q, h1, h2, rfl⟩ := sg_sl.1 ht
  obtain ⟨i, j, h3, h4, rfl⟩ := sg_sl.1 hu
  have inj := fn_inj nd
  have at_ : ∀ k, i ≤ k → k < j → p ≤ k ∧ k < q := fun k k1 k2 => by
    obtain ⟨k', k3, k4, e⟩ := (sl_mem h2).1 (sub (fn s k) ((sl_mem h4).2 ⟨k, k1, k2, rfl⟩))
    have := inj k' k (by omega) (by omega) e
    omega
  have a1 := at_ i (Nat.le_refl _) h3
  have a2 := at_ (j - 1) (by omega) (by omega)
  exact sg_within a1.1 h3 (by omega) h2
end
end KN
end
-- KF
section
set_option linter.all false
/-! KF: knots in knots; the runs of a knot -/
namespace KN
section
variable {es s t u : List Nat} {l : Bool} {ps : List (List Nat)}
/-- a knot of a piece is one of the whole -/
theorem Split.up (sp : Split s l ps) (nd : s.Nodup) {p : List Nat} (hp : p ∈ ps) (h : St p t) : St s t := by
  have ndf : ps.flatten.Nodup := by rw [sp.flat]; exact nd
  have gp := sp.gap p hp
  refine ⟨gp.1.trans h.1, h.2.1, fun u hu gu o => ?_⟩
  obtain ⟨⟨x, x1, x2⟩, ⟨y, y1, y2⟩, _⟩ := id o
  rcases sp.runs u hu gu with ⟨q, hq, hqu⟩ | ⟨_, A, B, C, e, _, rfl⟩ | rfl
  · obtain rfl := flat_apart ndf hp hq (h.1.sub x x1) (hqu.sub x x2)
    exact h.2.2 u hqu gu o
  · obtain ⟨w, hw, hx⟩ := List.mem_flatten.1 x2
    obtain rfl := flat_apart ndf hp (by rw [e]; simp [hw]) (h.1.sub x x1) hx
    exact y2 (List.mem_flatten.2 ⟨p, hw, h.1.sub y y1⟩)
  · exact y2 (gp.1.sub y (h.1.sub y y1))
theorem St.low (nd : es.Nodup) (hs : St es s) (ht : St es t) (sub : ∀ x ∈ t, x ∈ s) : St s t :=
  ⟨sg_of_sub nd hs.1 ht.1 sub, ht.2.1, fun u hu gu => ht.2.2 u (hs.1.trans hu) gu⟩
/-- two knots lie apart, or one in the other -/
theorem St.two (hs : St es s) (ht : St es t) {x : Nat} (h1 : x ∈ s) (h2 : x ∈ t) : (∀ y ∈ s, y ∈ t) ∨ ∀ y ∈ t, y ∈ s := by
  by_cases a : ∃ y ∈ s, y ∉ t
  · refine .inr fun y hy => Classical.byContradiction fun n => ?_
    exact hs.2.2 t ht.1 ht.2.1 ⟨⟨x, h1, h2⟩, a, y, hy, n⟩
  · exact .inl fun y hy => Classical.byContradiction fun n => a ⟨y, hy, n⟩
/-! ### in which order the pieces stand -/
end
end KN
end
-- KG
section
set_option Elab.async false
set_option linter.all false
/-! KG: pieces in the order of the catalogue -/
namespace KN
theorem mnl_set {s t : List Nat} (ne : s ≠ []) (h : ∀ x, x ∈ s ↔ x ∈ t) : mnl s = mnl t := by
  have nt : t ≠ [] := fun e => by
    obtain ⟨x, hx⟩ := List.exists_mem_of_ne_nil s ne
    have := (h x).1 hx
    rw [e] at this
    cases this
  have a := mnl_ok ne
  have b := mnl_ok nt
  have := a.2 _ ((h _).2 b.1)
  have := b.2 _ ((h _).1 a.1)
  omega
theorem mxl_set {s t : List Nat} (ne : s ≠ []) (h : ∀ x, x ∈ s ↔ x ∈ t) : mxl s = mxl t := by
  have nt : t ≠ [] := fun e => by
    obtain ⟨x, hx⟩ := List.exists_mem_of_ne_nil s ne
    have := (h x).1 hx
    rw [e] at this
    cases this
  have a := mxl_ok ne
  have b := mxl_ok nt
  have := a.2 _ ((h _).2 b.1)
  have := b.2 _ ((h _).1 a.1)
  omega
theorem Gap.perm {s t : List Nat} (g : Gap s) (p : s.Perm t) : Gap t := by
  have e1 := mnl_set g.1 fun x => p.mem_iff
  have e2 := mxl_set g.1 fun x => p.mem_iff
  have l := p.length_eq
  have := g.2
  refine ⟨fun e => g.1 ?_, by omega⟩
  rw [e] at p
  exact List.perm_nil.1 p
/-- pieces one behind the other by the catalogue -/
structure InCat (qs : List (List Nat)) : Prop where
  ne : ∀ q ∈ qs, q ≠ []
  nd : qs.flatten.Nodup
  pw : qs.Pairwise fun p q => ∀ x ∈ p, ∀ y ∈ q, x < y
  gap : ∀ A B C, qs = A ++ B ++ C → B ≠ [] → Gap B.flatten
section
variable {qs A B C r : List (List Nat)} {q s : List Nat}
theorem InCat.sub (h : InCat qs) (e : qs = A ++ B ++ C) : InCat B := by
  subst e
  refine ⟨fun q hq => h.ne q (List.mem_append_left _ (List.mem_append_right _ hq)), ?_, ?_, fun A' B' C' e ne => h.gap (A ++ A') B' (C' ++ C) (by rw [e]; simp) ne⟩
  · have := h.nd
    rw [List.flatten_append, List.flatten_append] at this
    exact (List.nodup_append.1 (List.nodup_append.1 this).1).2.1
  · exact (List.pairwise_append.1 (List.pairwise_append.1 h.pw).1).2.1
theorem InCat.low (h : InCat (q :: r)) : ∀ x ∈ q, ∀ y ∈ r.flatten, x < y := fun x hx y hy => by
  obtain ⟨p, hp, hy⟩ := List.mem_flatten.1 hy
  exact (List.pairwise_cons.1 h.pw).1 p hp x hx y hy
theorem InCat.first (h : InCat (q :: r)) : mnl (q :: r).flatten = mnl q := by
  have nq := h.ne q List.mem_cons_self
  have a := mnl_ok nq
  have b := mnl_ok (s := (q :: r).flatten) fun e => nq (by rw [List.flatten_cons] at e; exact (List.append_eq_nil_iff.1 e).1)
  have h1 := b.2 (mnl q) (by rw [List.flatten_cons]; exact List.mem_append_left _ a.1)
  have hb := b.1
  rw [List.flatten_cons] at hb
  rcases List.mem_append.1 hb with z | z
  · have := a.2 _ z
    rw [List.flatten_cons] at h1 ⊢
    omega
  · have := h.low _ a.1 _ z
    rw [List.flatten_cons] at h1
    omega
theorem InCat.next (h : InCat (q :: r)) (ne : r ≠ []) : mnl r.flatten = mnl q + q.length := by
  have nq := h.ne q List.mem_cons_self
  have gq : Gap q := by have := h.gap [] [q] r (by simp) (by simp); simpa using this
  have gw : Gap (q :: r).flatten := h.gap [] (q :: r) [] (by simp) (by simp)
  have gr : Gap r.flatten := h.gap [q] r [] (by simp) ne
  have nd := h.nd
  have ndq : q.Nodup := by rw [List.flatten_cons] at nd; exact (List.nodup_append.1 nd).1
  have cq := gap_all ndq gq
  have cw := gap_all nd gw
  have e := h.first
  rw [e] at cw
  have lw : (q :: r).flatten.length = q.length + r.flatten.length := by rw [List.flatten_cons, List.length_append]
  rw [lw] at cw
  have lr : 0 < r.flatten.length := List.length_pos_iff.2 gr.1
  have mr := mnl_ok gr.1
  have inW : ∀ x, x ∈ (q :: r).flatten ↔ x ∈ q ∨ x ∈ r.flatten := fun x => by rw [List.flatten_cons, List.mem_append]
  have h1 := (cw _).1 ((inW _).2 (.inr mr.1))
  have h2 : ¬ (mnl q ≤ mnl r.flatten ∧ mnl r.flatten < mnl q + q.length) := fun z => by
    have := h.low _ ((cq _).2 z) _ mr.1
    omega
  have h3 : mnl q + q.length ∈ (q :: r).flatten := (cw _).2 ⟨by omega, by omega⟩
  rcases (inW _).1 h3 with z | z
  · have := (cq _).1 z
    omega
  · have := mr.2 _ z
    omega
end
end KN
end
-- KH
-- KJ
section
set_option Elab.async false
set_option linter.all false
/-! KJ: a sign by the ends; runs that are no knots -/
namespace KN
/-- whether a stretch's first is less than its last -/
def upS (s : List Nat) : Bool := match s.head?, s.getLast? with
  | some a, some z => decide (a < z)
  | _, _ => true
section
variable {es s u : List Nat} {ps : List (List Nat)} {R : Nat → Nat → Prop}
theorem up_of {a z : Nat} (h1 : s.head? = some a) (h2 : s.getLast? = some z) : upS s = decide (a < z) := by
  unfold upS
  rw [h1, h2]
end
end KN
end
-- KL
section
set_option Elab.async false
set_option linter.all false
/-! KL: what stands awry when one thing is turned, by the order alone -/
namespace KN
section
variable {X : Type} {lt : X → X → Prop} {N N' : X → Prop} {up up' : X → Bool} {t : X}
/-- the least of N strictly above K -/
def Par (lt : X → X → Prop) (N : X → Prop) (K P : X) : Prop := N P ∧ lt K P ∧ ∀ Q, N Q → lt K Q → P = Q ∨ lt P Q
/-- K is of N and looks otherwise than what is around -/
def Awr (lt : X → X → Prop) (N : X → Prop) (up : X → Bool) (K : X) : Prop := N K ∧ (((¬ ∃ P, Par lt N K P) ∧ up K = false) ∨ ∃ P, Par lt N K P ∧ up K ≠ up P)
structure Tog (lt : X → X → Prop) (N N' : X → Prop) (up up' : X → Bool) (t : X) : Prop where
  irr : ∀ a, ¬ lt a a
  tr : ∀ {a b c}, lt a b → lt b c → lt a c
  same : ∀ K, K ≠ t → (N K ↔ N' K)
  out : ∀ K, N K → K ≠ t → ¬ lt K t → up' K = up K
  inn : ∀ K, N K → lt K t → up' K = !up K
  self : up' t = !up t
  par : ∀ K, N K → (∃ Q, N Q ∧ lt K Q) → ∃ P, Par lt N K P
  par' : ∀ K, N' K → (∃ Q, N' Q ∧ lt K Q) → ∃ P, Par lt N' K P
  str : ¬ N t → ∃ V, Par lt N t V ∧ up t = up V
  str' : ¬ N' t → ∃ V, Par lt N' t V ∧ up' t = up' V
  nest : ∀ K P, N K → lt K t → N P → lt K P → lt P t ∨ P = t ∨ lt t P
theorem Tog.ne (T : Tog lt N N' up up' t) {a b : X} (h : lt a b) : a ≠ b := fun e => T.irr b (e ▸ h)
theorem Tog.anti (T : Tog lt N N' up up' t) {a b : X} (h1 : a = b ∨ lt a b) (h2 : b = a ∨ lt b a) : a = b := by
  rcases h1 with h1 | h1
  · exact h1
  · rcases h2 with h2 | h2
    · exact h2.symm
    · exact absurd (T.tr h1 h2) (T.irr a)
theorem Tog.uniq (T : Tog lt N N' up up' t) {M : X → Prop} {K P Q : X} (h : Par lt M K P) (h' : Par lt M K Q) : P = Q := T.anti (h.2.2 Q h'.1 h'.2.1) (h'.2.2 P h.1 h.2.1)
theorem Tog.swap (T : Tog lt N N' up up' t) : Tog lt N' N up' up t where
  irr := T.irr
  tr := T.tr
  same := fun K ne => (T.same K ne).symm
  out := fun K h ne nl => (T.out K ((T.same K ne).2 h) ne nl).symm
  inn := fun K h l => by rw [T.inn K ((T.same K (T.ne l)).2 h) l, Bool.not_not]
  self := by rw [T.self, Bool.not_not]
  par := T.par'
  par' := T.par
  str := T.str'
  str' := T.str
  nest := fun K P h l hP lP => by
    by_cases e : P = t
    · exact .inr (.inl e)
    · exact T.nest K P ((T.same K (T.ne l)).2 h) l ((T.same P e).2 hP) lP
theorem Tog.either (T : Tog lt N N' up up' t) : N t ∨ N' t := by
  apply Classical.byContradiction
  intro h
  have h1 : ¬ N t := fun z => h (.inl z)
  have h2 : ¬ N' t := fun z => h (.inr z)
  obtain ⟨V, p, e⟩ := T.str h1
  obtain ⟨V', p', e'⟩ := T.str' h2
  have nV : V ≠ t := (T.ne p.2.1).symm
  have nV' : V' ≠ t := (T.ne p'.2.1).symm
  have : V = V' := T.anti (p.2.2 V' ((T.same V' nV').2 p'.1) p'.2.1) (p'.2.2 V ((T.same V nV).1 p.1) p.2.1)
  subst this
  have := T.out V p.1 nV fun l => T.irr t (T.tr p.2.1 l)
  rw [this, T.self, e] at e'
  cases q : up V <;> rw [q] at e' <;> cases e'
theorem Tog.one (T : Tog lt N N' up up' t) (h' : N' t) (K : X) : Awr lt N' up' K ↔ (Awr lt N up K ∧ K ≠ t) ∨ (¬ Awr lt N up K ∧ K = t) := by
  by_cases e : K = t
  · subst e
    have out : ∀ {P : X}, N P → lt K P → up' P = up P := fun hP l => T.out _ hP (T.ne l).symm fun z => T.irr K (T.tr l z)
    have pp : ∀ P, Par lt N' K P ↔ Par lt N K P := fun P => by
      constructor
      · rintro ⟨a, b, c⟩
        exact ⟨(T.same P (T.ne b).symm).2 a, b, fun Q hQ l => c Q ((T.same Q (T.ne l).symm).1 hQ) l⟩
      · rintro ⟨a, b, c⟩
        exact ⟨(T.same P (T.ne b).symm).1 a, b, fun Q hQ l => c Q ((T.same Q (T.ne l).symm).2 hQ) l⟩
    have key : Awr lt N' up' K ↔ ¬ Awr lt N up K := by
      by_cases hN : N K
      · by_cases hp : ∃ P, Par lt N K P
        · obtain ⟨P, hP⟩ := hp
          have a : Awr lt N up K ↔ up K ≠ up P := by
            constructor
            · rintro ⟨_, ⟨h, _⟩ | ⟨Q, hQ, h⟩⟩
              · exact absurd ⟨P, hP⟩ h
              · rw [T.uniq hP hQ]; exact h
            · exact fun h => ⟨hN, .inr ⟨P, hP, h⟩⟩
          have b : Awr lt N' up' K ↔ up' K ≠ up' P := by
            constructor
            · rintro ⟨_, ⟨h, _⟩ | ⟨Q, hQ, h⟩⟩
              · exact absurd ⟨P, (pp P).2 hP⟩ h
              · rw [T.uniq ((pp P).2 hP) hQ]; exact h
            · exact fun h => ⟨h', .inr ⟨P, (pp P).2 hP, h⟩⟩
          rw [a, b, out hP.1 hP.2.1, T.self]
          cases up K <;> cases up P <;> decide
        · have a : Awr lt N up K ↔ up K = false := by
            constructor
            · rintro ⟨_, ⟨_, h⟩ | ⟨Q, hQ, _⟩⟩
              · exact h
              · exact absurd ⟨Q, hQ⟩ hp
            · exact fun h => ⟨hN, .inl ⟨hp, h⟩⟩
          have b : Awr lt N' up' K ↔ up' K = false := by
            constructor
            · rintro ⟨_, ⟨_, h⟩ | ⟨Q, hQ, _⟩⟩
              · exact h
              · exact absurd ⟨Q, (pp Q).1 hQ⟩ hp
            · exact fun h => ⟨h', .inl ⟨fun ⟨Q, hQ⟩ => hp ⟨Q, (pp Q).1 hQ⟩, h⟩⟩
          rw [a, b, T.self]
          cases up K <;> decide
      · obtain ⟨V, hV, eV⟩ := T.str hN
        refine ⟨fun _ z => hN z.1, fun _ => ⟨h', .inr ⟨V, (pp V).2 hV, ?_⟩⟩⟩
        rw [out hV.1 hV.2.1, T.self, eV]
        cases up V <;> decide
    rw [key]
    simp
  · have goal : Awr lt N' up' K ↔ Awr lt N up K := by
      by_cases hN : N K
      · have hN' := (T.same K e).1 hN
        by_cases l : lt K t
        · -- below t
          have two : ∃ P P', Par lt N K P ∧ Par lt N' K P' ∧ (up K ≠ up P ↔ up' K ≠ up' P') := by
            by_cases hT : N t
            · obtain ⟨P, hP⟩ := T.par K hN ⟨t, hT, l⟩
              have all : ∀ Q, N Q ↔ N' Q := fun Q => by
                by_cases z : Q = t
                · rw [z]; exact ⟨fun _ => h', fun _ => hT⟩
                · exact T.same Q z
              refine ⟨P, P, hP, ⟨(all P).1 hP.1, hP.2.1, fun Q hQ => hP.2.2 Q ((all Q).2 hQ)⟩, ?_⟩
              rw [T.inn K hN l]
              have : up' P = !up P := by
                rcases hP.2.2 t hT l with z | z
                · rw [z]; exact T.self
                · exact T.inn P hP.1 z
              rw [this]
              cases up K <;> cases up P <;> decide
            · obtain ⟨V, hV, eV⟩ := T.str hT
              obtain ⟨P, hP⟩ := T.par K hN ⟨V, hV.1, T.tr l hV.2.1⟩
              rcases T.nest K P hN l hP.1 hP.2.1 with z | z | z
              · refine ⟨P, P, hP, ⟨(T.same P (T.ne z)).1 hP.1, hP.2.1, fun Q hQ lQ => ?_⟩, ?_⟩
                · by_cases q : Q = t
                  · rw [q]; exact .inr z
                  · exact hP.2.2 Q ((T.same Q q).2 hQ) lQ
                · rw [T.inn K hN l, T.inn P hP.1 z]
                  cases up K <;> cases up P <;> decide
              · exact absurd (z ▸ hP.1) hT
              · have eP : P = V := T.anti (hP.2.2 V hV.1 (T.tr l hV.2.1)) (hV.2.2 P hP.1 z)
                refine ⟨P, t, hP, ⟨h', l, fun Q hQ lQ => ?_⟩, ?_⟩
                · by_cases q : Q = t
                  · exact .inl q.symm
                  · right
                    rcases hP.2.2 Q ((T.same Q q).2 hQ) lQ with w | w
                    · exact w ▸ z
                    · exact T.tr z w
                · rw [T.inn K hN l, T.self, eV, ← eP]
                  cases up K <;> cases up P <;> decide
          obtain ⟨P, P', hP, hP', iff⟩ := two
          constructor
          · rintro ⟨_, ⟨h, _⟩ | ⟨Q, hQ, h⟩⟩
            · exact absurd ⟨P', hP'⟩ h
            · exact ⟨hN, .inr ⟨P, hP, iff.2 (by rw [T.uniq hP' hQ]; exact h)⟩⟩
          · rintro ⟨_, ⟨h, _⟩ | ⟨Q, hQ, h⟩⟩
            · exact absurd ⟨P, hP⟩ h
            · exact ⟨hN', .inr ⟨P', hP', iff.1 (by rw [T.uniq hP hQ]; exact h)⟩⟩
        · have pp : ∀ P, Par lt N' K P ↔ Par lt N K P := fun P => by
            have nt : ∀ {Q}, lt K Q → Q ≠ t := fun lQ z => l (z ▸ lQ)
            constructor
            · rintro ⟨a, b, c⟩
              exact ⟨(T.same P (nt b)).2 a, b, fun Q hQ lQ => c Q ((T.same Q (nt lQ)).1 hQ) lQ⟩
            · rintro ⟨a, b, c⟩
              exact ⟨(T.same P (nt b)).1 a, b, fun Q hQ lQ => c Q ((T.same Q (nt lQ)).2 hQ) lQ⟩
          have u1 := T.out K hN e l
          have u2 : ∀ {P}, Par lt N K P → up' P = up P := fun hP => T.out _ hP.1 (fun z => l (z ▸ hP.2.1)) fun z => l (T.tr hP.2.1 z)
          unfold Awr
          rw [u1]
          refine and_congr ⟨fun _ => hN, fun _ => hN'⟩ (or_congr (and_congr (not_congr (exists_congr pp)) Iff.rfl) (exists_congr fun P => ?_))
          rw [pp P]
          exact and_congr_right fun hP => by rw [u2 hP]
      · exact ⟨fun z => absurd ((T.same K e).2 z.1) hN, fun z => absurd z.1 hN⟩
    rw [goal]
    exact ⟨fun h => .inl ⟨h, e⟩, fun h => h.elim (fun z => z.1) fun z => absurd z.2 e⟩
/-- a turn changes just the turned thing itself -/
theorem Tog.all (T : Tog lt N N' up up' t) (K : X) : Awr lt N' up' K ↔ (Awr lt N up K ∧ K ≠ t) ∨ (¬ Awr lt N up K ∧ K = t) := by
  rcases T.either with h | h
  · have := T.swap.one h K
    by_cases e : K = t
    · simp only [e, ne_eq, not_true_eq_false, and_false, and_true, false_or] at this ⊢
      rw [this, Classical.not_not]
    · simp only [e, ne_eq, not_false_eq_true, and_true, and_false, or_false] at this ⊢
      exact this.symm
  · exact T.one h K
end
end KN
end
-- KM
section
set_option Elab.async false
set_option linter.all false
/-! KM: stretches of rows that are put together from blocks -/
namespace KN
section
variable {f : Nat → List Nat}
/-- a front part of blocks one after the other -/
theorem front_of : ∀ {l s c : List Nat}, l.flatMap f = s ++ c → s ≠ [] → (∀ r ∈ l, f r ≠ []) → ∃ M q c', l = M ++ [q] ++ c' ∧ (∃ z, s.getLast? = some z ∧ z ∈ f q) ∧ (∀ r ∈ M ++ [q], ∃ x ∈ f r, x ∈ s) ∧ ∀ x ∈ s, ∃ r ∈ M ++ [q], x ∈ f r
  | [], s, c, e, ne, _ => absurd (List.append_eq_nil_iff.1 e.symm).1 ne
  | r :: l, s, c, e, ne, h => by
    rw [List.flatMap_cons] at e
    have nr := h r List.mem_cons_self
    have one : ∀ {w : List Nat}, f r = s ++ w → ∃ M q c', r :: l = M ++ [q] ++ c' ∧ (∃ z, s.getLast? = some z ∧ z ∈ f q) ∧ (∀ r ∈ M ++ [q], ∃ x ∈ f r, x ∈ s) ∧ ∀ x ∈ s, ∃ r ∈ M ++ [q], x ∈ f r := fun {w} e2 => by
      refine ⟨[], r, l, rfl, ⟨s.getLast ne, List.getLast?_eq_some_getLast ne, by rw [e2]; exact List.mem_append_left _ (List.getLast_mem ne)⟩, fun q hq => ?_, fun x hx => ⟨r, by simp, by rw [e2]; exact List.mem_append_left _ hx⟩⟩
      obtain rfl : q = r := by simpa using hq
      exact ⟨s.head ne, by rw [e2]; exact List.mem_append_left _ (List.head_mem ne), List.head_mem ne⟩
    rcases List.append_eq_append_iff.1 e with ⟨w, e1, e2⟩ | ⟨w, e1, e2⟩
    · by_cases nw : w = []
      · rw [nw, List.append_nil] at e1
        exact one (w := []) (by rw [e1, List.append_nil])
      · obtain ⟨M, q, c', h1, ⟨z, h2, h3⟩, h4, h5⟩ := front_of e2 nw fun p hp => h p (List.mem_cons_of_mem _ hp)
        refine ⟨r :: M, q, c', by rw [h1]; rfl, ⟨z, by rw [e1, List.getLast?_append, h2]; rfl, h3⟩, fun p hp => ?_, fun x hx => ?_⟩
        · rcases List.mem_cons.1 hp with rfl | hp
          · exact ⟨(f p).head nr, List.head_mem nr, by rw [e1]; exact List.mem_append_left _ (List.head_mem nr)⟩
          · obtain ⟨x, x1, x2⟩ := h4 p hp
            exact ⟨x, x1, by rw [e1]; exact List.mem_append_right _ x2⟩
        · rw [e1] at hx
          rcases List.mem_append.1 hx with hx | hx
          · exact ⟨r, List.mem_cons_self, hx⟩
          · obtain ⟨p, p1, p2⟩ := h5 x hx
            exact ⟨p, List.mem_cons_of_mem _ p1, p2⟩
    · exact one e1
/-- a stretch lies in one block, or reaches from one to a later one -/
theorem stretch_of : ∀ {l a s c : List Nat}, l.flatMap f = a ++ s ++ c → s ≠ [] → (∀ r ∈ l, f r ≠ []) → (∃ q ∈ l, Sg (f q) s) ∨ ∃ A p M q c', l = A ++ (p :: (M ++ [q])) ++ c' ∧ (∃ h, s.head? = some h ∧ h ∈ f p) ∧ (∃ z, s.getLast? = some z ∧ z ∈ f q) ∧ (∀ r ∈ p :: (M ++ [q]), ∃ x ∈ f r, x ∈ s) ∧ ∀ x ∈ s, ∃ r ∈ p :: (M ++ [q]), x ∈ f r
  | [], a, s, c, e, ne, _ => by
    have : s = [] := (List.append_eq_nil_iff.1 (List.append_eq_nil_iff.1 e.symm).1).2
    exact absurd this ne
  | r :: l, a, s, c, e, ne, h => by
    rw [List.flatMap_cons, List.append_assoc] at e
    have up : ∀ {a'}, l.flatMap f = a' ++ s ++ c → (∃ q ∈ r :: l, Sg (f q) s) ∨ ∃ A p M q c', r :: l = A ++ (p :: (M ++ [q])) ++ c' ∧ (∃ h, s.head? = some h ∧ h ∈ f p) ∧ (∃ z, s.getLast? = some z ∧ z ∈ f q) ∧ (∀ r ∈ p :: (M ++ [q]), ∃ x ∈ f r, x ∈ s) ∧ ∀ x ∈ s, ∃ r ∈ p :: (M ++ [q]), x ∈ f r := fun {a'} e' => by
      rcases stretch_of e' ne fun p hp => h p (List.mem_cons_of_mem _ hp) with ⟨q, h1, h2⟩ | ⟨A, p, M, q, c', h1, h2⟩
      · exact .inl ⟨q, List.mem_cons_of_mem _ h1, h2⟩
      · exact .inr ⟨r :: A, p, M, q, c', by rw [h1]; rfl, h2⟩
    rcases List.append_eq_append_iff.1 e with ⟨w, e1, e2⟩ | ⟨b, e1, e2⟩
    · exact up (by rw [e2, List.append_assoc])
    · by_cases nb : b = []
      · rw [nb, List.nil_append] at e2
        exact up (a' := []) (by rw [← e2, List.nil_append])
      · rcases List.append_eq_append_iff.1 e2 with ⟨w, e3, e4⟩ | ⟨w, e3, e4⟩
        · -- b = s ++ w
          exact .inl ⟨r, List.mem_cons_self, ne, a, w, by rw [e1, e3, List.append_assoc]⟩
        · -- s = b ++ w
          by_cases nw : w = []
          · rw [nw, List.append_nil] at e3
            exact .inl ⟨r, List.mem_cons_self, ne, a, [], by rw [e1, e3, List.append_nil]⟩
          · obtain ⟨M, q, c', h1, ⟨z, h2, h3⟩, h4, h5⟩ := front_of e4 nw fun p hp => h p (List.mem_cons_of_mem _ hp)
            refine .inr ⟨[], r, M, q, c', by rw [h1]; simp, ⟨b.head nb, ?_, by rw [e1]; exact List.mem_append_right _ (List.head_mem nb)⟩, ⟨z, by rw [e3, List.getLast?_append, h2]; rfl, h3⟩, fun p hp => ?_, fun x hx => ?_⟩
            · rw [e3, List.head?_append, List.head?_eq_some_head nb]
              rfl
            · rcases List.mem_cons.1 hp with rfl | hp
              · exact ⟨b.head nb, by rw [e1]; exact List.mem_append_right _ (List.head_mem nb), by rw [e3]; exact List.mem_append_left _ (List.head_mem nb)⟩
              · obtain ⟨x, x1, x2⟩ := h4 p hp
                exact ⟨x, x1, by rw [e3]; exact List.mem_append_right _ x2⟩
            · rw [e3] at hx
              rcases List.mem_append.1 hx with hx | hx
              · exact ⟨r, List.mem_cons_self, by rw [e1]; exact List.mem_append_right _ hx⟩
              · obtain ⟨p, p1, p2⟩ := h5 x hx
                exact ⟨p, List.mem_cons_of_mem _ p1, p2⟩
/-- each run of a row of numbers rises -/
def UpN (l : List Nat) : Prop := ∀ s, Sg l s → Gap s → 2 ≤ s.length → upS s = true
/-- blocks in the order of numbers: each run rises if the numbers' do and those within each block do -/
theorem up_blocks {l : List Nat} {f : Nat → List Nat} (ne : ∀ r ∈ l, f r ≠ []) (ndl : l.Nodup) (nd : (l.flatMap f).Nodup) (lt : ∀ p ∈ l, ∀ q ∈ l, p < q → ∀ x ∈ f p, ∀ y ∈ f q, x < y) (all : ∀ m ∈ l, ∀ M ∈ l, ∀ r, m ≤ r → r ≤ M → r ∈ l)
    (nums : UpN l) (within : ∀ q ∈ l, UpN (f q)) : UpN (l.flatMap f) := by
  rintro s ⟨nes, a, c, e⟩ g two
  have sg : Sg (l.flatMap f) s := ⟨nes, a, c, e⟩
  rcases stretch_of e nes ne with ⟨q, hq, sgq⟩ | ⟨A, p, M, q, c', h1, ⟨h, e1, hp⟩, ⟨z, e2, hz⟩, h4, h5⟩
  · exact within q hq s sgq g two
  · have inl : ∀ r ∈ p :: (M ++ [q]), r ∈ l := fun r hr => by
      rw [h1]
      exact List.mem_append_left _ (List.mem_append_right _ hr)
    have ga := gap_all (sg.nodup nd) g
    have ndM : (p :: (M ++ [q])).Nodup := by
      rw [h1] at ndl
      exact (List.nodup_append.1 (List.nodup_append.1 ndl).1).2.1
    have neM : p :: (M ++ [q]) ≠ [] := by simp
    have uniq : ∀ r ∈ l, ∀ r' ∈ l, ∀ x, x ∈ f r → x ∈ f r' → r = r' := fun r hr r' hr' x hx hx' => by
      apply Decidable.byContradiction
      intro nn
      rcases Nat.lt_or_gt_of_ne nn with w | w
      · exact Nat.lt_irrefl _ (lt r hr r' hr' w x hx x hx')
      · exact Nat.lt_irrefl _ (lt r' hr' r hr w x hx' x hx)
    have onto : ∀ r, mnl (p :: (M ++ [q])) ≤ r → r < mxl (p :: (M ++ [q])) + 1 → r ∈ p :: (M ++ [q]) := fun r r1 r2 => by
      obtain ⟨i1, _⟩ := mnl_ok neM
      obtain ⟨i2, _⟩ := mxl_ok neM
      by_cases w1 : r = mnl (p :: (M ++ [q]))
      · rw [w1]; exact i1
      · by_cases w2 : r = mxl (p :: (M ++ [q]))
        · rw [w2]; exact i2
        · have hr := all _ (inl _ i1) _ (inl _ i2) r r1 (by omega)
          obtain ⟨y, hy⟩ := List.exists_mem_of_ne_nil _ (ne r hr)
          obtain ⟨x1, y1, z1⟩ := h4 _ i1
          obtain ⟨x2, y2, z2⟩ := h4 _ i2
          have l1 := lt _ (inl _ i1) r hr (by omega) x1 y1 y hy
          have l2 := lt r hr _ (inl _ i2) (by omega) y hy x2 y2
          have b1 := (ga x1).1 z1
          have b2 := (ga x2).1 z2
          obtain ⟨r', hr', y'⟩ := h5 y ((ga y).2 ⟨by omega, by omega⟩)
          rw [uniq r hr r' (inl r' hr') y hy y']
          exact hr'
    have gM : Gap (p :: (M ++ [q])) := (gap_of ndM neM (c := mnl (p :: (M ++ [q]))) (d := mxl (p :: (M ++ [q])) + 1) (fun x hx => ⟨(mnl_ok neM).2 x hx, by have := (mxl_ok neM).2 x hx; omega⟩) onto).2.2.2
    have u := nums (p :: (M ++ [q])) ⟨neM, A, c', h1⟩ gM (by simp)
    have hl : (p :: (M ++ [q])).getLast? = some q := by rw [← List.cons_append, List.getLast?_append]; rfl
    rw [up_of rfl hl] at u
    rw [up_of e1 e2]
    exact decide_eq_true (lt p (inl p (by simp)) q (inl q (by simp)) (of_decide_eq_true u) h hp z hz)
end
end KN
end
-- T6
section
set_option Elab.async false
set_option linter.all false
set_option maxRecDepth 100000
set_option maxHeartbeats 4100000
/-! T6: the nodes of a drawn core, as numbers -/
variable [TL.Tb]
namespace TL
open L2 PyProof.Rows PySem PySem.Spec TS RZ
/-- a node: its kind, its first entry, how many books, its parts, their order -/
structure Nd where
  k : Str
  st : Nat
  m : Nat
  ps : List Nat
  nums : List Nat
/-- the nodes' stretches -/
def ivs (ns : List Nd) : List (Nat × Nat) := ns.map fun n => (n.st, n.m)
/-- some stretches follow one another from s to e -/
def Chain (iv : List (Nat × Nat)) : Nat → List Nat → Nat → Prop
  | s, [], e => s = e
  | s, j :: js, e => ∃ m, iv[j]? = some (s, m) ∧ 1 ≤ m ∧ Chain iv (s + m) js e
theorem Chain.mono {iv iv' : List (Nat × Nat)} (h : ∀ (j : Nat) (x : Nat × Nat), iv[j]? = some x → iv'[j]? = some x) : ∀ {ps : List Nat} {s e : Nat}, Chain iv s ps e → Chain iv' s ps e
  | [], _, _, c => c
  | _ :: _, _, _, ⟨m, h1, h2, c⟩ => ⟨m, h _ _ h1, h2, c.mono h⟩
/-- a node that has been seen -/
def Seen (iv : List (Nat × Nat)) (n : Nd) : Prop := (n.m = 1 ∧ n.ps = [] ∧ n.k ≠ "heap") ∨ (2 ≤ n.m ∧ 2 ≤ n.ps.length ∧ Chain iv n.st n.ps (n.st + n.m) ∧ n.nums.Perm (List.range n.ps.length) ∧ ((n.k = "heap" → n.nums = List.range n.ps.length) ∧ KN.UpN n.nums ∧ (n.k = "heap" ∨ n.k = "crossed")))
theorem Seen.mono {iv iv' : List (Nat × Nat)} (h : ∀ (j : Nat) (x : Nat × Nat), iv[j]? = some x → iv'[j]? = some x) {n : Nd} : Seen iv n → Seen iv' n
  | .inl z => .inl z
  | .inr ⟨a, b, c, d, e⟩ => .inr ⟨a, b, c.mono h, d, e⟩
/-- no stretch of two or more but the whole is without a gap -/
def SimL (l : List Nat) : Prop := ∀ A C D, l = A ++ C ++ D → 2 ≤ C.length → KN.Gap C → A = [] ∧ D = []
/-- a list of nodes, all ahead of i seen -/
structure Ok (size i : Nat) (ns : List Nd) : Prop where
  all : ∀ n ∈ ns, 1 ≤ n.m ∧ n.st + n.m ≤ size ∧ (n.k = "crossed" → 4 ≤ n.m)
  seen : ∀ j n, j < i → ns[j]? = some n → Seen (ivs ns) n
  new : ∀ j n, i ≤ j → ns[j]? = some n → n.ps = [] ∧ n.k ≠ "heap"
  root : ∃ n, ns[0]? = some n ∧ n.st = 0 ∧ n.m = size
  par : ∀ j, 0 < j → j < ns.length → ∃ i' n, i' < i ∧ ns[i']? = some n ∧ j ∈ n.ps
  up : ∀ j n q, ns[j]? = some n → q ∈ n.ps → j < q ∧ q < ns.length
  kin : ∀ (j : Nat) (n : Nd) (c : Nat) (nc : Nd), ns[j]? = some n → n.k = "heap" → c ∈ n.ps → ns[c]? = some nc → nc.m = 1 ∨ nc.k = "crossed"
  sim : ∀ n ∈ ns, n.k = "crossed" → n.ps ≠ [] → 3 ≤ n.nums.length ∧ SimL n.nums
theorem Ok.start {size : Nat} (h : 1 ≤ size) : Ok size 0 [⟨"any", 0, size, [], []⟩] where
  all := fun n hn => by
    rw [List.mem_singleton.1 hn]
    refine ⟨h, by simp, fun e => ?_⟩
    have e' : ("any" : Str) = "crossed" := e
    exact absurd e' (by decide +kernel)
  seen := fun j n hj => absurd hj (Nat.not_lt_zero j)
  new := fun j n _ hn => by
    have := List.mem_of_getElem? hn
    rw [List.mem_singleton.1 this]
    refine ⟨rfl, ?_⟩
    show ("any" : Str) ≠ "heap"
    decide +kernel
  root := ⟨_, rfl, rfl, rfl⟩
  par := fun j h0 hj => by simp at hj; omega
  up := fun j n q hn hq => by
    have := List.mem_of_getElem? hn
    rw [List.mem_singleton.1 this] at hq
    cases hq
  kin := fun j n c nc hn _ hc _ => by
    have := List.mem_of_getElem? hn
    rw [List.mem_singleton.1 this] at hc
    cases hc
  sim := fun n hn _ hp => by
    rw [List.mem_singleton.1 hn] at hp
    exact absurd rfl hp
end TL
end
-- T7
section
set_option Elab.async false
set_option linter.all false
set_option maxRecDepth 100000
set_option maxHeartbeats 4100000
/-! T7: the nodes of a drawn core -/
variable [TL.Tb]
namespace TL
open L2 PyProof.Rows PySem PySem.Spec TS RZ
theorem small_len {α : Type} {xs : List α} (h : Nat.ble xs.length 1000 = true := by rfl) : xs.length ≤ 1000 := Nat.le_of_ble_eq_true h
end TL
end
-- T8
section
set_option Elab.async false
set_option linter.all false
set_option maxRecDepth 100000
set_option maxHeartbeats 400000
/-! T8: the nodes of a drawn core, made -/
namespace TL
open L2 PyProof.Rows PySem PySem.Spec TS RZ
end TL
end
-- T9
section
set_option Elab.async false
set_option linter.all false
set_option maxRecDepth 100000
set_option maxHeartbeats 400000
/-! T9: worlds, turns -/
variable [TL.Tb]
namespace TL
open L2 PyProof.Rows PySem PySem.Spec TS RZ
/-! ### overlapping -/
theorem chain_of {f g : D → D → (Rv → Prop) → Prop} {T U V1 : TX} {Γ : Gm} {n : Nat} {R : Rv → Nat → Prop} {x y : Rv} {b : Bool} (hT : ∀ R', R' x n → T Γ n R') (hU : ∀ R', R' y n → U Γ n R') (hf : ∀ R', R' (.val (.bl b)) → f x.d y.d R')
    (h : if b = true then V1 Γ n (fun z n3 => g y.d z.d fun r => R r n3) else R (.val (.bl false)) n) : tlChain f g T U V1 Γ n R := by
  refine hT _ (hU _ (hf _ ?_))
  cases b <;> exact h
end TL
end
-- T10
section
set_option Elab.async false
set_option linter.all false
set_option maxRecDepth 100000
set_option maxHeartbeats 400000
/-! T10: a turn, by the law's own look at places -/
variable [TL.Tb]
namespace TL
open L2 PyProof.Rows PySem PySem.Spec TS RZ
theorem rng_nat (k : Nat) : (rng 0 ((k : Nat) : Int)).map D.int = (List.range k).map eN := by simp [rng]
end TL
end
-- T11
section
set_option Elab.async false
set_option linter.all false
set_option maxRecDepth 100000
set_option maxHeartbeats 400000
/-! T11: turns of stretches that do not overlap, in whatever order -/
variable [TL.Tb]
namespace TL
open L2 PyProof.Rows PySem PySem.Spec TS RZ
/-- m is the stretch of S in l ++ m ++ r -/
structure Str3 (S l m r : List Str) : Prop where
  ne : m ≠ []
  hl : ∀ y ∈ l, y ∉ S
  hm : ∀ y ∈ m, y ∈ S
  hr : ∀ y ∈ r, y ∉ S
def Fits (S ys : List Str) : Prop := ∃ l m r, ys = l ++ m ++ r ∧ Str3 S l m r
def trn (S ys : List Str) : List Str :=
  ys.takeWhile (fun y => decide (y ∉ S)) ++ ((ys.dropWhile fun y => decide (y ∉ S)).takeWhile fun y => decide (y ∈ S)).reverse ++ (ys.dropWhile fun y => decide (y ∉ S)).dropWhile fun y => decide (y ∈ S)
theorem while_all {α : Type} {p : α → Bool} {l s : List α} (h : ∀ y ∈ l, p y = true) : (l ++ s).takeWhile p = l ++ s.takeWhile p ∧ (l ++ s).dropWhile p = s.dropWhile p := by
  induction l with
  | nil => exact ⟨rfl, rfl⟩
  | cons x r ih =>
    have hx := h x List.mem_cons_self
    obtain ⟨h1, h2⟩ := ih fun y hy => h y (List.mem_cons_of_mem _ hy)
    rw [List.cons_append, List.takeWhile_cons, List.dropWhile_cons, hx, if_pos rfl, if_pos rfl, h1, h2]
    exact ⟨rfl, rfl⟩
theorem while_none {α : Type} {p : α → Bool} {s : List α} (h : ∀ y ∈ s, p y = false) : s.takeWhile p = [] ∧ s.dropWhile p = s := by
  cases s with
  | nil => exact ⟨rfl, rfl⟩
  | cons x r =>
    rw [List.takeWhile_cons, List.dropWhile_cons, h x List.mem_cons_self]
    exact ⟨rfl, rfl⟩
theorem Str3.trn {S l m r : List Str} (h : Str3 S l m r) : trn S (l ++ m ++ r) = l ++ m.reverse ++ r := by
  unfold TL.trn
  have a := while_all (p := fun y => decide (y ∉ S)) (l := l) (s := m ++ r) fun y hy => decide_eq_true (h.hl y hy)
  have b : ((m ++ r).takeWhile fun y => decide (y ∉ S)) = [] ∧ ((m ++ r).dropWhile fun y => decide (y ∉ S)) = m ++ r := by
    cases hm : m with
    | nil => exact absurd hm h.ne
    | cons x t =>
      have : x ∈ S := h.hm x (by rw [hm]; exact List.mem_cons_self)
      rw [List.cons_append, List.takeWhile_cons, List.dropWhile_cons, decide_eq_false (fun z => z this)]
      exact ⟨rfl, rfl⟩
  have c := while_all (p := fun y => decide (y ∈ S)) (l := m) (s := r) fun y hy => decide_eq_true (h.hm y hy)
  have d := while_none (p := fun y => decide (y ∈ S)) (s := r) fun y hy => decide_eq_false (h.hr y hy)
  have e : l ++ m ++ r = l ++ (m ++ r) := List.append_assoc _ _ _
  rw [e, a.1, a.2, b.1, b.2, c.1, c.2, d.1, d.2, List.append_nil, List.append_nil]
theorem Str3.rev {S l m r : List Str} (h : Str3 S l m r) : Str3 S l m.reverse r := ⟨by simpa using h.ne, h.hl, fun y hy => h.hm y (List.mem_reverse.1 hy), h.hr⟩
theorem Fits.trn {S ys : List Str} (h : Fits S ys) : Fits S (trn S ys) ∧ trn S (trn S ys) = ys := by
  obtain ⟨l, m, r, rfl, h⟩ := h
  rw [h.trn]
  refine ⟨⟨l, m.reverse, r, rfl, h.rev⟩, ?_⟩
  rw [h.rev.trn, List.reverse_reverse]
theorem Fits.perm {S ys : List Str} (h : Fits S ys) : (TL.trn S ys).Perm ys := by
  obtain ⟨l, m, r, rfl, h⟩ := h
  rw [h.trn]
  exact ((List.Perm.refl l).append (List.reverse_perm m)).append (.refl r)
/-- they do not overlap -/
def NO (S T : List Str) : Prop := (∀ y ∈ S, y ∉ T) ∨ (∀ y ∈ S, y ∈ T) ∨ ∀ y ∈ T, y ∈ S
theorem NO.symm {S T : List Str} (h : NO S T) : NO T S := h.elim (fun h => .inl fun y hy z => h y z hy) fun h => h.elim (fun h => .inr (.inr h)) fun h => .inr (.inl h)
def Both (S T ys : List Str) : Prop := Fits T (trn S ys) ∧ Fits S (trn T ys) ∧ trn T (trn S ys) = trn S (trn T ys)
theorem Both.symm {S T ys : List Str} (h : Both S T ys) : Both T S ys := ⟨h.2.1, h.1, h.2.2.symm⟩
theorem both_apart {S T a m1 b m2 c : List Str} (h1 : Str3 S a m1 (b ++ (m2 ++ c))) (h2 : Str3 T (a ++ m1 ++ b) m2 c) : Both S T (a ++ m1 ++ b ++ m2 ++ c) := by
  have e1 : a ++ m1 ++ b ++ m2 ++ c = a ++ m1 ++ (b ++ (m2 ++ c)) := by simp
  have t1 : trn S (a ++ m1 ++ b ++ m2 ++ c) = a ++ m1.reverse ++ b ++ m2 ++ c := by rw [e1, h1.trn]; simp
  have t2 : trn T (a ++ m1 ++ b ++ m2 ++ c) = a ++ m1 ++ b ++ m2.reverse ++ c := h2.trn
  have g2 : Str3 T (a ++ m1.reverse ++ b) m2 c := ⟨h2.ne, fun y hy => h2.hl y (by simp only [List.mem_append, List.mem_reverse] at hy ⊢; exact hy), h2.hm, h2.hr⟩
  have g1 : Str3 S a m1 (b ++ (m2.reverse ++ c)) := ⟨h1.ne, h1.hl, h1.hm, fun y hy => h1.hr y (by simp only [List.mem_append, List.mem_reverse] at hy ⊢; exact hy)⟩
  have e2 : a ++ m1 ++ b ++ m2.reverse ++ c = a ++ m1 ++ (b ++ (m2.reverse ++ c)) := by simp
  refine ⟨?_, ?_, ?_⟩
  · rw [t1]
    exact ⟨_, _, _, rfl, g2⟩
  · rw [t2, e2]
    exact ⟨_, _, _, rfl, g1⟩
  · rw [t1, t2, g2.trn, e2, g1.trn]
    simp
theorem both_in {S T l b m2 c r : List Str} (h1 : Str3 S l (b ++ m2 ++ c) r) (h2 : Str3 T (l ++ b) m2 (c ++ r)) : Both S T (l ++ (b ++ m2 ++ c) ++ r) := by
  have t1 : trn S (l ++ (b ++ m2 ++ c) ++ r) = (l ++ c.reverse) ++ m2.reverse ++ (b.reverse ++ r) := by rw [h1.trn]; simp
  have e2 : l ++ (b ++ m2 ++ c) ++ r = (l ++ b) ++ m2 ++ (c ++ r) := by simp
  have t2 : trn T (l ++ (b ++ m2 ++ c) ++ r) = l ++ (b ++ m2.reverse ++ c) ++ r := by rw [e2, h2.trn]; simp
  have g2 : Str3 T (l ++ c.reverse) m2.reverse (b.reverse ++ r) := by
    refine ⟨by simpa using h2.ne, fun y hy => ?_, fun y hy => h2.hm y (List.mem_reverse.1 hy), fun y hy => ?_⟩
    · rcases List.mem_append.1 hy with hy | hy
      · exact h2.hl y (List.mem_append_left _ hy)
      · exact h2.hr y (List.mem_append_left _ (List.mem_reverse.1 hy))
    · rcases List.mem_append.1 hy with hy | hy
      · exact h2.hl y (List.mem_append_right _ (List.mem_reverse.1 hy))
      · exact h2.hr y (List.mem_append_right _ hy)
  have g1 : Str3 S l (b ++ m2.reverse ++ c) r := by
    refine ⟨fun z => h2.ne (by simp at z; exact z.2.1), h1.hl, fun y hy => h1.hm y ?_, h1.hr⟩
    simp only [List.mem_append, List.mem_reverse] at hy ⊢
    exact hy
  refine ⟨?_, ?_, ?_⟩
  · rw [t1]
    exact ⟨_, _, _, rfl, g2⟩
  · rw [t2]
    exact ⟨_, _, _, rfl, g1⟩
  · rw [t1, t2, g2.trn, g1.trn]
    simp
theorem both_1 {S T l1 m1 r1 k m2 r2 : List Str} (h1 : Str3 S l1 m1 r1) (h2 : Str3 T (l1 ++ k) m2 r2) (no : NO S T) (e : m1 ++ r1 = k ++ (m2 ++ r2)) : Both S T (l1 ++ m1 ++ r1) := by
  rcases List.append_eq_append_iff.1 e with ⟨k', rfl, rfl⟩ | ⟨k', rfl, e2⟩
  · have := both_apart (a := l1) (m1 := m1) (b := k') (m2 := m2) (c := r2) h1 ⟨h2.ne, by rw [List.append_assoc]; exact h2.hl, h2.hm, h2.hr⟩
    rw [show l1 ++ m1 ++ (k' ++ (m2 ++ r2)) = l1 ++ m1 ++ k' ++ m2 ++ r2 by simp]
    exact this
  · rcases List.append_eq_append_iff.1 e2 with ⟨k'', rfl, rfl⟩ | ⟨k'', rfl, rfl⟩
    · have := both_in (S := S) (T := T) (l := l1) (b := k) (m2 := m2) (c := k'') (r := r1) (by rw [List.append_assoc]; exact h1) h2
      rw [show l1 ++ (k ++ (m2 ++ k'')) ++ r1 = l1 ++ (k ++ m2 ++ k'') ++ r1 by simp]
      exact this
    · by_cases z1 : k' = []
      · subst z1
        rw [List.append_nil] at h1 ⊢
        have := both_apart (a := l1) (m1 := k) (b := []) (m2 := k'') (c := r2) h1 ⟨h2.ne, by rw [List.append_nil]; exact h2.hl, h2.hm, h2.hr⟩
        rw [List.append_nil] at this
        rw [← List.append_assoc]
        exact this
      · by_cases z2 : k = []
        · subst z2
          rw [List.nil_append] at h1 ⊢
          rw [List.append_nil] at h2
          have := both_in (S := T) (T := S) (l := l1) (b := []) (m2 := k') (c := k'') (r := r2) h2 (by rw [List.append_nil]; exact h1)
          rw [List.nil_append] at this
          rw [show l1 ++ k' ++ (k'' ++ r2) = l1 ++ (k' ++ k'') ++ r2 by simp]
          exact this.symm
        · by_cases z3 : k'' = []
          · subst z3
            rw [List.append_nil] at h2
            rw [List.nil_append] at h1 ⊢
            have := both_in (S := S) (T := T) (l := l1) (b := k) (m2 := k') (c := []) (r := r2) (by rw [List.append_nil]; exact h1) h2
            rw [List.append_nil] at this
            exact this
          · exfalso
            obtain ⟨x, hx⟩ := List.exists_mem_of_ne_nil _ z1
            obtain ⟨y, hy⟩ := List.exists_mem_of_ne_nil _ z2
            obtain ⟨z, hz⟩ := List.exists_mem_of_ne_nil _ z3
            have xS := h1.hm x (List.mem_append_right _ hx)
            have xT := h2.hm x (List.mem_append_left _ hx)
            have yS := h1.hm y (List.mem_append_left _ hy)
            have yT := h2.hl y (List.mem_append_right _ hy)
            have zT := h2.hm z (List.mem_append_right _ hz)
            have zS := h1.hr z (List.mem_append_left _ hz)
            rcases no with no | no | no
            · exact no x xS xT
            · exact yT (no y yS)
            · exact zS (no z zT)
theorem Fits.both {S T ys : List Str} (h1 : Fits S ys) (h2 : Fits T ys) (no : NO S T) : Both S T ys := by
  obtain ⟨l1, m1, r1, rfl, s1⟩ := h1
  obtain ⟨l2, m2, r2, e, s2⟩ := h2
  have e' := e
  rw [List.append_assoc, List.append_assoc] at e'
  rcases List.append_eq_append_iff.1 e' with ⟨k, rfl, e2⟩ | ⟨k, rfl, e2⟩
  · exact both_1 s1 s2 no e2
  · rw [e]
    exact (both_1 s2 s1 no.symm e2).symm
/-! ### lots -/
structure Lot (ys : List Str) (L : List (List Str)) : Prop where
  fits : ∀ S ∈ L, Fits S ys
  no : ∀ S ∈ L, ∀ T ∈ L, NO S T
def led (ys : List Str) (L : List (List Str)) : List Str := L.foldl (fun z S => trn S z) ys
theorem Lot.turn {ys S : List Str} {L : List (List Str)} (h : Lot ys L) (hS : S ∈ L) : Lot (trn S ys) L :=
  ⟨fun T hT => ((h.fits S hS).both (h.fits T hT) (h.no S hS T hT)).1, h.no⟩
theorem Lot.perm {L : List (List Str)} : ∀ {M : List (List Str)} {ys : List Str}, Lot ys L → (∀ S ∈ M, S ∈ L) → (TL.led ys M).Perm ys := by
  intro M
  induction M with
  | nil => intro ys _ _; exact .refl _
  | cons S r ih =>
    intro ys h hM
    exact (ih (h.turn (hM S List.mem_cons_self)) fun T hT => hM T (List.mem_cons_of_mem _ hT)).trans (h.fits S (hM S List.mem_cons_self)).perm
end TL
end
-- T12
section
set_option Elab.async false
set_option linter.all false
set_option maxRecDepth 100000
set_option maxHeartbeats 400000
/-! T12: the runs of a shelf, by the law's look at all stretches -/
variable [TL.Tb]
variable [TL.Tb]
namespace TL
open L2 PyProof.Rows PySem PySem.Spec TS RZ
def mn : List Nat → Nat
  | [] => 0
  | a :: r => r.foldl min a
def mx : List Nat → Nat
  | [] => 0
  | a :: r => r.foldl max a
theorem fold_min : ∀ (r : List Nat) (a : Nat), r.foldl min a ∈ a :: r ∧ ∀ y ∈ a :: r, r.foldl min a ≤ y
  | [], a => by simp
  | x :: r, a => by
    obtain ⟨h1, h2⟩ := fold_min r (min a x)
    rw [List.foldl_cons]
    refine ⟨?_, fun y hy => ?_⟩
    · rcases List.mem_cons.1 h1 with e | e
      · rw [e]
        rcases Nat.le_total a x with c | c
        · rw [Nat.min_eq_left c]; simp
        · rw [Nat.min_eq_right c]; simp
      · exact List.mem_cons_of_mem _ (List.mem_cons_of_mem _ e)
    · have h0 := h2 (min a x) List.mem_cons_self
      rcases List.mem_cons.1 hy with e | e
      · omega
      · rcases List.mem_cons.1 e with e | e
        · omega
        · exact h2 y (List.mem_cons_of_mem _ e)
theorem fold_max : ∀ (r : List Nat) (a : Nat), r.foldl max a ∈ a :: r ∧ ∀ y ∈ a :: r, y ≤ r.foldl max a
  | [], a => by simp
  | x :: r, a => by
    obtain ⟨h1, h2⟩ := fold_max r (max a x)
    rw [List.foldl_cons]
    refine ⟨?_, fun y hy => ?_⟩
    · rcases List.mem_cons.1 h1 with e | e
      · rw [e]
        rcases Nat.le_total a x with c | c
        · rw [Nat.max_eq_right c]; simp
        · rw [Nat.max_eq_left c]; simp
      · exact List.mem_cons_of_mem _ (List.mem_cons_of_mem _ e)
    · have h0 := h2 (max a x) List.mem_cons_self
      rcases List.mem_cons.1 hy with e | e
      · omega
      · rcases List.mem_cons.1 e with e | e
        · omega
        · exact h2 y (List.mem_cons_of_mem _ e)
theorem mn_ok {s : List Nat} (h : s ≠ []) : mn s ∈ s ∧ ∀ y ∈ s, mn s ≤ y := by
  cases s with
  | nil => exact absurd rfl h
  | cons a r => exact fold_min r a
theorem mx_ok {s : List Nat} (h : s ≠ []) : mx s ∈ s ∧ ∀ y ∈ s, y ≤ mx s := by
  cases s with
  | nil => exact absurd rfl h
  | cons a r => exact fold_max r a
/-- the run that a stretch of entries is, if it is one -/
def piece (xs : List Str) (s : List Nat) : Option (List Str) := if mx s + 1 = mn s + s.length then some ((xs.drop (mn s)).take s.length) else none
def cutE (es : List Nat) (b j : Nat) : List Nat := (es.drop b).take (j + 2)
def raw (xs : List Str) (es : List Nat) : List (List Str) := (List.range es.length).flatMap fun b => (List.range (es.length - (b + 1))).filterMap fun j => piece xs (cutE es b j)
def rk (xs ys : List Str) : List Nat := ys.map xs.idxOf
theorem rk_rnk (xs ys : List Str) : dI (rnk xs ys) = dN (rk xs ys) := by
  unfold dI rnk dN rk
  rw [List.map_map, List.map_map]
  rfl
structure IsRuns (xs ys : List Str) (rs : List (List Str)) : Prop where
  perm : rs.Perm (raw xs (rk xs ys))
  sort : rs.Pairwise fun x y => TSo.ltS y x = false
theorem IsRuns.uniq {xs ys : List Str} {rs rs' : List (List Str)} (h : IsRuns xs ys rs) (h' : IsRuns xs ys rs') : rs = rs' := TSo.sorted_uniq h.sort h'.sort (h.perm.trans h'.perm.symm)
theorem cutE_ne {es : List Nat} {b j : Nat} (h : b + j + 1 < es.length) : cutE es b j ≠ [] ∧ (cutE es b j).length = j + 2 := by
  have : (cutE es b j).length = j + 2 := by unfold cutE; rw [List.length_take, List.length_drop]; omega
  exact ⟨fun e => by rw [e] at this; simp at this, this⟩
theorem idx_lt {xs : List Str} {y : Str} (h : y ∈ xs) : xs.idxOf y < xs.length := List.idxOf_lt_length_iff.2 h
end TL
end
-- T13
section
set_option Elab.async false
set_option linter.all false
set_option maxRecDepth 100000
set_option maxHeartbeats 400000
/-! T13: the law's walk over all stretches -/
variable [TL.Tb]
namespace TL
open L2 PyProof.Rows PySem PySem.Spec TS RZ
theorem rng_get {k i : Nat} {d : D} (h : ((rng 0 ((k : Nat) : Int)).map D.int)[i]? = some d) : i < k ∧ d = eN i := by
  rw [rng_nat] at h
  have lt := (List.getElem?_eq_some_iff.1 h).1
  rw [List.length_map, List.length_range] at lt
  refine ⟨lt, ?_⟩
  rw [List.getElem?_map, List.getElem?_eq_getElem (by simpa using lt), List.getElem_range] at h
  exact (Option.some.inj h).symm
theorem rng_get2 {a k i : Nat} {d : D} {lo : Int} (hlo : lo = (a : Int)) (h : ((rng lo ((k : Nat) : Int)).map D.int)[i]? = some d) : a + i < k ∧ d = eN (a + i) := by
  subst hlo
  have e : (rng (a : Int) (k : Int)).map D.int = (List.range (k - a)).map fun j => eN (a + j) := by
    unfold rng
    rw [List.map_map, show ((k : Int) - (a : Int)).toNat = k - a by omega]
    rfl
  rw [e] at h
  have lt := (List.getElem?_eq_some_iff.1 h).1
  rw [List.length_map, List.length_range] at lt
  refine ⟨by omega, ?_⟩
  rw [List.getElem?_map, List.getElem?_eq_getElem (by simpa using lt), List.getElem_range] at h
  exact (Option.some.inj h).symm
end TL
end
-- T2
section
set_option Elab.async false
set_option linter.all false
set_option maxRecDepth 100000
set_option maxHeartbeats 4100000
/-! T2: the same data -/
variable [TL.Tb]
namespace TL
open L2 PyProof.Rows PySem PySem.Spec TS RZ
def scal : D → Bool
  | .non => true
  | .bl _ => true
  | .int _ => true
  | .str _ => true
  | _ => false
/-- data, at most so deep -/
def xd : Nat → D → Prop
  | 0, d => scal d = true
  | k + 1, .lst ds => ds.length ≤ 100000 ∧ ∀ d ∈ ds, xd k d
  | k + 1, .tup ds => ds.length ≤ 100000 ∧ ∀ d ∈ ds, xd k d
  | k + 1, .dk ks ds => 1 ≤ k ∧ ∃ kvs : List (Str × D), ks = kvs.map (fun z => .inr z.1) ∧ ds = kvs.map Prod.snd ∧ (kvs.map Prod.fst).Nodup ∧ kvs.length ≤ 100000 ∧ ∀ z ∈ kvs, xd k z.2
  | _ + 1, d => scal d = true
def S_exact (k : Nat) : ST := fun ds n R => ∃ d, ds = [d, d] ∧ xd k d ∧ R (.val (.bl true)) n
theorem kb (a b : String) (h : (match kitB a b with | some false => true | _ => false) = true) : kitB a b = some false := by
  revert h
  cases kitB a b with
  | none => intro h; cases h
  | some c => cases c <;> intro h <;> first | rfl | cases h
theorem kbT (a b : String) (h : (match kitB a b with | some true => true | _ => false) = true) : kitB a b = some true := by
  revert h
  cases kitB a b with
  | none => intro h; cases h
  | some c => cases c <;> intro h <;> first | rfl | cases h
theorem exact_scal {S1 : ST} {d : D} (h : scal d = true) {n : Nat} {R : Rv → Nat → Prop} (q : R (.val (.bl true)) n) : B_w_exact S1 (ends R) (slots [true, true] [d, d] 4) n := by
  have fin : dn R (.val (.bl true)) n := dn_of q
  cases d with
  | non =>
    refine ⟨false, false, kb _ _ (by decide +kernel), kb _ _ (by decide +kernel), false, kb _ _ (by decide +kernel), ?_⟩
    refine ⟨false, kb _ _ (by decide +kernel), false, kb _ _ (by decide +kernel), rfl, rfl, Nat.zero_le _, rfl, rfl, Nat.zero_le _, rfl, fin⟩
  | bl b =>
    refine ⟨false, false, kb _ _ (by decide +kernel), kb _ _ (by decide +kernel), false, kb _ _ (by decide +kernel), ?_⟩
    refine ⟨true, kbT _ _ (by decide +kernel), true, kbT _ _ (by decide +kernel), rfl, rfl, Nat.zero_le _, rfl, rfl, Nat.zero_le _, rfl, ?_⟩
    cases b <;> exact fin
  | int i =>
    refine ⟨false, false, kb _ _ (by decide +kernel), kb _ _ (by decide +kernel), false, kb _ _ (by decide +kernel), ?_⟩
    refine ⟨false, kb _ _ (by decide +kernel), false, kb _ _ (by decide +kernel), rfl, rfl, Nat.zero_le _, rfl, ?_⟩
    rw [show decide (i = i) = true from decide_eq_true rfl]
    exact fin
  | str i =>
    refine ⟨false, false, kb _ _ (by decide +kernel), kb _ _ (by decide +kernel), false, kb _ _ (by decide +kernel), ?_⟩
    refine ⟨false, kb _ _ (by decide +kernel), false, kb _ _ (by decide +kernel), rfl, rfl, Nat.zero_le _, rfl, ?_⟩
    rw [show decide (i = i) = true from decide_eq_true rfl]
    exact fin
  | _ => cases h
theorem tree_w_exact0 {S1 : ST} : ∀ ds n R, S_exact 0 ds n R → B_w_exact S1 (ends R) (slots [true, true] ds 4) n := by
  rintro _ n R ⟨d, rfl, h, q⟩
  exact exact_scal h q
end TL
namespace TL
open L2 PyProof.Rows PySem PySem.Spec TS RZ
theorem lc_exact {k : Nat} {a b c e : Option Rv} : ∀ (ds : List D) (acc : List D) (n : Nat) (q : List D → Nat → Prop), (∀ d ∈ ds, xd k d) → q (acc ++ List.replicate ds.length (D.bl true)) n →
    lcF (.tp [3, 4]) tlYes (tlCall [true, true] (S_exact k) (tlCons (tlV 3) (tlCons (tlV 4) tlNil))) [a, b, c, none, none, e] (zipD ds ds) acc n q
  | [], acc, n, q, _, h => by
    rw [List.length_nil, List.replicate_zero, List.append_nil] at h
    exact h
  | d :: r, acc, n, q, hx, h => by
    refine ⟨rfl, d, rfl, hx d List.mem_cons_self, rfl, ?_⟩
    refine lc_exact r _ n q (fun x hx' => hx x (List.mem_cons_of_mem _ hx')) ?_
    rw [List.append_assoc]
    exact h
theorem exact_seq {k : Nat} {ds : List D} (few : ds.length ≤ 100000) (hx : ∀ d ∈ ds, xd k d) {n : Nat} {R : Rv → Nat → Prop} (q : R (.val (.bl true)) n) :
    B_w_exact (S_exact k) (ends R) (slots [true, true] [.lst ds, .lst ds] 4) n ∧ B_w_exact (S_exact k) (ends R) (slots [true, true] [.tup ds, .tup ds] 4) n := by
  have fin : dn R (.val (.bl ((List.replicate ds.length true).all id))) n := by
    rw [show (List.replicate ds.length true).all id = true by simp]
    exact dn_of q
  have len : ds.length ≤ 1000000 := by omega
  have zl : (zipD ds ds).length ≤ 1000000 := by simp [zipD]; omega
  have dd : decide ((ds.length : Int) = (ds.length : Int)) = true := decide_eq_true rfl
  have T := kbT
  constructor
  · refine ⟨true, false, kbT _ _ (by decide +kernel), kb _ _ (by decide +kernel), ?_⟩
    refine ⟨true, kbT _ _ (by decide +kernel), true, kbT _ _ (by decide +kernel), rfl, rfl, Nat.zero_le _, false, kb _ _ (by decide +kernel), false, kb _ _ (by decide +kernel), rfl, rfl, Nat.zero_le _, ?_⟩
    show (if decide ((ds.length : Int) = (ds.length : Int)) = true then _ else _)
    rw [dd]
    refine iteT ⟨zl, ?_⟩
    exact lc_exact ds [] n _ hx ⟨List.replicate ds.length true, by simp, rfl, fin⟩
  · refine ⟨false, true, kb _ _ (by decide +kernel), kbT _ _ (by decide +kernel), ?_⟩
    refine ⟨false, kb _ _ (by decide +kernel), false, kb _ _ (by decide +kernel), rfl, rfl, Nat.zero_le _, true, kbT _ _ (by decide +kernel), true, kbT _ _ (by decide +kernel), rfl, rfl, Nat.zero_le _, ?_⟩
    show (if decide ((ds.length : Int) = (ds.length : Int)) = true then _ else _)
    rw [dd]
    refine iteT ⟨zl, ?_⟩
    exact lc_exact ds [] n _ hx ⟨List.replicate ds.length true, by simp, rfl, fin⟩
theorem dk_in : ∀ {kvs : List (Str × D)} {z : Str × D}, (kvs.map Prod.fst).Nodup → z ∈ kvs → dkGet (kvs.map fun z => (Sum.inr z.1 : Key)) (kvs.map Prod.snd) (.inr z.1) = some z.2
  | y :: r, z, nd, h => by
    rw [List.map_cons] at nd
    obtain ⟨n1, n2⟩ := List.nodup_cons.1 nd
    rw [List.map_cons, List.map_cons, dkGet]
    by_cases c : y.1 = z.1
    · rw [if_pos (by rw [c])]
      rcases List.mem_cons.1 h with rfl | h
      · rfl
      · exact absurd (List.mem_map.2 ⟨z, h, c.symm⟩) n1
    · rw [if_neg fun e => c (Sum.inr.inj e)]
      refine dk_in n2 ((List.mem_cons.1 h).resolve_left fun e => c (by rw [e]))
theorem lc_exactD {k : Nat} {kvs : List (Str × D)} (nd : (kvs.map Prod.fst).Nodup) {c e f : Option Rv} : ∀ (ls : List (Str × D)) (acc : List D) (n : Nat) (q : List D → Nat → Prop), (∀ z ∈ ls, z ∈ kvs ∧ xd k z.2) → q (acc ++ List.replicate ls.length (D.bl true)) n →
    lcF (.nm 5) tlYes (tlCall [true, true] (S_exact k) (tlCons (tlOp dIxD (tlV 0) (tlV 5)) (tlCons (tlOp dIxD (tlV 1) (tlV 5)) tlNil))) [some (.bor (.dk (kvs.map fun z => .inr z.1) (kvs.map Prod.snd))), some (.bor (.dk (kvs.map fun z => .inr z.1) (kvs.map Prod.snd))), c, e, f, none] (ls.map fun z => D.str z.1) acc n q
  | [], acc, n, q, _, h => by
    rw [List.length_nil, List.replicate_zero, List.append_nil] at h
    exact h
  | z :: r, acc, n, q, hx, h => by
    obtain ⟨h1, h2⟩ := hx z List.mem_cons_self
    have g := dk_in nd h1
    refine ⟨.inr z.1, z.2, rfl, g, .inr z.1, z.2, rfl, g, rfl, z.2, rfl, h2, rfl, ?_⟩
    refine lc_exactD nd r _ n q (fun x hx' => hx x (List.mem_cons_of_mem _ hx')) ?_
    rw [List.append_assoc]
    exact h
theorem xd_keys {k : Nat} (one : 1 ≤ k) {kvs : List (Str × D)} (few : kvs.length ≤ 100000) : xd k (.lst ((kvs.map fun z => (Sum.inr z.1 : Key)).map kD)) := by
  obtain ⟨j, rfl⟩ : ∃ j, k = j + 1 := ⟨k - 1, by omega⟩
  refine ⟨by rw [List.length_map, List.length_map]; exact few, fun d hd => ?_⟩
  rw [List.map_map] at hd
  obtain ⟨z, _, rfl⟩ := List.mem_map.1 hd
  cases j <;> rfl
theorem exact_dk {k : Nat} {kvs : List (Str × D)} (one : 1 ≤ k) (nd : (kvs.map Prod.fst).Nodup) (few : kvs.length ≤ 100000) (hx : ∀ z ∈ kvs, xd k z.2) {n : Nat} {R : Rv → Nat → Prop} (q : R (.val (.bl true)) n) :
    B_w_exact (S_exact k) (ends R) (slots [true, true] [.dk (kvs.map fun z => .inr z.1) (kvs.map Prod.snd), .dk (kvs.map fun z => .inr z.1) (kvs.map Prod.snd)] 4) n := by
  have fin : dn R (.val (.bl ((List.replicate kvs.length true).all id))) n := by
    rw [show (List.replicate kvs.length true).all id = true by simp]
    exact dn_of q
  have e : (kvs.map fun z => (Sum.inr z.1 : Key)).map kD = kvs.map fun z => D.str z.1 := by rw [List.map_map]; rfl
  refine ⟨false, false, kb _ _ (by decide +kernel), kb _ _ (by decide +kernel), true, kbT _ _ (by decide +kernel), true, kbT _ _ (by decide +kernel), rfl, _, rfl, xd_keys one few, ?_⟩
  show (kvs.map fun z => (Sum.inr z.1 : Key)).length ≤ 1000000 ∧ lcF _ _ _ _ ((kvs.map fun z => (Sum.inr z.1 : Key)).map kD) _ _ _
  rw [e]
  refine ⟨by rw [List.length_map]; omega, ?_⟩
  exact lc_exactD nd kvs [] n _ (fun z hz => ⟨hz, hx z hz⟩) ⟨rfl, List.replicate kvs.length true, by simp, rfl, fin⟩
theorem tree_w_exactS {k : Nat} : ∀ ds n R, S_exact (k + 1) ds n R → B_w_exact (S_exact k) (ends R) (slots [true, true] ds 4) n := by
  rintro _ n R ⟨d, rfl, h, q⟩
  cases d with
  | lst ds => exact (exact_seq h.1 h.2 q).1
  | tup ds => exact (exact_seq h.1 h.2 q).2
  | dk ks ds =>
    obtain ⟨one, kvs, rfl, rfl, nd, few, hx⟩ := h
    exact exact_dk one nd few hx q
  | _ => exact exact_scal h q
end TL
end
-- KPM
section
set_option Elab.async false
set_option linter.all false
/-! KPM: the numbers of rows, by the mathematics -/
namespace PM
def F : Nat → Nat
  | 0 => 1
  | n + 1 => (n + 1) * F n
theorem F_pos : ∀ n, 0 < F n
  | 0 => Nat.one_pos
  | n + 1 => Nat.mul_pos (Nat.succ_pos n) (F_pos n)
/-- how many of a list are less -/
def cnt (x : Nat) (l : List Nat) : Nat := (l.filter fun y => decide (y < x)).length
def num : List Nat → Nat
  | [] => 0
  | x :: r => cnt x r * F r.length + num r
/-- the row with a number -/
def dec {α : Type} : Nat → Nat → List α → List α
  | 0, _, _ => []
  | m + 1, N, l => match l[N / F m]? with
    | some x => x :: dec m (N % F m) (l.eraseIdx (N / F m))
    | none => []
theorem cnt_le (x : Nat) (l : List Nat) : cnt x l ≤ l.length := List.length_filter_le ..
theorem cnt_perm {x : Nat} {l m : List Nat} (p : l.Perm m) : cnt x l = cnt x m := (p.filter _).length_eq
theorem cnt_cons (x y : Nat) (l : List Nat) : cnt x (y :: l) = (if y < x then 1 else 0) + cnt x l := by
  unfold cnt
  rw [List.filter_cons]
  by_cases h : y < x
  · simp [h, Nat.add_comm]
  · simp [h]
theorem cnt_app (x : Nat) (l m : List Nat) : cnt x (l ++ m) = cnt x l + cnt x m := by
  unfold cnt
  rw [List.filter_append, List.length_append]
theorem cnt_all {x : Nat} {l : List Nat} (h : ∀ y ∈ l, y < x) : cnt x l = l.length := by
  unfold cnt
  rw [List.filter_eq_self.2 fun y hy => decide_eq_true (h y hy)]
theorem cnt_none {x : Nat} {l : List Nat} (h : ∀ y ∈ l, x ≤ y) : cnt x l = 0 := by
  unfold cnt
  rw [List.filter_eq_nil_iff.2 fun y hy z => by have := of_decide_eq_true z; have := h y hy; omega]
  rfl
theorem num_lt : ∀ l : List Nat, num l < F l.length
  | [] => Nat.one_pos
  | x :: r => by
    have a := num_lt r
    have b := Nat.mul_le_mul_right (F r.length) (cnt_le x r)
    show cnt x r * F r.length + num r < (r.length + 1) * F r.length
    rw [Nat.succ_mul]
    omega
theorem num_div (x : Nat) (r : List Nat) : num (x :: r) / F r.length = cnt x r := by
  show (cnt x r * F r.length + num r) / F r.length = _
  rw [Nat.mul_comm, Nat.mul_add_div (F_pos _), Nat.div_eq_of_lt (num_lt r), Nat.add_zero]
theorem num_mod (x : Nat) (r : List Nat) : num (x :: r) % F r.length = num r := by
  show (cnt x r * F r.length + num r) % F r.length = _
  rw [Nat.mul_comm, Nat.mul_add_mod, Nat.mod_eq_of_lt (num_lt r)]
/-- in an ascending list so many are less as stand ahead -/
theorem cnt_at {l : List Nat} (asc : l.Pairwise (· < ·)) {i : Nat} (h : i < l.length) : cnt l[i] (l.eraseIdx i) = i := by
  have e : l = l.take i ++ l[i] :: l.drop (i + 1) := by
    rw [List.getElem_cons_drop, List.take_append_drop]
  have pw := asc
  rw [e, List.pairwise_append] at pw
  obtain ⟨_, p2, p3⟩ := pw
  rw [List.eraseIdx_eq_take_drop_succ, cnt_app, cnt_all fun y hy => p3 y hy _ List.mem_cons_self, cnt_none fun y hy => Nat.le_of_lt ((List.pairwise_cons.1 p2).1 y hy), List.length_take]
  omega
theorem erase_perm {α : Type} {l : List α} {i : Nat} (h : i < l.length) : l.Perm (l[i] :: l.eraseIdx i) := by
  have e : l = l.take i ++ l[i] :: l.drop (i + 1) := by
    rw [List.getElem_cons_drop, List.take_append_drop]
  rw [List.eraseIdx_eq_take_drop_succ]
  conv => lhs; rw [e]
  exact List.perm_middle
theorem div_lt {N m : Nat} (h : N < F (m + 1)) : N / F m < m + 1 := by
  rw [Nat.div_lt_iff_lt_mul (F_pos m)]
  exact h
theorem dec_perm {α : Type} : ∀ (m N : Nat) (l : List α), l.length = m → N < F m → (dec m N l).Perm l
  | 0, N, l, h, _ => by
    obtain rfl := List.length_eq_zero_iff.1 h
    exact .refl _
  | m + 1, N, l, h, hN => by
    have lt : N / F m < l.length := by rw [h]; exact div_lt hN
    unfold dec
    rw [List.getElem?_eq_getElem lt]
    have ih := dec_perm m (N % F m) (l.eraseIdx (N / F m)) (by rw [List.length_eraseIdx_of_lt lt, h]; rfl) (Nat.mod_lt _ (F_pos m))
    exact (ih.cons _).trans (erase_perm lt).symm
theorem dec_len {α : Type} {m N : Nat} {l : List α} (h : l.length = m) (hN : N < F m) : (dec m N l).length = m := by rw [(dec_perm m N l h hN).length_eq, h]
theorem num_dec : ∀ (m N : Nat) (l : List Nat), l.Pairwise (· < ·) → l.length = m → N < F m → num (dec m N l) = N
  | 0, N, l, _, h, hN => by
    have : N < 1 := hN
    show (0 : Nat) = N
    omega
  | m + 1, N, l, asc, h, hN => by
    have lt : N / F m < l.length := by rw [h]; exact div_lt hN
    have le : (l.eraseIdx (N / F m)).length = m := by rw [List.length_eraseIdx_of_lt lt, h]; rfl
    have hm := Nat.mod_lt N (F_pos m)
    have ih := num_dec m (N % F m) (l.eraseIdx (N / F m)) (asc.sublist (List.eraseIdx_sublist ..)) le hm
    have pe := dec_perm m (N % F m) (l.eraseIdx (N / F m)) le hm
    unfold dec
    rw [List.getElem?_eq_getElem lt]
    show cnt _ _ * F _ + num _ = N
    rw [ih, cnt_perm pe, cnt_at asc lt, pe.length_eq, le, Nat.mul_comm]
    exact Nat.div_add_mod N (F m)
theorem erase_map {α β : Type} (f : α → β) (l : List α) (i : Nat) : (l.map f).eraseIdx i = (l.eraseIdx i).map f := by
  rw [List.eraseIdx_eq_take_drop_succ, List.eraseIdx_eq_take_drop_succ, List.map_append, List.map_take, List.map_drop]
theorem dec_map {α β : Type} (f : α → β) : ∀ (m N : Nat) (l : List α), dec m N (l.map f) = (dec m N l).map f
  | 0, _, _ => rfl
  | m + 1, N, l => by
    unfold dec
    rw [List.getElem?_map]
    cases h : l[N / F m]? with
    | none => rfl
    | some x =>
      show f x :: dec m _ ((l.map f).eraseIdx _) = f x :: (dec m _ (l.eraseIdx _)).map f
      rw [← dec_map f m, erase_map]
theorem dec_num : ∀ (es l : List Nat), l.Pairwise (· < ·) → es.Perm l → dec es.length (num es) l = es
  | [], l, _, p => by rw [List.nil_perm.1 p]; rfl
  | x :: r, l, asc, p => by
    have hx : x ∈ l := p.mem_iff.1 List.mem_cons_self
    obtain ⟨i, li, ei⟩ := List.getElem_of_mem hx
    have p2 : r.Perm (l.eraseIdx i) := by
      have := p.trans (erase_perm li)
      rw [ei] at this
      exact this.cons_inv
    have ci : cnt x r = i := by rw [cnt_perm p2, ← ei, cnt_at asc li]
    show dec (r.length + 1) (num (x :: r)) l = x :: r
    unfold dec
    rw [num_div, num_mod, ci, List.getElem?_eq_getElem li, ei]
    show x :: dec r.length (num r) (l.eraseIdx i) = x :: r
    rw [dec_num r _ (asc.sublist (List.eraseIdx_sublist ..)) p2]
/-! ### the ends -/
theorem num_asc : ∀ {l : List Nat}, l.Pairwise (· < ·) → num l = 0
  | [], _ => rfl
  | x :: r, h => by
    obtain ⟨a, b⟩ := List.pairwise_cons.1 h
    show cnt x r * _ + num r = 0
    rw [cnt_none fun y hy => Nat.le_of_lt (a y hy), num_asc b, Nat.zero_mul]
theorem num_desc : ∀ {l : List Nat}, l.Pairwise (· > ·) → num l + 1 = F l.length
  | [], _ => rfl
  | x :: r, h => by
    obtain ⟨a, b⟩ := List.pairwise_cons.1 h
    have ih := num_desc b
    show cnt x r * F r.length + num r + 1 = (r.length + 1) * F r.length
    rw [cnt_all fun y hy => a y hy, Nat.succ_mul, Nat.add_assoc, ih]
/-! ### the contrary row -/
theorem num_con {c : Nat} : ∀ {l : List Nat}, l.Nodup → (∀ x ∈ l, x ≤ c) → num (l.map (c - ·)) + num l + 1 = F l.length
  | [], _, _ => rfl
  | x :: r, nd, h => by
    obtain ⟨nx, nr⟩ := List.nodup_cons.1 nd
    have ih := num_con nr fun y hy => h y (List.mem_cons_of_mem _ hy)
    have xc := h x List.mem_cons_self
    have key : ∀ s : List Nat, x ∉ s → (∀ y ∈ s, y ≤ c) → cnt (c - x) (s.map (c - ·)) + cnt x s = s.length := fun s => by
      induction s with
      | nil => intro _ _; rfl
      | cons y s ih =>
        intro n1 n2
        have := ih (fun z => n1 (List.mem_cons_of_mem _ z)) fun z hz => n2 z (List.mem_cons_of_mem _ hz)
        have yc := n2 y List.mem_cons_self
        have ne : x ≠ y := fun z => n1 (z ▸ List.mem_cons_self)
        rw [List.map_cons, cnt_cons, cnt_cons, List.length_cons]
        by_cases q : y < x
        · rw [if_pos q, if_neg (by omega)]; omega
        · rw [if_neg q, if_pos (by omega)]; omega
    have k := key r nx fun y hy => h y (List.mem_cons_of_mem _ hy)
    show cnt (c - x) (r.map (c - ·)) * F (r.map (c - ·)).length + num (r.map (c - ·)) + (cnt x r * F r.length + num r) + 1 = (r.length + 1) * F r.length
    rw [List.length_map]
    have e : cnt (c - x) (r.map (c - ·)) * F r.length + cnt x r * F r.length = r.length * F r.length := by rw [← Nat.add_mul, k]
    rw [Nat.succ_mul]
    omega
/-! ### the next row -/
theorem num_app_perm {l l' : List Nat} (p : l'.Perm l) : ∀ P : List Nat, num (P ++ l') + num l = num (P ++ l) + num l'
  | [] => Nat.add_comm ..
  | x :: P => by
    have ih := num_app_perm p P
    have pp : (P ++ l').Perm (P ++ l) := (List.Perm.refl P).append p
    show cnt x (P ++ l') * F (P ++ l').length + num (P ++ l') + num l = cnt x (P ++ l) * F (P ++ l).length + num (P ++ l) + num l'
    rw [cnt_perm pp, pp.length_eq]
    omega
/-- where the next row is made: behind x all descends, y is the last greater one -/
structure Cut (l P : List Nat) (x : Nat) (A : List Nat) (y : Nat) (B : List Nat) : Prop where
  eq : l = P ++ x :: (A ++ y :: B)
  desc : (A ++ y :: B).Pairwise (· > ·)
  lt : x < y
  low : ∀ b ∈ B, b < x
theorem cut_or : ∀ l : List Nat, l.Nodup → l.Pairwise (· > ·) ∨ ∃ P x A y B, Cut l P x A y B
  | [], _ => .inl .nil
  | x :: r, nd => by
    obtain ⟨nx, nr⟩ := List.nodup_cons.1 nd
    rcases cut_or r nr with d | ⟨P, u, A, y, B, c⟩
    · by_cases q : ∀ y ∈ r, y < x
      · exact .inl (List.pairwise_cons.2 ⟨q, d⟩)
      · -- the last greater one
        have key : ∀ s : List Nat, s.Pairwise (· > ·) → x ∉ s → (¬ ∀ y ∈ s, y < x) → ∃ A y B, s = A ++ y :: B ∧ x < y ∧ ∀ b ∈ B, b < x := fun s => by
          induction s with
          | nil => intro _ _ h; exact absurd (fun _ h => nomatch h) h
          | cons z s ih =>
            intro d n h
            obtain ⟨d1, d2⟩ := List.pairwise_cons.1 d
            by_cases w : ∀ y ∈ s, y < x
            · refine ⟨[], z, s, rfl, ?_, w⟩
              have : ¬ z < x := fun z1 => h fun y hy => (List.mem_cons.1 hy).elim (fun e => e ▸ z1) (w y)
              have ne : x ≠ z := fun e => n (e ▸ List.mem_cons_self)
              omega
            · obtain ⟨A, y, B, rfl, h1, h2⟩ := ih d2 (fun e => n (List.mem_cons_of_mem _ e)) w
              exact ⟨z :: A, y, B, rfl, h1, h2⟩
        obtain ⟨A, y, B, rfl, h1, h2⟩ := key r d nx q
        exact .inr ⟨[], x, A, y, B, rfl, d, h1, h2⟩
    · exact .inr ⟨x :: P, u, A, y, B, by rw [c.eq]; rfl, c.desc, c.lt, c.low⟩
theorem Cut.perm {l P A B : List Nat} {x y : Nat} (c : Cut l P x A y B) : (P ++ y :: (A ++ x :: B).reverse).Perm l := by
  rw [c.eq]
  refine (List.Perm.refl P).append ?_
  have p1 : (y :: (A ++ x :: B).reverse).Perm (y :: (A ++ x :: B)) := (List.reverse_perm _).cons _
  refine p1.trans ?_
  have p2 : (A ++ x :: B).Perm (x :: (A ++ B)) := List.perm_middle
  have p3 : (A ++ y :: B).Perm (y :: (A ++ B)) := List.perm_middle
  exact (p2.cons y).trans ((List.Perm.swap x y _).trans (p3.symm.cons x))
theorem Cut.num {l P A B : List Nat} {x y : Nat} (c : Cut l P x A y B) : num (P ++ y :: (A ++ x :: B).reverse) = num l + 1 := by
  have pm : (y :: (A ++ x :: B).reverse).Perm (x :: (A ++ y :: B)) := by
    have := c.perm
    rw [c.eq] at this
    exact (List.perm_append_left_iff P).1 this
  have base := num_app_perm pm P
  obtain ⟨dA, dyB, dAB⟩ := List.pairwise_append.1 c.desc
  obtain ⟨dy, dB⟩ := List.pairwise_cons.1 dyB
  have asc : (A ++ x :: B).reverse.Pairwise (· < ·) := by
    rw [List.pairwise_reverse]
    refine List.pairwise_append.2 ⟨dA, List.pairwise_cons.2 ⟨fun b hb => c.low b hb, dB⟩, fun a ha b hb => ?_⟩
    have ya := dAB a ha y List.mem_cons_self
    rcases List.mem_cons.1 hb with rfl | hb
    · have := c.lt; show b < a; have : y < a := ya; omega
    · exact dAB a ha b (List.mem_cons_of_mem _ hb)
  have n1 : PM.num (y :: (A ++ x :: B).reverse) = (B.length + 1) * F (A ++ x :: B).length := by
    show cnt y _ * F _ + PM.num _ = _
    rw [num_asc asc, cnt_perm (List.reverse_perm _), List.length_reverse, cnt_app, cnt_cons, if_pos c.lt, cnt_none (l := A) fun a ha => Nat.le_of_lt (dAB a ha y List.mem_cons_self), cnt_all (l := B) fun b hb => Nat.lt_trans (c.low b hb) c.lt]
    rw [Nat.add_zero, Nat.zero_add, Nat.add_comm 1]
  have n2 : PM.num (x :: (A ++ y :: B)) + 1 = (B.length + 1) * F (A ++ y :: B).length := by
    show cnt x _ * F _ + PM.num _ + 1 = _
    have := num_desc c.desc
    rw [cnt_app, cnt_cons, if_neg (by have := c.lt; omega), cnt_none (l := A) fun a ha => by have : y < a := dAB a ha y List.mem_cons_self; have := c.lt; omega, cnt_all (l := B) c.low, Nat.zero_add, Nat.zero_add, Nat.succ_mul, ← this, Nat.add_assoc]
  have ll : (A ++ x :: B).length = (A ++ y :: B).length := by simp
  rw [ll] at n1
  rw [← c.eq] at base
  omega
/-! ### numbers by their order alone -/
theorem cnt_two {α : Type} {f g : α → Nat} {a : α} : ∀ {l : List α}, (∀ b ∈ l, f b < f a ↔ g b < g a) → cnt (f a) (l.map f) = cnt (g a) (l.map g)
  | [], _ => rfl
  | b :: l, h => by
    rw [List.map_cons, List.map_cons, cnt_cons, cnt_cons, cnt_two fun z hz => h z (List.mem_cons_of_mem _ hz)]
    have := h b List.mem_cons_self
    by_cases q : f b < f a
    · rw [if_pos q, if_pos (this.1 q)]
    · rw [if_neg q, if_neg fun z => q (this.2 z)]
theorem num_two {α : Type} {f g : α → Nat} : ∀ {l : List α}, (∀ a ∈ l, ∀ b ∈ l, f b < f a ↔ g b < g a) → num (l.map f) = num (l.map g)
  | [], _ => rfl
  | a :: l, h => by
    show cnt (f a) (l.map f) * F (l.map f).length + num (l.map f) = cnt (g a) (l.map g) * F (l.map g).length + num (l.map g)
    rw [List.length_map, List.length_map, cnt_two fun b hb => h a List.mem_cons_self b (List.mem_cons_of_mem _ hb), num_two fun x hx y hy => h x (List.mem_cons_of_mem _ hx) y (List.mem_cons_of_mem _ hy)]
/-- of all below n just x are less than x -/
theorem cnt_range {x n : Nat} {r : List Nat} (p : (x :: r).Perm (List.range n)) : cnt x r = x := by
  have hx := List.mem_range.1 (p.mem_iff.1 List.mem_cons_self)
  have h := cnt_at (l := List.range n) List.pairwise_lt_range (i := x) (by rw [List.length_range]; exact hx)
  have e : (List.range n)[x]'(by rw [List.length_range]; exact hx) = x := List.getElem_range _
  have p2 := p.trans (erase_perm (l := List.range n) (i := x) (by rw [List.length_range]; exact hx))
  rw [e] at p2 h
  rw [cnt_perm p2.cons_inv]
  exact h
end PM
end
-- T251
section
set_option Elab.async false
set_option linter.all false
set_option maxRecDepth 100000
set_option maxHeartbeats 400000
/-! T251: numbers of shelves: counts, the shelf at a number, the number of a shelf -/
variable [TL.Tb]
namespace TL
open L2 PyProof.Rows PySem PySem.Spec TS RZ
theorem fac_F : ∀ n ∈ List.range 14, fac n = PM.F n := by decide +kernel
theorem F_big : ∀ n ∈ List.range 12, PM.F n < 1073741824 := by decide +kernel
theorem F_top : ∀ n ∈ List.range 14, PM.F n < 2 ^ 40 := by decide +kernel
theorem eqv_nilS (a : List Str) : PyData.eqv (toP (dS a)) (toP (.lst [])) = decide (a = []) := by
  cases a with
  | nil => rfl
  | cons x a =>
    show PyData.eqv (.list (_ :: _)) (.list []) = _
    simp [PyData.eqv, PyData.eqvAll]
theorem ne_nilS {a : List Str} {R : Rv → Prop} (h : R (.val (.bl (!decide (a = []))))) : dNe (dS a) (.lst []) R := by
  refine ⟨plns_str a, rfl, Nat.le_trans (Nat.min_le_right _ _) (by decide : 1 ≤ 60), ?_⟩
  rw [eqv_nilS]
  exact h
def S_isc6 : ST := fun ds n R => ∃ i : Int, ds = [.int i] ∧ R (.val (.bl (decide (0 ≤ i)))) n
theorem tree_is_count : ∀ ds n R, S_isc6 ds n R → B_is_count (ends R) (slots [true] ds 0) n := by
  rintro _ n R ⟨i, rfl, h⟩
  refine ⟨true, kbT _ _ (by decide +kernel), ?_⟩
  refine iteT ⟨false, kb _ _ (by decide +kernel), ?_⟩
  refine iteT ?_
  exact ⟨rfl, dn_of h⟩
def S_below6 : ST := fun ds n R => ∃ (i : Int) (k : Nat), ds = [.int i, eN k] ∧ R (.val (.bl (decide (0 ≤ i ∧ i < ((k : Nat) : Int))))) n
theorem tree_is_count_below : ∀ ds n R, S_below6 ds n R → B_is_count_below S_isc6 (ends R) (slots [true, true] ds 0) n := by
  rintro _ n R ⟨i, k, rfl, h⟩
  refine ⟨rfl, i, rfl, ?_⟩
  show (if decide (0 ≤ i) = true then _ else _)
  by_cases h0 : 0 ≤ i
  · rw [if_pos (decide_eq_true h0)]
    have e : decide (0 ≤ i ∧ i < ((k : Nat) : Int)) = decide (i < ((k : Nat) : Int)) := by simp [h0]
    show sto (Rv.val (D.bl (decide (i < ((k : Nat) : Int))))) = true ∧ dn R (Rv.val (D.bl (decide (i < ((k : Nat) : Int))))) n
    rw [e] at h
    exact ⟨rfl, dn_of h⟩
  · rw [if_neg (by rw [decide_eq_false h0]; simp)]
    have e : decide (0 ≤ i ∧ i < ((k : Nat) : Int)) = false := decide_eq_false fun z => h0 z.1
    rw [e] at h
    exact ⟨rfl, dn_of h⟩
def S_sorted6 : ST := fun ds n R => ∃ xs : List Str, ds = [dS xs] ∧ Cat xs ∧ R (.new (.sh xs xs)) n
theorem row_self6 {xs : List Str} (cat : Cat xs) : Row xs xs := ⟨fun _ h => h, cat.2.2.2, rfl⟩
theorem tree_sorted_shelf : ∀ ds n R, S_sorted6 ds n R → B_sorted_shelf (ends R) (slots [true] ds 0) n := by
  rintro _ n R ⟨xs, rfl, cat, h⟩
  exact ⟨xs, xs, rfl, rfl, cat, row_self6 cat, rfl, dn_of h⟩
def S_mirr6 : ST := fun ds n R => ∃ xs ys : List Str, ds = [.sh xs ys] ∧ Cat xs ∧ Row xs ys ∧ R (.new (.sh xs ys.reverse)) n
theorem row_rev6 {xs ys : List Str} (row : Row xs ys) : Row xs ys.reverse := ⟨fun y hy => row.1 y (List.mem_reverse.1 hy), (List.reverse_perm ys).nodup_iff.2 row.2.1, by rw [List.length_reverse]; exact row.2.2⟩
theorem tree_mirrored : ∀ ds n R, S_mirr6 ds n R → B_mirrored S_check (ends R) (slots [true] ds 0) n := by
  rintro _ n R ⟨xs, ys, rfl, cat, row, h⟩
  refine ⟨rfl, xs, ys, rfl, ?_⟩
  refine ⟨rfl, xs, ys, rfl, rfl, xs, ys, rfl, ?_⟩
  exact ⟨xs, ys.reverse, rfl, by show D.lst (ys.map D.str).reverse = _; rw [← List.map_reverse], cat, row_rev6 row, rfl, dn_of h⟩
/-! ### the shelf at a number -/
theorem row_dec {xs : List Str} (cat : Cat xs) {N : Nat} (h : N < PM.F xs.length) : Row xs (PM.dec xs.length N xs) := by
  have p := PM.dec_perm xs.length N xs rfl h
  exact ⟨fun y hy => p.mem_iff.1 hy, p.nodup_iff.2 cat.2.2.2, p.length_eq⟩
abbrev shI : TSt := (tlSq (tlWhile (tlT (tlOp dNe (tlV 2) (tlLst tlNil))) (tlSq (tlSet 5 (tlB dFac (tlCons (tlOp dSub (tlB dLen (tlCons (tlV 2) tlNil)) (tlC (.int 1))) tlNil))) (tlSq (tlAppPop 3 2 (tlOp dFdiv (tlV 4) (tlV 5))) (tlSet 4 (tlOp dMod (tlV 4) (tlV 5)))))) (tlRet (tlShelf (tlV 0) (tlV 3))))
theorem sh_i {xs : List Str} {N n : Nat} {r0 : Option Rv} {E : TEn} (cat : Cat xs) (few : xs.length ≤ 12) (hN : N < PM.F xs.length) (h : E.rt (.new (.sh xs (PM.dec xs.length N xs))) n) :
    shI E [some (.bor (dS xs)), r0, some (.new (dS xs)), some (.new (dS [])), some (.val (eN N)), none] n := by
  refine ⟨fun m Γ k => k = n ∧ ∃ (left row : List Str) (rest : Nat) (x5 : Option Rv), Γ = [some (.bor (dS xs)), r0, some (.new (dS left)), some (.new (dS row)), some (.val (eN rest)), x5] ∧ m = left.length ∧ left.length ≤ 12 ∧ row.length ≤ 12 ∧ row.length + left.length ≤ 12 ∧ rest < PM.F left.length ∧ row ++ PM.dec left.length rest left = PM.dec xs.length N xs, ⟨_, rfl, xs, [], N, none, rfl, rfl, few, Nat.zero_le _, by simpa using few, hN, rfl⟩, ?_⟩
  rintro m Γ k ⟨rfl, left, row, rest, x5, rfl, rfl, f1, f2, f3, hr, e⟩
  refine ⟨rfl, small_len, ne_nilS ?_⟩
  show (if (!decide (left = [])) = true then _ else _)
  by_cases z : left = []
  · subst z
    rw [if_neg (by simp)]
    have e2 : row = PM.dec xs.length N xs := by rw [← e]; simp [PM.dec]
    subst e2
    exact ⟨xs, _, rfl, rfl, cat, row_dec cat hN, rfl, h⟩
  · rw [if_pos (by simp [z])]
    obtain ⟨x, l, rfl⟩ := List.exists_cons_of_ne_nil z
    have len : (x :: l).length = l.length + 1 := rfl
    have hm : l.length ≤ 11 := by omega
    have ef := fac_F l.length (List.mem_range.2 (by omega))
    have eb := F_big l.length (List.mem_range.2 (by omega))
    have pos := PM.F_pos l.length
    rw [len] at hr
    have lt := PM.div_lt hr
    have mm := Nat.mod_lt rest pos
    refine ⟨l.length, by show (((x :: l).map D.str).length : Int) - 1 = _; rw [List.length_map, len]; omega, by omega, ?_⟩
    rw [ef]
    refine ⟨row.map D.str, (x :: l).map D.str, rfl, rfl, by rw [List.length_map]; omega, ?_⟩
    refine ⟨by omega, by omega, rest / PM.F l.length, .str ((x :: l)[rest / PM.F l.length]'(by rw [len]; exact lt)), ?_, ?_, by omega, ?_⟩
    · show D.int (((rest : Nat) : Int) / ((PM.F l.length : Nat) : Int)) = _
      rw [Int.natCast_ediv]
    · rw [List.getElem?_map, List.getElem?_eq_getElem (by rw [len]; exact lt)]
      rfl
    · refine ⟨by omega, ?_⟩
      have le : ((x :: l).eraseIdx (rest / PM.F l.length)).length = l.length := by rw [List.length_eraseIdx_of_lt (by rw [len]; exact lt)]; rfl
      refine ⟨((x :: l).eraseIdx (rest / PM.F l.length)).length, by rw [le]; omega, rfl, (x :: l).eraseIdx (rest / PM.F l.length), row ++ [(x :: l)[rest / PM.F l.length]'(by rw [len]; exact lt)], rest % PM.F l.length, some (.val (eN (PM.F l.length))), ?_, rfl, by rw [le]; omega, by rw [List.length_append, List.length_singleton]; omega, by rw [le, List.length_append, List.length_singleton]; omega, by rw [le]; exact mm, ?_⟩
      · have e1 : ((x :: l).map D.str).eraseIdx (rest / PM.F l.length) = ((x :: l).eraseIdx (rest / PM.F l.length)).map D.str := PM.erase_map ..
        show [some (Rv.bor (dS xs)), r0, some (Rv.new (.lst (((x :: l).map D.str).eraseIdx _))), some (Rv.new (.lst (row.map D.str ++ [_]))), some (Rv.val (.int (((rest : Nat) : Int) % ((PM.F l.length : Nat) : Int)))), _] = _
        have e3 : (row ++ [(x :: l)[rest / PM.F l.length]'(by rw [len]; exact lt)]).map D.str = row.map D.str ++ [D.str ((x :: l)[rest / PM.F l.length]'(by rw [len]; exact lt))] := by rw [List.map_append]; rfl
        rw [e1, ← Int.natCast_emod]
        show _ = [_, _, _, some (Rv.new (.lst ((row ++ [(x :: l)[rest / PM.F l.length]'(by rw [len]; exact lt)]).map D.str))), _, _]
        rw [e3]
      · rw [le, List.append_assoc]
        rw [← e]
        show _ = row ++ PM.dec (l.length + 1) rest (x :: l)
        conv => rhs; unfold PM.dec
        rw [List.getElem?_eq_getElem (by rw [len]; exact lt)]
        rfl
def S_shat : ST := fun ds n R => ∃ (xs : List Str) (N : Nat), ds = [dS xs, eN N] ∧ Cat xs ∧ xs.length ≤ 12 ∧ N < PM.F xs.length ∧ R (.new (.sh xs (PM.dec xs.length N xs))) n
theorem tree_shelf_at : ∀ ds n R, S_shat ds n R → B_shelf_at S_is_catalogue S_below6 (ends R) (slots [true, false] ds 4) n := by
  rintro _ n R ⟨xs, N, rfl, cat, few, hN, h⟩
  have ef := fac_F xs.length (List.mem_range.2 (by omega))
  refine ⟨rfl, xs, rfl, cat, ?_⟩
  refine ⟨xs.length, by show (((xs.map D.str).length : Nat) : Int) = _; rw [List.length_map], by omega, rfl, (N : Int), PM.F xs.length, by rw [ef]; rfl, ?_⟩
  rw [decide_eq_true (by constructor <;> omega)]
  exact ⟨rfl, small_len, rfl, rfl, rfl, sh_i cat few hN (dn_of h)⟩
def X_shat (cI : Addr) : STX := fun ds n R Ex => ∃ (xs : List Str) (i : Int), ds = [dS xs, .int i] ∧ Cat xs ∧ xs.length ≤ 12 ∧ ¬ (0 ≤ i ∧ i < ((PM.F xs.length : Nat) : Int)) ∧ Ex cI (.int i) n
theorem tree_shelf_atX {cC cI : Addr} : ∀ ds n R Ex, X_shat cI ds n R Ex → BX_shelf_at S_is_catalogue S_below6 cC cI (exY (dnX Ex)) (ends R) (slots [false, false] ds 4) n := by
  rintro _ n R Ex ⟨xs, i, rfl, cat, few, no, h⟩
  have ef := fac_F xs.length (List.mem_range.2 (by omega))
  refine ⟨rfl, xs, rfl, cat, ?_⟩
  refine ⟨xs.length, by show (((xs.map D.str).length : Nat) : Int) = _; rw [List.length_map], by omega, rfl, i, PM.F xs.length, by rw [ef]; rfl, ?_⟩
  rw [decide_eq_false no]
  exact ⟨rfl, dnX_of h⟩
/-! ### the number of a shelf -/
theorem cut_from {α : Type} (zs : List α) (k : Nat) : cutL zs (some ((k : Nat) : Int)) none = zs.drop k := by
  unfold cutL
  rw [HT.sIx_nat]
  show (zs.drop (min k zs.length)).take (zs.length - min k zs.length) = _
  by_cases h : k ≤ zs.length
  · rw [Nat.min_eq_left h, List.take_of_length_le (by rw [List.length_drop]; omega)]
  · rw [Nat.min_eq_right (by omega), List.drop_of_length_le (Nat.le_refl _), List.drop_of_length_le (by omega), List.take_nil]
theorem enum_at {ds : List D} {i : Nat} {d : D} (h : (enumD ds)[i]? = some d) : ∃ e, ds[i]? = some e ∧ d = .tup [eN i, e] := by
  unfold enumD at h
  simp only [List.getElem?_map, List.getElem?_zipIdx, Option.map_map, Option.map_eq_some_iff] at h
  obtain ⟨e, h1, h2⟩ := h
  exact ⟨e, h1, by rw [← h2]; simp⟩
def S_shnum : ST := fun ds n R => ∃ xs ys : List Str, ds = [.sh xs ys] ∧ Cat xs ∧ Row xs ys ∧ xs.length ≤ 12 ∧ R (.val (eN (PM.num (rk xs ys)))) n
/-- what the places ahead of i tell -/
def numTo (l : List Nat) (i : Nat) : Nat := PM.num l - PM.num (l.drop i)
theorem num_step : ∀ {l : List Nat} {i x : Nat}, l[i]? = some x → PM.num (l.drop i) = PM.cnt x (l.drop (i + 1)) * PM.F (l.drop (i + 1)).length + PM.num (l.drop (i + 1)) := fun {l i x} h => by
  obtain ⟨lt, e⟩ := List.getElem?_eq_some_iff.1 h
  rw [List.drop_eq_getElem_cons lt, e]
  rfl
theorem num_mono : ∀ (l : List Nat) (i : Nat), PM.num (l.drop i) ≤ PM.num l
  | _, 0 => Nat.le_refl _
  | [], i + 1 => by simp
  | x :: l, i + 1 => Nat.le_trans (num_mono l i) (Nat.le_add_left _ _)
theorem tree_shelf_number : ∀ ds n R, S_shnum ds n R → B_shelf_number S_ranks (ends R) (slots [true] ds 6) n := by
  rintro _ n R ⟨xs, ys, rfl, cat, row, few, h⟩
  refine ⟨rfl, xs, ys, rfl, cat, row, ?_⟩
  rw [rk_rnk]
  generalize hes : rk xs ys = es at h
  have les : es.length ≤ 12 := by
    have := row.2.2
    rw [← hes]
    unfold rk
    rw [List.length_map]
    omega
  refine ⟨Nat.le_of_ble_eq_true rfl, ?_⟩
  refine forF_inv (j := 0) (fun i Γ k => k = n ∧ ∃ x3 x4 x5 x6 : Option Rv, Γ = [some (.bor (.sh xs ys)), some (.val (dN es)), some (.val (eN (numTo es i))), x3, x4, x5, x6]) ⟨rfl, none, none, none, none, ?_⟩ ?_ ?_
  · unfold numTo
    rw [List.drop_zero, Nat.sub_self]
    rfl
  · rintro i d Γ k hd ⟨rfl, x3, x4, x5, x6, rfl⟩
    obtain ⟨e, he, rfl⟩ := enum_at hd
    rw [List.getElem?_map] at he
    obtain ⟨x, hx, rfl⟩ := Option.map_eq_some_iff.1 he
    have li : i < es.length := (List.getElem?_eq_some_iff.1 hx).1
    refine ⟨_, rfl, fun kk hkk => ?_⟩
    refine ⟨rfl, ?_⟩
    rw [Nat.zero_add] at hkk ⊢
    have ec : cutL (es.map eN) (some (((i : Nat) : Int) + 1)) none = (es.drop (i + 1)).map eN := by
      rw [show (((i : Nat) : Int) + 1) = ((i + 1 : Nat) : Int) by omega, cut_from, List.map_drop]
    have l2 : (es.drop (i + 1)).length ≤ 11 := by rw [List.length_drop]; omega
    have ef := fac_F (es.drop (i + 1)).length (List.mem_range.2 (by omega))
    have et := F_top (es.drop (i + 1)).length (List.mem_range.2 (by omega))
    show (tlAugN 2 (tlOp dMul (tlB dLen (tlCons (tlLc (tlSeq (tlV 5)) (.nm 6) (tlT (tlOp dLt (tlV 6) (tlV 4))) (tlV 6) [6]) tlNil)) (tlB dFac (tlCons (tlB dLen (tlCons (tlV 5) tlNil)) tlNil)))) { nx := kk, ct := kk, bk := (ends R).nx, rt := (ends R).rt } [some (.bor (.sh xs ys)), some (.val (dN es)), some (.val (eN (numTo es i))), some (.val (eN i)), some (.val (eN x)), some (.new (.lst (cutL (es.map eN) (some (((i : Nat) : Int) + 1)) none))), x6] k
    rw [ec]
    refine ⟨by rw [List.length_map]; omega, ?_⟩
    refine lcF_filter (enc := eN) (f := eN) (b := fun y => decide (y < x)) (fun y hy n R hR => ?_) (fun y hy _ n R hR => hR _ rfl rfl) ?_
    · show R (decide (((y : Nat) : Int) < ((x : Nat) : Int))) n
      rw [show decide (((y : Nat) : Int) < ((x : Nat) : Int)) = decide (y < x) from decide_eq_decide.2 (by omega)]
      exact hR
    · rw [List.nil_append]
      have cl := PM.cnt_le x (es.drop (i + 1))
      refine ⟨(es.drop (i + 1)).length, by show (((List.map eN (es.drop (i + 1))).length : Nat) : Int) = _; rw [List.length_map], by omega, ?_⟩
      rw [ef]
      refine ⟨.inr ⟨by omega, by omega⟩, ?_⟩
      refine hkk _ _ ⟨rfl, some (.val (eN i)), some (.val (eN x)), some (.new (.lst ((es.drop (i + 1)).map eN))), x6, ?_⟩
      have st := num_step hx
      have m1 := num_mono es i
      have e2 : ((numTo es i : Nat) : Int) + (((((es.drop (i + 1)).filter fun y => decide (y < x)).map eN).length : Nat) : Int) * ((PM.F (es.drop (i + 1)).length : Nat) : Int) = ((numTo es (i + 1) : Nat) : Int) := by
        rw [List.length_map]
        show ((numTo es i : Nat) : Int) + ((PM.cnt x (es.drop (i + 1)) : Nat) : Int) * _ = _
        rw [← Int.natCast_mul, ← Int.natCast_add]
        congr 1
        unfold numTo
        omega
      show [_, _, some (Rv.val (D.int (((numTo es i : Nat) : Int) + _))), _, _, _, _] = _
      rw [e2]
  · rintro Γ k ⟨rfl, x3, x4, x5, x6, rfl⟩
    have e : numTo es (0 + (enumD (es.map eN)).length) = PM.num es := by
      unfold numTo
      rw [List.drop_of_length_le (by simp [enumD])]
      rfl
    rw [e]
    exact dn_of h
end TL
end
-- T252
section
set_option Elab.async false
set_option linter.all false
set_option maxRecDepth 100000
set_option maxHeartbeats 400000
/-! T252: numbers of shelves: the law's factorials, the next row, a number too great -/
variable [TL.Tb]
namespace TL
open L2 PyProof.Rows PySem PySem.Spec TS RZ
def S_wmany6 : ST := fun ds n R => ∃ m : Nat, ds = [eN m] ∧ m ≤ 12 ∧ R (.val (eN (PM.F m))) n
theorem tree_w_many : ∀ ds n R, S_wmany6 ds n R → B_w_many (ends R) (slots [true] ds 2) n := by
  rintro _ n R ⟨m, rfl, few, h⟩
  refine ⟨⟨by decide, by decide, by omega, by omega⟩, by decide, ?_⟩
  show forF _ _ _ ((rng 2 ((m : Int) + 1)).map D.int) _ _
  rw [show ((m : Int) + 1) = ((m + 1 : Nat) : Int) by omega]
  have len : ((rng 2 ((m + 1 : Nat) : Int)).map D.int).length = m - 1 := by
    simp [rng]
    omega
  refine forF_inv (j := 0) (fun i Γ k => k = n ∧ ∃ x2 : Option Rv, Γ = [some (.bor (eN m)), some (.val (eN (PM.F (i + 1)))), x2]) ⟨rfl, none, rfl⟩ ?_ ?_
  · rintro i d Γ k hd ⟨rfl, x2, rfl⟩
    obtain ⟨li, rfl⟩ := rng_get2 (a := 2) rfl hd
    refine ⟨_, rfl, fun kk hkk => ?_⟩
    rw [Nat.zero_add] at hkk ⊢
    refine ⟨.inr ⟨by omega, by omega⟩, ?_⟩
    refine hkk _ _ ⟨rfl, some (.val (eN (2 + i))), ?_⟩
    have e : ((PM.F (i + 1) : Nat) : Int) * ((2 + i : Nat) : Int) = ((PM.F (i + 1 + 1) : Nat) : Int) := by
      rw [← Int.natCast_mul]
      congr 1
      show _ = (i + 1 + 1) * PM.F (i + 1)
      rw [Nat.mul_comm, show 2 + i = i + 1 + 1 by omega]
    show [_, some (Rv.val (D.int (_ * _))), _] = _
    rw [e]
  · rintro Γ k ⟨rfl, x2, rfl⟩
    rw [Nat.zero_add, len]
    have e : PM.F (m - 1 + 1) = PM.F m := by
      cases m with
      | zero => rfl
      | succ m => rfl
    rw [e]
    exact dn_of h
/-! ### the next row -/
theorem atI_last {α : Type} {l : List α} {x : α} : atI (l ++ [x]) (-1) = some x := by
  have e : ixN (l ++ [x]).length (-1) = some l.length := by
    unfold ixN
    simp
    omega
  exact atI_of e (by rw [List.getElem?_append_right (Nat.le_refl _), Nat.sub_self]; rfl)
def upsL (l : List Nat) : List Nat := (List.range (l.length - 1)).filter fun i => decide (l.getD i 0 < l.getD (i + 1) 0)
def grtL (l : List Nat) (a : Nat) : List Nat := (List.range' (a + 1) (l.length - (a + 1))).filter fun i => decide (l.getD a 0 < l.getD i 0)
theorem getD_at {l : List Nat} {i : Nat} (h : i < l.length) : l[i]? = some (l.getD i 0) := by
  rw [List.getD_eq_getElem?_getD, List.getElem?_eq_getElem h]
  rfl
theorem ups_desc {l : List Nat} (d : l.Pairwise (· > ·)) : upsL l = [] := by
  refine List.filter_eq_nil_iff.2 fun i hi z => ?_
  have li := List.mem_range.1 hi
  have z := of_decide_eq_true z
  have := List.pairwise_iff_getElem.1 d i (i + 1) (by omega) (by omega) (by omega)
  have a := getD_at (l := l) (i := i) (by omega)
  have b := getD_at (l := l) (i := i + 1) (by omega)
  rw [List.getElem?_eq_getElem (by omega)] at a b
  have a := Option.some.inj a
  have b := Option.some.inj b
  omega
section
variable {l P A B : List Nat} {x y : Nat}
theorem pcut_len (c : PM.Cut l P x A y B) : l.length = P.length + (A.length + B.length + 2) := by
  rw [c.eq]
  simp
  omega
theorem pcut_x (c : PM.Cut l P x A y B) : l.getD P.length 0 = x := by
  rw [c.eq, List.getD_eq_getElem?_getD, List.getElem?_append_right (Nat.le_refl _), Nat.sub_self]
  rfl
theorem pcut_in (c : PM.Cut l P x A y B) {i : Nat} (h : i < A.length + 1 + B.length) : l.getD (P.length + 1 + i) 0 = (A ++ y :: B).getD i 0 := by
  rw [c.eq, List.getD_eq_getElem?_getD, List.getD_eq_getElem?_getD, List.getElem?_append_right (by omega), show P.length + 1 + i - P.length = i + 1 by omega]
  rfl
theorem pcut_y (c : PM.Cut l P x A y B) : l.getD (P.length + 1 + A.length) 0 = y := by
  rw [pcut_in c (by omega), List.getD_eq_getElem?_getD, List.getElem?_append_right (Nat.le_refl _), Nat.sub_self]
  rfl
theorem ups_cut (c : PM.Cut l P x A y B) : ∃ U, upsL l = U ++ [P.length] := by
  have ll := pcut_len c
  have e : List.range (l.length - 1) = List.range P.length ++ P.length :: List.range' (P.length + 1) (A.length + B.length) := by
    rw [List.range_eq_range', List.range_eq_range', show l.length - 1 = P.length + (1 + (A.length + B.length)) by omega, ← List.range'_append_1, Nat.zero_add, Nat.add_comm 1, List.range'_succ]
  unfold upsL
  rw [e, List.filter_append, List.filter_cons]
  have h1 : l.getD P.length 0 < l.getD (P.length + 1) 0 := by
    rw [pcut_x c]
    have := pcut_in c (i := 0) (by omega)
    rw [Nat.add_zero] at this
    rw [this]
    cases hA : A with
    | nil => exact c.lt
    | cons a A' =>
      have d := c.desc
      rw [hA] at d
      have : y < a := (List.pairwise_cons.1 d).1 y (by simp)
      have := c.lt
      show x < a
      omega
  rw [if_pos (by rw [decide_eq_true h1])]
  have h2 : (List.range' (P.length + 1) (A.length + B.length)).filter (fun i => decide (l.getD i 0 < l.getD (i + 1) 0)) = [] := by
    refine List.filter_eq_nil_iff.2 fun i hi z => ?_
    have z := of_decide_eq_true z
    obtain ⟨a1, a2⟩ := List.mem_range'_1.1 hi
    obtain ⟨j, rfl⟩ : ∃ j, i = P.length + 1 + j := ⟨i - (P.length + 1), by omega⟩
    have la : (A ++ y :: B).length = A.length + 1 + B.length := by simp; omega
    rw [pcut_in c (by omega), show P.length + 1 + j + 1 = P.length + 1 + (j + 1) by omega, pcut_in c (by omega)] at z
    have := List.pairwise_iff_getElem.1 c.desc j (j + 1) (by omega) (by omega) (by omega)
    have a := getD_at (l := A ++ y :: B) (i := j) (by omega)
    have b := getD_at (l := A ++ y :: B) (i := j + 1) (by omega)
    rw [List.getElem?_eq_getElem (by omega)] at a b
    have a := Option.some.inj a
    have b := Option.some.inj b
    omega
  rw [h2]
  exact ⟨_, rfl⟩
theorem grt_cut (c : PM.Cut l P x A y B) : ∃ U, grtL l P.length = U ++ [P.length + 1 + A.length] := by
  have ll := pcut_len c
  have e : List.range' (P.length + 1) (l.length - (P.length + 1)) = List.range' (P.length + 1) A.length ++ (P.length + 1 + A.length) :: List.range' (P.length + 1 + A.length + 1) B.length := by
    rw [show l.length - (P.length + 1) = A.length + (B.length + 1) by omega, ← List.range'_append_1, List.range'_succ]
  unfold grtL
  rw [e, List.filter_append, List.filter_cons]
  rw [if_pos (by rw [pcut_x c, pcut_y c, decide_eq_true c.lt])]
  have h2 : (List.range' (P.length + 1 + A.length + 1) B.length).filter (fun i => decide (l.getD P.length 0 < l.getD i 0)) = [] := by
    refine List.filter_eq_nil_iff.2 fun i hi z => ?_
    have z := of_decide_eq_true z
    obtain ⟨a1, a2⟩ := List.mem_range'_1.1 hi
    obtain ⟨j, rfl⟩ : ∃ j, i = P.length + 1 + (A.length + (j + 1)) := ⟨i - (P.length + 1 + A.length + 1), by omega⟩
    rw [pcut_x c, pcut_in c (by omega), List.getD_eq_getElem?_getD, List.getElem?_append_right (by omega), Nat.add_sub_cancel_left, List.getElem?_cons_succ, List.getElem?_eq_getElem (by omega)] at z
    have := c.low _ (List.getElem_mem (l := B) (n := j) (by omega))
    have z : x < B[j]'(by omega) := z
    omega
  rw [h2]
  exact ⟨_, rfl⟩
theorem swap_cut (c : PM.Cut l P x A y B) : ((l.set P.length y).set (P.length + 1 + A.length) x) = P ++ y :: (A ++ x :: B) := by
  rw [c.eq]
  have h1 : (P ++ x :: (A ++ y :: B)).set P.length y = P ++ y :: (A ++ y :: B) := by
    rw [List.set_append_right _ _ (Nat.le_refl _), Nat.sub_self]
    rfl
  rw [h1, List.set_append_right _ _ (by omega), show P.length + 1 + A.length - P.length = A.length + 1 by omega, List.set_cons_succ, List.set_append_right _ _ (Nat.le_refl _), Nat.sub_self]
  rfl
end
theorem eq_nilN {a : List Nat} {R : Rv → Prop} (h : R (.val (.bl (decide (a = []))))) : dEq (dN a) (.lst []) R := by
  refine ⟨pln_nats a, rfl, Nat.le_trans (Nat.min_le_right _ _) (by decide : 1 ≤ 60), ?_⟩
  have e : PyData.eqv (toP (dN a)) (toP (.lst [])) = decide (a = []) := by
    cases a with
    | nil => rfl
    | cons x a =>
      show PyData.eqv (.list (_ :: _)) (.list []) = _
      simp [PyData.eqv, PyData.eqvAll]
  rw [e]
  exact h
def S_wnext : ST := fun ds n R => ∃ m N : Nat, ds = [dN (PM.dec m N (List.range m))] ∧ 1 ≤ m ∧ m ≤ 12 ∧ N < PM.F m ∧ (N + 1 < PM.F m → R (.new (dN (PM.dec m (N + 1) (List.range m)))) n) ∧ (N + 1 = PM.F m → R (.val .non) n)
abbrev nxC : TSt := (tlSq (tlSet 3 (tlLc (tlRng2 (tlOp dAdd (tlV 2) (tlC (.int 1))) (tlB dLen (tlCons (tlV 0) tlNil))) (.nm 4) (tlT (tlOp dGt (tlOp dIx (tlV 0) (tlV 4)) (tlOp dIx (tlV 0) (tlV 2)))) (tlV 4) [4])) (tlSq (tlSet 5 (tlB dList (tlCons (tlV 0) tlNil))) (tlSq (tlSet2 5 (tlOp dIx (tlV 0) (tlOp dIx (tlV 3) (tlUn dNeg (tlC (.int 1))))) (tlOp dIx (tlV 0) (tlV 2)) (tlV 2) (tlOp dIx (tlV 3) (tlUn dNeg (tlC (.int 1))))) (tlRet (tlOp dAdd (tlSl (tlV 5) none (some (tlOp dAdd (tlV 2) (tlC (.int 1))))) (tlRevA (tlSl (tlV 5) (some (tlOp dAdd (tlV 2) (tlC (.int 1)))) none)))))))
theorem range'_map (a k : Nat) : ((rng ((a : Nat) : Int) ((k : Nat) : Int)).map D.int) = (List.range' a (k - a)).map eN := by
  unfold rng
  rw [List.map_map, show ((k : Int) - (a : Int)).toNat = k - a by omega, List.range'_eq_map_range, List.map_map]
  rfl
theorem nx_c {l P A B : List Nat} {x y : Nat} {x1 x3 x4 x5 : Option Rv} {E : TEn} {n : Nat} (c : PM.Cut l P x A y B) (few : l.length ≤ 12) (h : E.rt (.new (dN (P ++ y :: (A ++ x :: B).reverse))) n) :
    nxC E [some (.bor (dN l)), x1, some (.val (eN P.length)), x3, x4, x5] n := by
  have ll := pcut_len c
  have lm : (l.map eN).length = l.length := List.length_map _
  obtain ⟨U, hU⟩ := grt_cut c
  refine ⟨⟨by omega, by omega, by rw [lm]; omega, by rw [lm]; omega⟩, by simp [rng]; omega, ?_⟩
  show lcF _ _ _ _ ((rng (((P.length : Nat) : Int) + 1) ((((l.map eN).length : Nat)) : Int)).map D.int) _ _ _
  rw [lm, show (((P.length : Nat) : Int) + 1) = ((P.length + 1 : Nat) : Int) by omega, range'_map]
  refine lcF_filter (enc := eN) (f := eN) (b := fun i => decide (l.getD P.length 0 < l.getD i 0)) (fun i hi n R hR => ?_) (fun i hi _ n R hR => hR _ rfl rfl) ?_
  · obtain ⟨a1, a2⟩ := List.mem_range'_1.1 hi
    refine ⟨eN (l.getD i 0), atI_nat (by rw [List.getElem?_map, getD_at (by omega)]; rfl), eN (l.getD P.length 0), atI_nat (by rw [List.getElem?_map, getD_at (by omega)]; rfl), ?_⟩
    show R (decide (((l.getD P.length 0 : Nat) : Int) < ((l.getD i 0 : Nat) : Int))) n
    rw [show decide (((l.getD P.length 0 : Nat) : Int) < ((l.getD i 0 : Nat) : Int)) = decide (l.getD P.length 0 < l.getD i 0) from decide_eq_decide.2 (by omega)]
    exact hR
  rw [List.nil_append]
  show (tlSq _ _) _ [_, _, _, some (.new (dN (grtL l P.length))), _, _] _
  rw [hU]
  have last : atI ((U ++ [P.length + 1 + A.length]).map eN) (-1) = some (eN (P.length + 1 + A.length)) := by
    rw [List.map_append]
    exact atI_last
  have hy : atI (l.map eN) ((P.length + 1 + A.length : Nat) : Int) = some (eN y) := atI_nat (by rw [List.getElem?_map, getD_at (by omega), pcut_y c]; rfl)
  have hx : atI (l.map eN) ((P.length : Nat) : Int) = some (eN x) := atI_nat (by rw [List.getElem?_map, getD_at (by omega), pcut_x c]; rfl)
  have ix : ∀ {N k : Nat}, k < N → ixN N ((k : Nat) : Int) = some k := fun {N k} h => by
    unfold ixN
    rw [if_pos (by omega), if_pos (by omega)]
    simp
  refine ⟨_, last, _, hy, _, hx, rfl, rfl, P.length, ix (by rw [lm]; omega), _, last, P.length + 1 + A.length, ix (by rw [lm]; omega), ?_⟩
  have e : (((l.map eN).set P.length (eN y)).set (P.length + 1 + A.length) (eN x)) = (P ++ y :: (A ++ x :: B)).map eN := by
    rw [← swap_cut c, List.map_set, List.map_set]
  show (tlRet (tlOp dAdd (tlSl (tlV 5) none (some (tlOp dAdd (tlV 2) (tlC (.int 1))))) (tlRevA (tlSl (tlV 5) (some (tlOp dAdd (tlV 2) (tlC (.int 1)))) none)))) E [some (.bor (dN l)), x1, some (.val (eN P.length)), some (.new (dN (U ++ [P.length + 1 + A.length]))), x4, some (.new (.lst (((l.map eN).set P.length (eN y)).set (P.length + 1 + A.length) (eN x))))] n
  rw [e]
  have c1 : cutL ((P ++ y :: (A ++ x :: B)).map eN) none (some (((P.length : Nat) : Int) + 1)) = (P ++ [y]).map eN := by
    rw [show (((P.length : Nat) : Int) + 1) = ((P.length + 1 : Nat) : Int) by omega]
    unfold cutL
    rw [HT.sIx_nat]
    show (List.drop 0 _).take (min (P.length + 1) _ - 0) = _
    rw [List.drop_zero, Nat.sub_zero, Nat.min_eq_left (by simp), ← List.map_take]
    congr 1
    rw [show P ++ y :: (A ++ x :: B) = (P ++ [y]) ++ (A ++ x :: B) by simp]
    exact List.take_left' (by simp)
  have c2 : cutL ((P ++ y :: (A ++ x :: B)).map eN) (some (((P.length : Nat) : Int) + 1)) none = (A ++ x :: B).map eN := by
    rw [show (((P.length : Nat) : Int) + 1) = ((P.length + 1 : Nat) : Int) by omega, cut_from, ← List.map_drop]
    congr 1
    rw [show P ++ y :: (A ++ x :: B) = (P ++ [y]) ++ (A ++ x :: B) by simp]
    exact List.drop_left' (by simp)
  refine ⟨rfl, rfl, ?_⟩
  show dAdd (.lst (cutL ((P ++ y :: (A ++ x :: B)).map eN) none (some (((P.length : Nat) : Int) + 1)))) (.lst (cutL ((P ++ y :: (A ++ x :: B)).map eN) (some (((P.length : Nat) : Int) + 1)) none).reverse) (fun r => sto r = true ∧ E.rt r n)
  rw [c1, c2]
  refine ⟨by simp; omega, rfl, ?_⟩
  have e3 : (P ++ [y]).map eN ++ ((A ++ x :: B).map eN).reverse = (P ++ y :: (A ++ x :: B).reverse).map eN := by
    rw [← List.map_reverse, ← List.map_append]
    simp
  rw [e3]
  exact h
theorem tree_w_next : ∀ ds n R, S_wnext ds n R → B_w_next (ends R) (slots [true] ds 5) n := by
  rintro _ n R ⟨m, N, rfl, m1, few, hN, h1, h2⟩
  have pm := PM.dec_perm m N (List.range m) List.length_range hN
  have hn := PM.num_dec m N (List.range m) List.pairwise_lt_range List.length_range hN
  generalize PM.dec m N (List.range m) = l at pm hn ⊢
  have len : l.length = m := by rw [pm.length_eq, List.length_range]
  have nd : l.Nodup := pm.nodup_iff.2 List.nodup_range
  have lm : (l.map eN).length = l.length := List.length_map _
  refine ⟨by rw [lm]; omega, by rw [lm]; omega, by simp [rng]; omega, ?_⟩
  show lcF _ _ _ _ ((rng 0 ((((l.map eN).length : Nat) : Int) - 1)).map D.int) _ _ _
  rw [lm, show (((l.length : Nat) : Int) - 1) = ((l.length - 1 : Nat) : Int) by omega, rng_nat]
  refine lcF_filter (enc := eN) (f := eN) (b := fun i => decide (l.getD i 0 < l.getD (i + 1) 0)) (fun i hi n R hR => ?_) (fun i hi _ n R hR => hR _ rfl rfl) ?_
  · have li := List.mem_range.1 hi
    refine ⟨eN (l.getD i 0), atI_nat (by rw [List.getElem?_map, getD_at (by omega)]; rfl), eN (l.getD (i + 1) 0), ?_, ?_⟩
    · show atI _ (((i : Nat) : Int) + 1) = _
      rw [show (((i : Nat) : Int) + 1) = ((i + 1 : Nat) : Int) by omega]
      exact atI_nat (by rw [List.getElem?_map, getD_at (by omega)]; rfl)
    · show R (decide (((l.getD i 0 : Nat) : Int) < ((l.getD (i + 1) 0 : Nat) : Int))) n
      rw [show decide (((l.getD i 0 : Nat) : Int) < ((l.getD (i + 1) 0 : Nat) : Int)) = decide (l.getD i 0 < l.getD (i + 1) 0) from decide_eq_decide.2 (by omega)]
      exact hR
  rw [List.nil_append]
  show (tlSq _ _) _ [_, some (.new (dN (upsL l))), _, _, _, _] _
  rcases PM.cut_or l nd with d | ⟨P, x, A, y, B, c⟩
  · rw [ups_desc d]
    refine ⟨rfl, small_len, eq_nilN ?_⟩
    have := PM.num_desc d
    rw [len, hn] at this
    exact ⟨rfl, dn_of (h2 this)⟩
  · obtain ⟨U, hU⟩ := ups_cut c
    rw [hU]
    refine ⟨rfl, small_len, eq_nilN ?_⟩
    show (if decide (U ++ [P.length] = []) = true then _ else _)
    rw [if_neg (by simp)]
    refine ⟨_, (by rw [List.map_append]; exact atI_last : atI ((U ++ [P.length]).map eN) (-1) = some (eN P.length)), ?_⟩
    refine nx_c c (by omega) ?_
    have p2 := c.perm
    have n2 := c.num
    rw [hn] at n2
    have l2 : (P ++ y :: (A ++ x :: B).reverse).length = m := by rw [p2.length_eq, len]
    have e := PM.dec_num _ (List.range m) List.pairwise_lt_range (p2.trans pm)
    have lt := PM.num_lt (P ++ y :: (A ++ x :: B).reverse)
    rw [l2, n2] at e lt
    have := h1 lt
    rw [e] at this
    exact dn_of this
/-! ### a number too great -/
def S_wover (cI : Addr) : ST := fun ds n R => ∃ (xs : List Str) (i : Int), ds = [dS xs, .int i] ∧ Cat xs ∧ xs.length ≤ 12 ∧ ¬ (0 ≤ i ∧ i < ((PM.F xs.length : Nat) : Int)) ∧ R (.val (.bl true)) n
theorem tree_w_over {cI : Addr} : ∀ ds n R, S_wover cI ds n R → B_w_over (S_exact 4) (X_shat cI) (fun c => c = cI) (ends R) (slots [false, false] ds 2) n := by
  rintro _ n R ⟨xs, i, rfl, cat, few, no, h⟩
  refine ⟨rfl, xs, i, rfl, cat, few, no, rfl, rfl, ?_⟩
  refine ⟨rfl, rfl, .int i, rfl, rfl, rfl, dn_of h⟩
end TL
end
-- T14
section
set_option Elab.async false
set_option linter.all false
set_option maxRecDepth 100000
set_option maxHeartbeats 400000
/-! T14: the runs of a shelf, as they are told -/
variable [TL.Tb]
namespace TL
open L2 PyProof.Rows PySem PySem.Spec TS RZ
def oT : Option (List Str) → D
  | some t => tS t
  | none => .non
end TL
end
-- T15
section
set_option Elab.async false
set_option linter.all false
set_option maxRecDepth 100000
set_option maxHeartbeats 400000
/-! T15: all runs, told -/
namespace TL
open L2 PyProof.Rows PySem PySem.Spec TS RZ
end TL
end
-- T16
section
set_option Elab.async false
set_option linter.all false
set_option maxRecDepth 100000
set_option maxHeartbeats 400000
/-! T16: which tuples are runs -/
variable [TL.Tb]
namespace TL
open L2 PyProof.Rows PySem PySem.Spec TS RZ
theorem idx_eq {xs : List Str} {i : Nat} {z : Str} (nd : xs.Nodup) (h : xs[i]? = some z) : xs.idxOf z = i := by
  have at_ := (idx_at (List.mem_of_getElem? h)).1
  exact (List.getElem?_inj (List.getElem?_eq_some_iff.1 at_).1 nd).1 (at_.trans h.symm)
/-- a tuple of two books or more, neighbours in the catalogue, neighbours in the row -/
structure IsRun (xs ys t : List Str) : Prop where
  two : 2 ≤ t.length
  cat : ∃ a b, xs = a ++ t ++ b
  fits : Fits t ys
theorem sub_eq {m t : List Str} (nm : m.Nodup) (sub : ∀ y ∈ m, y ∈ t) (len : t.length ≤ m.length) : ∀ y ∈ t, y ∈ m := fun y hy => by
  apply Classical.byContradiction
  intro ny
  have := nodup_le (y :: m) t (List.nodup_cons.2 ⟨ny, nm⟩) fun z hz => (List.mem_cons.1 hz).elim (fun e => e ▸ hy) (sub z)
  rw [List.length_cons] at this
  omega
theorem raw_mem {xs ys t : List Str} (nd : xs.Nodup) (pm : ys.Perm xs) : t ∈ raw xs (rk xs ys) ↔ IsRun xs ys t := by
  have ndy : ys.Nodup := pm.nodup_iff.2 nd
  have len : (rk xs ys).length = ys.length := by unfold rk; rw [List.length_map]
  constructor
  · intro h
    unfold raw at h
    obtain ⟨b, hb, h⟩ := List.mem_flatMap.1 h
    obtain ⟨j, hj, h⟩ := List.mem_filterMap.1 h
    have lj := List.mem_range.1 hj
    rw [len] at lj
    have es : cutE (rk xs ys) b j = rk xs ((ys.drop b).take (j + 2)) := by unfold cutE rk; rw [List.map_take, List.map_drop]
    obtain ⟨sne, slen⟩ := cutE_ne (es := rk xs ys) (b := b) (j := j) (by omega)
    generalize hs : cutE (rk xs ys) b j = s at h es sne slen
    unfold piece at h
    split at h
    · next gap =>
      obtain rfl := Option.some.inj h
      have bound : ∀ x ∈ s, x < xs.length := fun x hx => by
        rw [es] at hx
        obtain ⟨y, hy, rfl⟩ := List.mem_map.1 hx
        exact idx_lt (pm.mem_iff.1 (List.mem_of_mem_drop (List.mem_of_mem_take hy)))
      have b1 := bound _ (mx_ok sne).1
      have tl : ((xs.drop (mn s)).take s.length).length = s.length := by rw [List.length_take, List.length_drop]; omega
      have ml : ((ys.drop b).take (j + 2)).length = s.length := by rw [es]; unfold rk; rw [List.length_map]
      have sub : ∀ y ∈ (ys.drop b).take (j + 2), y ∈ (xs.drop (mn s)).take s.length := fun y hy => by
        have hyx := pm.mem_iff.1 (List.mem_of_mem_drop (List.mem_of_mem_take hy))
        have hi : xs.idxOf y ∈ s := by rw [es]; exact List.mem_map.2 ⟨y, hy, rfl⟩
        have h1 := (mn_ok sne).2 _ hi
        have h2 := (mx_ok sne).2 _ hi
        refine List.mem_of_getElem? (i := xs.idxOf y - mn s) ?_
        rw [List.getElem?_take_of_lt (by omega), List.getElem?_drop, show mn s + (xs.idxOf y - mn s) = xs.idxOf y by omega]
        exact (idx_at hyx).1
      have back := sub_eq (ndy.sublist ((List.take_sublist _ _).trans (List.drop_sublist _ _))) sub (by omega)
      have split : ys = ys.take b ++ (ys.drop b).take (j + 2) ++ (ys.drop b).drop (j + 2) := by rw [List.append_assoc, List.take_append_drop, List.take_append_drop]
      have nd3 := ndy
      rw [split, List.append_assoc] at nd3
      obtain ⟨n1, n2, n3⟩ := List.nodup_append.1 nd3
      obtain ⟨n4, n5, n6⟩ := List.nodup_append.1 n2
      refine ⟨by omega, ⟨xs.take (mn s), (xs.drop (mn s)).drop s.length, by rw [List.append_assoc, List.take_append_drop, List.take_append_drop]⟩, _, _, _, split, ?_⟩
      exact ⟨fun e => by rw [e] at ml; simp at ml; omega, fun y hy z => n3 y hy y (List.mem_append_left _ (back y z)) rfl, sub, fun y hy z => n6 y (back y z) y hy rfl⟩
    · cases h
  · rintro ⟨two, ⟨a, b, hx⟩, l, m, r, hy, st⟩
    have ndt : t.Nodup := by
      rw [hx, List.append_assoc] at nd
      exact (List.nodup_append.1 (List.nodup_append.1 nd).2.1).1
    have ndm : m.Nodup := by
      rw [hy, List.append_assoc] at ndy
      exact (List.nodup_append.1 (List.nodup_append.1 ndy).2.1).1
    have tm : ∀ y ∈ t, y ∈ m := fun y ht => by
      have : y ∈ ys := pm.mem_iff.2 (by rw [hx]; exact List.mem_append_left _ (List.mem_append_right _ ht))
      rw [hy] at this
      rcases List.mem_append.1 this with h | h
      · rcases List.mem_append.1 h with h | h
        · exact absurd ht (st.hl y h)
        · exact h
      · exact absurd ht (st.hr y h)
    have ml : m.length = t.length := Nat.le_antisymm (nodup_le m t ndm st.hm) (nodup_le t m ndt tm)
    have idx : ∀ y ∈ t, a.length ≤ xs.idxOf y ∧ xs.idxOf y < a.length + t.length ∧ True := fun y ht => by
      obtain ⟨i, li, ei⟩ := List.getElem_of_mem ht
      have : xs.idxOf y = a.length + i := idx_eq nd (by
        rw [hx, List.append_assoc, List.getElem?_append_right (by omega), show a.length + i - a.length = i by omega, List.getElem?_append_left li, List.getElem?_eq_getElem li, ei])
      exact ⟨by omega, by omega, trivial⟩
    have at0 : ∀ i, i < t.length → ∃ y ∈ m, xs.idxOf y = a.length + i := fun i li => by
      refine ⟨t[i], tm _ (List.getElem_mem li), idx_eq nd ?_⟩
      rw [hx, List.append_assoc, List.getElem?_append_right (by omega), show a.length + i - a.length = i by omega, List.getElem?_append_left li, List.getElem?_eq_getElem li]
    have sne : rk xs m ≠ [] := fun e => by
      have := congrArg List.length e
      unfold rk at this
      rw [List.length_map] at this
      simp at this
      exact st.ne this
    have sl : (rk xs m).length = t.length := by unfold rk; rw [List.length_map, ml]
    have lo : mn (rk xs m) = a.length := by
      obtain ⟨h1, h2⟩ := mn_ok sne
      obtain ⟨y, hy1, e1⟩ := List.mem_map.1 h1
      obtain ⟨y0, hy0, e0⟩ := at0 0 (by omega)
      have := h2 (xs.idxOf y0) (List.mem_map.2 ⟨y0, hy0, rfl⟩)
      have := (idx y (st.hm y hy1)).1
      omega
    have hi : mx (rk xs m) + 1 = a.length + t.length := by
      obtain ⟨h1, h2⟩ := mx_ok sne
      obtain ⟨y, hy1, e1⟩ := List.mem_map.1 h1
      obtain ⟨y0, hy0, e0⟩ := at0 (t.length - 1) (by omega)
      have := h2 (xs.idxOf y0) (List.mem_map.2 ⟨y0, hy0, rfl⟩)
      have := (idx y (st.hm y hy1)).2.1
      omega
    have ly : ys.length = l.length + m.length + r.length := by rw [hy, List.length_append, List.length_append]
    unfold raw
    refine List.mem_flatMap.2 ⟨l.length, List.mem_range.2 (by rw [len]; omega), List.mem_filterMap.2 ⟨m.length - 2, List.mem_range.2 (by rw [len]; omega), ?_⟩⟩
    have ec : cutE (rk xs ys) l.length (m.length - 2) = rk xs m := by
      unfold cutE rk
      rw [hy, List.append_assoc, List.map_append, List.drop_append_of_le_length (by rw [List.length_map]; omega), List.drop_of_length_le (by rw [List.length_map]; omega), List.nil_append, List.map_append, show m.length - 2 + 2 = m.length by omega, List.take_append_of_le_length (by rw [List.length_map]; omega), List.take_of_length_le (by rw [List.length_map]; omega)]
    rw [ec]
    unfold piece
    rw [lo, sl, if_pos (by omega), hx, List.append_assoc, List.drop_append_of_le_length (by omega), List.drop_of_length_le (by omega), List.nil_append, List.take_append_of_le_length (by omega), List.take_of_length_le (by omega)]
theorem IsRuns.mem {xs ys : List Str} {rs : List (List Str)} (h : IsRuns xs ys rs) (nd : xs.Nodup) (pm : ys.Perm xs) {t : List Str} : t ∈ rs ↔ IsRun xs ys t := (h.perm.mem_iff).trans (raw_mem nd pm)
end TL
end
-- T17
section
set_option Elab.async false
set_option linter.all false
set_option maxRecDepth 100000
set_option maxHeartbeats 400000
/-! T17: a run turned by the program -/
variable [TL.Tb]
namespace TL
open L2 PyProof.Rows PySem PySem.Spec TS RZ
theorem row_perm {xs ys : List Str} (cat : Cat xs) (row : Row xs ys) : ys.Perm xs := by
  have sub := sub_eq row.2.1 row.1 (Nat.le_of_eq row.2.2.symm)
  refine List.perm_iff_count.2 fun a => ?_
  rw [row.2.1.count, cat.2.2.2.count]
  by_cases h : a ∈ xs
  · rw [if_pos h, if_pos (sub a h)]
  · rw [if_neg h, if_neg fun z => h (row.1 a z)]
theorem Row.perm {xs ys zs : List Str} (row : Row xs ys) (p : zs.Perm ys) : Row xs zs := ⟨fun y hy => row.1 y (p.mem_iff.1 hy), p.nodup_iff.2 row.2.1, by rw [p.length_eq]; exact row.2.2⟩
end TL
end
-- T18
section
set_option Elab.async false
set_option linter.all false
set_option maxRecDepth 100000
set_option maxHeartbeats 400000
/-! T18: the home of a drawn core, as numbers -/
variable [TL.Tb]
namespace TL
open L2 PyProof.Rows PySem PySem.Spec TS RZ
/-- the first entries of the leaves under node j -/
def lvs (ns : List Nd) : Nat → Nat → List Nat
  | 0, _ => []
  | f + 1, j => match ns[j]? with
    | none => []
    | some n => if n.ps = [] then [n.st] else n.nums.flatMap fun q => match n.ps[q]? with
      | some c => lvs ns f c
      | none => []
def kid (ns : List Nd) (f : Nat) (n : Nd) (q : Nat) : List Nat := match n.ps[q]? with
  | some c => lvs ns f c
  | none => []
theorem lvs_eq {ns : List Nd} {f j : Nat} {n : Nd} (h : ns[j]? = some n) : lvs ns (f + 1) j = if n.ps = [] then [n.st] else n.nums.flatMap (kid ns f n) := by
  rw [lvs, h]
  rfl
/-- more steps tell the same -/
theorem lvs_more {size i : Nat} {ns : List Nd} (o : Ok size i ns) : ∀ (f j : Nat), ns.length ≤ f + j → ∀ g, f ≤ g → lvs ns g j = lvs ns f j
  | 0, j, h, g, _ => by
    have e : ns[j]? = none := List.getElem?_eq_none (by omega)
    cases g with
    | zero => rfl
    | succ g => rw [lvs, lvs, e]
  | f + 1, j, h, g, hg => by
    obtain ⟨g, rfl⟩ : ∃ k, g = k + 1 := ⟨g - 1, by omega⟩
    cases e : ns[j]? with
    | none => rw [lvs, lvs, e]
    | some n =>
      rw [lvs_eq e, lvs_eq e]
      have : ∀ q, kid ns g n q = kid ns f n q := fun q => by
        unfold kid
        cases e2 : n.ps[q]? with
        | none => rfl
        | some c =>
          have := o.up j n c e (List.mem_of_getElem? e2)
          exact lvs_more o f c (by omega) g (by omega)
      rw [show kid ns g n = kid ns f n from funext this]
/-- the leaves under node j -/
def lv (ns : List Nd) (j : Nat) : List Nat := lvs ns ns.length j
def kd (ns : List Nd) (n : Nd) (q : Nat) : List Nat := kid ns ns.length n q
theorem lv_eq {size i : Nat} {ns : List Nd} (o : Ok size i ns) {j : Nat} {n : Nd} (h : ns[j]? = some n) : lv ns j = if n.ps = [] then [n.st] else n.nums.flatMap (kd ns n) := by
  unfold lv
  rw [← lvs_more o ns.length j (by omega) (ns.length + 1) (by omega), lvs_eq h]
  rfl
theorem kd_eq {ns : List Nd} {n : Nd} {q c : Nat} (h : n.ps[q]? = some c) : kd ns n q = lv ns c := by
  unfold kd kid
  rw [h]
  rfl
theorem range'_app (s m e : Nat) : List.range' s m ++ List.range' (s + m) e = List.range' s (m + e) := List.range'_append_1
theorem chain_le {iv : List (Nat × Nat)} : ∀ {ps : List Nat} {s e : Nat}, Chain iv s ps e → s ≤ e
  | [], s, e, h => Nat.le_of_eq h
  | _ :: _, s, e, ⟨m, _, h1, c⟩ => by
    have := chain_le c
    omega
/-- a chain's leaves are its stretch, in whatever order -/
theorem chain_perm {ns : List Nd} : ∀ {ps : List Nat} {s e : Nat}, (∀ c ∈ ps, ∀ n, ns[c]? = some n → (lv ns c).Perm (List.range' n.st n.m)) → Chain (ivs ns) s ps e → (ps.flatMap (lv ns)).Perm (List.range' s (e - s))
  | [], s, e, _, h => by
    have h : s = e := h
    subst h
    rw [Nat.sub_self]
    exact .refl _
  | c :: r, s, e, hp, ⟨m, h0, h1, ch⟩ => by
    have le := chain_le ch
    have h0' : (ns[c]?).map (fun n => (n.st, n.m)) = some (s, m) := by rw [← h0, ivs, List.getElem?_map]
    cases en : ns[c]? with
    | none => rw [en] at h0'; cases h0'
    | some n =>
      rw [en] at h0'
      have e1 : n.st = s := congrArg Prod.fst (Option.some.inj h0')
      have e2 : n.m = m := congrArg Prod.snd (Option.some.inj h0')
      have p1 := hp c List.mem_cons_self n en
      rw [e1, e2] at p1
      have p2 := chain_perm (fun d hd => hp d (List.mem_cons_of_mem _ hd)) ch
      rw [List.flatMap_cons, show e - s = m + (e - (s + m)) by omega, ← range'_app]
      exact p1.append p2
theorem flat_idx {ns : List Nd} {n : Nd} : ∀ (k : Nat), k ≤ n.ps.length → (List.range k).flatMap (kd ns n) = (n.ps.take k).flatMap (lv ns)
  | 0, _ => by simp
  | k + 1, h => by
    rw [List.range_succ, List.flatMap_append, flat_idx k (by omega), List.take_succ, List.flatMap_append, List.getElem?_eq_getElem (by omega : k < n.ps.length)]
    simp [kd_eq (List.getElem?_eq_getElem (by omega : k < n.ps.length))]
theorem perm_flat {α β : Type} {f : α → List β} {l m : List α} (p : l.Perm m) : (l.flatMap f).Perm (m.flatMap f) := by
  induction p with
  | nil => exact .refl _
  | cons x _ ih => rw [List.flatMap_cons, List.flatMap_cons]; exact (List.Perm.refl _).append ih
  | swap x y l =>
    simp only [List.flatMap_cons, ← List.append_assoc]
    exact List.perm_append_comm.append (.refl _)
  | trans _ _ a b => exact a.trans b
theorem lv_perm {size : Nat} {ns : List Nd} (o : Ok size ns.length ns) : ∀ (f j : Nat), ns.length ≤ f + j → ∀ n, ns[j]? = some n → (lv ns j).Perm (List.range' n.st n.m)
  | 0, j, h, n, e => by
    have := (List.getElem?_eq_some_iff.1 e).1
    omega
  | f + 1, j, h, n, e => by
    have lt := (List.getElem?_eq_some_iff.1 e).1
    rw [lv_eq o e]
    rcases o.seen j n lt e with ⟨h1, h2, _⟩ | ⟨h1, h2, h3, h4, _⟩
    · rw [if_pos h2, h1]
      exact .refl _
    · have ne : n.ps ≠ [] := fun z => by rw [z] at h2; simp at h2
      rw [if_neg ne]
      have p1 := perm_flat (f := kd ns n) h4
      rw [flat_idx n.ps.length (Nat.le_refl _), List.take_length] at p1
      refine p1.trans ?_
      have p2 := chain_perm (fun c hc n' en => lv_perm o f c (by have := (o.up j n c e hc).1; omega) n' en) h3
      rw [show n.st + n.m - n.st = n.m by omega] at p2
      exact p2
/-- a stretch of entries that stand together in the home's row -/
def Tog (es : List Nat) (s e : Nat) : Prop := ∃ a b c, es = a ++ b ++ c ∧ b.Perm (List.range' s (e - s))
end TL
end
-- T19
section
set_option Elab.async false
set_option linter.all false
set_option maxRecDepth 100000
set_option maxHeartbeats 400000
/-! T19: stretches of the catalogue; which runs a turn loses -/
variable [TL.Tb]
namespace TL
open L2 PyProof.Rows PySem PySem.Spec TS RZ
def wd (xs : List Str) (i : Nat) : Str := (xs[i]?).getD ""
theorem wd_at {xs : List Str} {i : Nat} (h : i < xs.length) : xs[i]? = some (wd xs i) := by
  unfold wd
  rw [List.getElem?_eq_getElem h]
  rfl
def stch (xs : List Str) (s e : Nat) : List Str := (xs.drop s).take (e - s)
/-! ### what a turn loses -/
end TL
end
-- T20
section
set_option Elab.async false
set_option linter.all false
set_option maxRecDepth 100000
set_option maxHeartbeats 400000
/-! T20: the home's row -/
namespace TL
open L2 PyProof.Rows PySem PySem.Spec TS RZ
end TL
end
-- T21
section
set_option Elab.async false
set_option linter.all false
set_option maxRecDepth 100000
set_option maxHeartbeats 400000
/-! T21: the runs that can be turned at a home -/
variable [TL.Tb]
namespace TL
open L2 PyProof.Rows PySem PySem.Spec TS RZ
def stA (ns : List Nd) (c : Nat) : Nat := ((ns[c]?).map Nd.st).getD 0
def enA (ns : List Nd) (c : Nat) : Nat := ((ns[c]?).map fun n => n.st + n.m).getD 0
def psA (b : Nd) (f : Nat) : Nat := (b.ps[f]?).getD 0
/-- the runs of two or more neighbouring parts of a heap -/
def heapT (ns : List Nd) (xs : List Str) (b : Nd) : List (List Str) := if b.k = "heap" then (List.range b.ps.length).flatMap fun f => (List.range (b.ps.length - (f + 1))).map fun l => stch xs (stA ns (psA b f)) (enA ns (psA b (f + 1 + l))) else []
def crossT (xs : List Str) (b : Nd) : List (List Str) := if b.k = "crossed" then [stch xs b.st (b.st + b.m)] else []
def tbOf (ns : List Nd) (xs : List Str) (b : Nd) : List (List Str) := crossT xs b ++ heapT ns xs b
/-- the runs that can be turned, node by node -/
def tbL (ns : List Nd) (xs : List Str) : List (List Str) := ns.flatMap (tbOf ns xs)
end TL
end
-- T22
section
set_option Elab.async false
set_option linter.all false
set_option maxRecDepth 100000
set_option maxHeartbeats 400000
/-! T22: drawn lots, worlds led by turns, classes -/
namespace TL
open L2 PyProof.Rows PySem PySem.Spec TS RZ
end TL
end
-- T102
section
set_option Elab.async false
set_option linter.all false
set_option maxRecDepth 100000
set_option maxHeartbeats 400000
/-! T102: at home all runs rise; what can be turned there is told once -/
variable [TL.Tb]
namespace TL
open L2 PyProof.Rows PySem PySem.Spec TS RZ
/-- where the children of a node stand -/
theorem chain_at {ns : List Nd} : ∀ {ps : List Nat} {s e : Nat}, Chain (ivs ns) s ps e → ∀ (f c : Nat), ps[f]? = some c → ∃ n, ns[c]? = some n ∧ s ≤ n.st ∧ n.st + n.m ≤ e ∧ 1 ≤ n.m ∧ ∀ (l d : Nat), f < l → ps[l]? = some d → ∃ n', ns[d]? = some n' ∧ n.st + n.m ≤ n'.st
  | [], _, _, _, f, c, h => by simp at h
  | c0 :: ps, s, e, ⟨m, h1, h2, ch⟩, f, c, h => by
    have le := chain_le ch
    have at0 : ∃ n, ns[c0]? = some n ∧ n.st = s ∧ n.m = m := by
      unfold ivs at h1
      rw [List.getElem?_map] at h1
      obtain ⟨n, e1, e2⟩ := Option.map_eq_some_iff.1 h1
      exact ⟨n, e1, congrArg Prod.fst e2, congrArg Prod.snd e2⟩
    cases f with
    | zero =>
      obtain rfl : c0 = c := by simpa using h
      obtain ⟨n, e1, e2, e3⟩ := at0
      refine ⟨n, e1, by omega, by omega, by omega, fun l d hl hd => ?_⟩
      obtain ⟨l, rfl⟩ : ∃ k, l = k + 1 := ⟨l - 1, by omega⟩
      obtain ⟨n', a1, a2, _⟩ := chain_at ch l d (by simpa using hd)
      exact ⟨n', a1, by omega⟩
    | succ f =>
      obtain ⟨n, a1, a2, a3, a4, a5⟩ := chain_at ch f c (by simpa using h)
      refine ⟨n, a1, by omega, a3, a4, fun l d hl hd => ?_⟩
      obtain ⟨l, rfl⟩ : ∃ k, l = k + 1 := ⟨l - 1, by omega⟩
      exact a5 l d (by omega) (by simpa using hd)
section
variable {size : Nat} {ns : List Nd} {xs : List Str}
theorem root_perm (o : Ok size ns.length ns) : (lv ns 0).Perm (List.range size) := by
  obtain ⟨n0, hn0, hs0, hm0⟩ := o.root
  have := lv_perm o ns.length 0 (by omega) n0 hn0
  rw [hs0, hm0, ← List.range_eq_range'] at this
  exact this
/-- all runs under a node rise -/
theorem lv_up (o : Ok size ns.length ns) : ∀ (k j : Nat), ns.length ≤ k + j → ∀ n, ns[j]? = some n → KN.UpN (lv ns j)
  | 0, j, h, n, e => by
    have := (List.getElem?_eq_some_iff.1 e).1
    omega
  | k + 1, j, h, n, e => by
    have lt := (List.getElem?_eq_some_iff.1 e).1
    have pm := lv_perm o ns.length j (by omega) n e
    have nd : (lv ns j).Nodup := pm.nodup_iff.2 List.nodup_range'
    rw [lv_eq o e] at nd ⊢
    rcases o.seen j n lt e with ⟨_, h2, _⟩ | ⟨_, h2, ch, pn, _, un, _⟩
    · rw [if_pos h2]
      rintro s ⟨ne, a, c, q⟩ g two
      have := congrArg List.length q
      simp at this
      omega
    · have ne : n.ps ≠ [] := fun z => by rw [z] at h2; simp at h2
      rw [if_neg ne] at nd ⊢
      have kid_ : ∀ q ∈ n.nums, ∃ c nc, n.ps[q]? = some c ∧ ns[c]? = some nc ∧ j < c ∧ kd ns n q = lv ns c ∧ (kd ns n q).Perm (List.range' nc.st nc.m) ∧ 1 ≤ nc.m := fun q hq => by
        have lq := List.mem_range.1 (pn.mem_iff.1 hq)
        obtain ⟨nc, a1, _, _, a4, _⟩ := chain_at ch q n.ps[q] (List.getElem?_eq_getElem lq)
        refine ⟨n.ps[q], nc, List.getElem?_eq_getElem lq, a1, (o.up j n _ e (List.getElem_mem lq)).1, kd_eq (List.getElem?_eq_getElem lq), ?_, a4⟩
        rw [kd_eq (List.getElem?_eq_getElem lq)]
        exact lv_perm o ns.length _ (by omega) nc a1
      refine KN.up_blocks (fun q hq z => ?_) (pn.nodup_iff.2 List.nodup_range) nd (fun p hp q hq lpq x hx y hy => ?_) (fun m _ M hM r _ rM => ?_) un (fun q hq => ?_)
      · obtain ⟨c, nc, _, _, _, _, p, m1⟩ := kid_ q hq
        rw [z] at p
        have := p.length_eq
        simp at this
        omega
      · obtain ⟨c, nc, a1, a2, _, _, a5, _⟩ := kid_ p hp
        obtain ⟨d, nc', b1, b2, _, _, b5, _⟩ := kid_ q hq
        obtain ⟨n1, c1, _, _, _, c5⟩ := chain_at ch p c a1
        obtain rfl : n1 = nc := Option.some.inj (c1.symm.trans a2)
        obtain ⟨n2, d1, d2⟩ := c5 q d lpq b1
        obtain rfl : n2 = nc' := Option.some.inj (d1.symm.trans b2)
        have := List.mem_range'_1.1 (a5.mem_iff.1 hx)
        have := List.mem_range'_1.1 (b5.mem_iff.1 hy)
        omega
      · have := List.mem_range.1 (pn.mem_iff.1 hM)
        exact pn.mem_iff.2 (List.mem_range.2 (by omega))
      · obtain ⟨c, nc, a1, a2, a3, a4, _⟩ := kid_ q hq
        rw [a4]
        exact lv_up o k c (by omega) nc a2
/-! ### whose a stretch is -/
end
end TL
end
-- T23
section
set_option Elab.async false
set_option linter.all false
set_option maxRecDepth 100000
set_option maxHeartbeats 400000
/-! T23: worlds led by turns, classes, free worlds -/
variable [TL.Tb]
namespace TL
open L2 PyProof.Rows PySem PySem.Spec TS RZ
/-! ### free worlds -/
/-! ### classes -/
/-- a home, what can be turned there, lots -/
structure Cls (xs home : List Str) (ts : List (List Str)) (lots : List (List (List Str))) : Prop where
  cat : Cat xs
  row : Row xs home
  runs : ∀ t ∈ ts, IsRun xs home t
  lot : ∀ L ∈ lots, Lot home L ∧ L.length ≤ 12 ∧ ∀ t ∈ L, t ∈ ts
  core : ∃ ns : List Nd, Ok xs.length ns.length ns ∧ home = (lv ns 0).map (wd xs) ∧ ts.Perm (tbL ns xs)
  tso : ts.Pairwise fun x y => TSo.ltS y x = false
  asc : ∀ L ∈ lots, L.Nodup ∧ L.Pairwise fun x y => TSo.ltS y x = false
theorem wd_idx {xs : List Str} (nd : xs.Nodup) {l : List Nat} (h : ∀ i ∈ l, i < xs.length) : (l.map (wd xs)).map xs.idxOf = l := by
  rw [List.map_map]
  conv => rhs; rw [← List.map_id l]
  refine List.map_congr_left fun i hi => ?_
  have li := h i hi
  have e := wd_at li
  have m : wd xs i ∈ xs := List.mem_of_getElem? e
  show xs.idxOf (wd xs i) = i
  have li2 : xs.idxOf (wd xs i) < xs.length := List.idxOf_lt_length_iff.2 m
  refine (List.getElem?_inj li2 nd).1 ?_
  rw [e, List.getElem?_eq_getElem li2, List.getElem_idxOf]
/-- at home all runs rise -/
theorem Cls.up {xs home : List Str} {ts : List (List Str)} {lots : List (List (List Str))} (c : Cls xs home ts lots) : KN.UpN (home.map xs.idxOf) := by
  obtain ⟨ns, o, rfl, _⟩ := c.core
  rw [wd_idx c.cat.2.2.2 fun i hi => List.mem_range.1 ((root_perm o).mem_iff.1 hi)]
  obtain ⟨n0, hn0, _⟩ := o.root
  exact lv_up o ns.length 0 (by omega) n0 hn0
/-! ### worlds -/
end TL
end
-- T24
section
set_option Elab.async false
set_option linter.all false
set_option maxRecDepth 100000
set_option maxHeartbeats 400000
/-! T24: what the law asks of a shelf behind a turn -/
variable [TL.Tb]
namespace TL
open L2 PyProof.Rows PySem PySem.Spec TS RZ
/-! ### sorted texts -/
theorem ncps_trans : ∀ (a b c : List Nat), ltCps b a = false → ltCps c b = false → ltCps c a = false
  | [], _, [], _, _ => rfl
  | [], _, _ :: _, _, _ => rfl
  | _ :: _, [], _, h, _ => by cases h
  | _ :: _, _ :: _, [], _, h => by cases h
  | x :: a, y :: b, z :: c, h1, h2 => by
    have ih := ncps_trans a b c
    simp only [ltCps, Bool.or_eq_false_iff, decide_eq_false_iff_not, Bool.and_eq_false_iff, beq_eq_false_iff_ne, Nat.not_lt] at h1 h2 ⊢
    refine ⟨Nat.le_trans h1.1 h2.1, ?_⟩
    by_cases e : z = x
    · refine .inr (ih ?_ ?_)
      · exact h1.2.resolve_left (by omega)
      · exact h2.2.resolve_left (by omega)
    · exact .inl e
theorem ncps_anti : ∀ (a b : List Nat), ltCps b a = false → ltCps a b = false → a = b
  | [], [], _, _ => rfl
  | [], _ :: _, _, h => by cases h
  | _ :: _, [], h, _ => by cases h
  | x :: a, y :: b, h1, h2 => by
    simp only [ltCps, Bool.or_eq_false_iff, decide_eq_false_iff_not, Bool.and_eq_false_iff, beq_eq_false_iff_ne, Nat.not_lt] at h1 h2
    have e : x = y := by omega
    subst e
    rw [ncps_anti a b (h1.2.resolve_left fun z => z rfl) (h2.2.resolve_left fun z => z rfl)]
theorem str_cps {x y : Str} (h : x.cps.toList = y.cps.toList) : x = y := by
  cases x; cases y
  congr 1
  exact Array.toList_inj.1 h
theorem rising_all : ∀ {p : Str} {l : List Str}, risingS p l = true → (p :: l).Pairwise fun a b => ltCps b.cps.toList a.cps.toList = false
  | p, [], _ => by simp
  | p, x :: r, h => by
    have h : (!ltCps x.cps.toList p.cps.toList && risingS x r) = true := h
    rw [Bool.and_eq_true, Bool.not_eq_true'] at h
    have ih := rising_all h.2
    refine List.pairwise_cons.2 ⟨fun y hy => ?_, ih⟩
    rcases List.mem_cons.1 hy with e | hy
    · rw [e]
      exact h.1
    · exact ncps_trans _ _ _ h.1 ((List.pairwise_cons.1 ih).1 y hy)
theorem sortedS_all {l : List Str} (h : sortedS l = true) : l.Pairwise fun a b => ltCps b.cps.toList a.cps.toList = false := by
  cases l with
  | nil => exact List.Pairwise.nil
  | cons x r => exact rising_all h
theorem sortS_uniq : ∀ {l m : List Str}, l.Pairwise (fun a b => ltCps b.cps.toList a.cps.toList = false) → m.Pairwise (fun a b => ltCps b.cps.toList a.cps.toList = false) → l.Perm m → l = m
  | [], m, _, _, p => by rw [p.nil_eq]
  | x :: l, [], _, _, p => by have := p.length_eq; simp at this
  | x :: l, y :: m, h1, h2, p => by
    rw [List.pairwise_cons] at h1 h2
    have e : x = y := by
      by_cases q : x = y
      · exact q
      · have hx : x ∈ m := (List.mem_cons.1 (p.mem_iff.1 List.mem_cons_self)).resolve_left q
        have hy : y ∈ l := (List.mem_cons.1 (p.mem_iff.2 List.mem_cons_self)).resolve_left fun z => q z.symm
        exact str_cps (ncps_anti _ _ (h1.1 y hy) (h2.1 x hx))
    subst e
    rw [sortS_uniq h1.2 h2.2 ((List.perm_cons x).1 p)]
/-! ### the same data -/
theorem row_words {xs ys : List Str} (cat : Cat xs) (row : Row xs ys) : wrds ys := fun y hy => cat.2.2.1 y (row.1 y hy)
theorem same_both (xs ys : List Str) : (decide (xs = xs) && decide (ys = ys)) = true := by simp
theorem eq_self {xs ys : List Str} (cat : Cat xs) (row : Row xs ys) {R : Rv → Prop} (h : R (.val (.bl true))) : dEqA (.sh xs ys) (.sh xs ys) R :=
  ⟨cat.2.2.1, row_words cat row, cat.2.2.1, row_words cat row, by rw [same_both]; exact h⟩
end TL
end
-- T253
section
set_option Elab.async false
set_option linter.all false
set_option maxRecDepth 100000
set_option maxHeartbeats 400000
/-! T253: numbers of shelves: one number asked about -/
variable [TL.Tb]
namespace TL
open L2 PyProof.Rows PySem PySem.Spec TS RZ
section
variable {xs ys : List Str} {N : Nat}
abbrev nmX (xs : List Str) (i : Nat) : Str := xs.getD i ""
theorem xs_nm (xs : List Str) : (List.range xs.length).map (nmX xs) = xs := by
  refine List.ext_getElem (by simp) fun i h1 h2 => ?_
  rw [List.getElem_map, List.getElem_range]
  show xs.getD i "" = _
  rw [List.getD_eq_getElem?_getD, List.getElem?_eq_getElem h2]
  rfl
theorem dec_xs (xs : List Str) (K : Nat) : PM.dec xs.length K xs = (PM.dec xs.length K (List.range xs.length)).map (nmX xs) := by
  conv => lhs; rw [← xs_nm xs]
  rw [List.length_map, List.length_range, PM.dec_map]
theorem rk_self6 (nd : xs.Nodup) : rk xs xs = List.range xs.length := by
  show xs.map xs.idxOf = _
  refine List.ext_getElem (by simp) fun i h1 h2 => ?_
  rw [List.getElem_map, List.getElem_range]
  exact List.Nodup.idxOf_getElem nd i _
theorem rk_dec (nd : xs.Nodup) (K : Nat) : rk xs (PM.dec xs.length K xs) = PM.dec xs.length K (List.range xs.length) := by
  show (PM.dec xs.length K xs).map xs.idxOf = _
  rw [← PM.dec_map]
  show PM.dec _ _ (rk xs xs) = _
  rw [rk_self6 nd]
theorem rk_perm6 (cat : Cat xs) (row : Row xs ys) : (rk xs ys).Perm (List.range xs.length) := by
  have := (row_perm cat row).map xs.idxOf
  show (ys.map xs.idxOf).Perm _
  rw [← rk_self6 cat.2.2.2]
  exact this
theorem dec_rk (cat : Cat xs) (row : Row xs ys) : PM.dec xs.length (PM.num (rk xs ys)) xs = ys := by
  have p := rk_perm6 cat row
  have e := PM.dec_num (rk xs ys) (List.range xs.length) List.pairwise_lt_range p
  have l : (rk xs ys).length = xs.length := by rw [p.length_eq, List.length_range]
  rw [l] at e
  rw [dec_xs, e]
  unfold rk
  rw [List.map_map]
  conv => rhs; rw [← List.map_id ys]
  refine List.map_congr_left fun y hy => ?_
  have hy := row.1 y hy
  show xs.getD (xs.idxOf y) "" = y
  rw [List.getD_eq_getElem?_getD, List.getElem?_eq_getElem (List.idxOf_lt_length_iff.2 hy)]
  exact List.getElem_idxOf (List.idxOf_lt_length_iff.2 hy)
theorem num_rk_dec (nd : xs.Nodup) (h : N < PM.F xs.length) : PM.num (rk xs (PM.dec xs.length N xs)) = N := by
  rw [rk_dec nd]
  exact PM.num_dec _ _ _ List.pairwise_lt_range List.length_range h
theorem num_rk_lt (cat : Cat xs) (row : Row xs ys) : PM.num (rk xs ys) < PM.F xs.length := by
  have := PM.num_lt (rk xs ys)
  rwa [(rk_perm6 cat row).length_eq, List.length_range] at this
/-- the contrary row -/
theorem dec_con (h : N < PM.F xs.length) : (PM.dec xs.length N (List.range xs.length)).map (fun i => nmX xs (xs.length - 1 - i)) = PM.dec xs.length (PM.F xs.length - 1 - N) xs := by
  have p := PM.dec_perm xs.length N (List.range xs.length) List.length_range h
  have hn := PM.num_dec xs.length N (List.range xs.length) List.pairwise_lt_range List.length_range h
  generalize PM.dec xs.length N (List.range xs.length) = l at p hn
  have nd : l.Nodup := p.nodup_iff.2 List.nodup_range
  have lt : ∀ x ∈ l, x ≤ xs.length - 1 := fun x hx => by
    have := List.mem_range.1 (p.mem_iff.1 hx)
    omega
  have c := PM.num_con nd lt
  have len : l.length = xs.length := by rw [p.length_eq, List.length_range]
  rw [hn, len] at c
  have pc : (l.map (xs.length - 1 - ·)).Perm (List.range xs.length) := by
    refine (p.map _).trans ?_
    have : (List.range xs.length).map (xs.length - 1 - ·) = (List.range xs.length).reverse := by
      refine List.ext_getElem (by simp) fun i h1 h2 => ?_
      rw [List.getElem_map, List.getElem_range, List.getElem_reverse, List.getElem_range, List.length_range]
    rw [this]
    exact List.reverse_perm _
  have e := PM.dec_num _ (List.range xs.length) List.pairwise_lt_range pc
  rw [List.length_map, len, show PM.num (l.map (xs.length - 1 - ·)) = PM.F xs.length - 1 - N by omega] at e
  rw [dec_xs, e, List.map_map]
  rfl
end
theorem xd_eN6 (k i : Nat) : xd k (eN i) := by cases k <;> rfl
theorem xd_dN6 (k : Nat) {l : List Nat} (h : l.length ≤ 100000) : xd (k + 1) (dN l) := ⟨by rw [List.length_map]; exact h, fun d hd => by
  obtain ⟨i, _, rfl⟩ := List.mem_map.1 hd
  exact xd_eN6 k i⟩
theorem xd_dS6 (k : Nat) {l : List Str} (h : l.length ≤ 100000) : xd (k + 1) (dS l) := ⟨by rw [List.length_map]; exact h, fun d hd => by
  obtain ⟨i, _, rfl⟩ := List.mem_map.1 hd
  cases k <;> rfl⟩
abbrev nr1 : TSt := (tlRel 1 (tlSet 4 (tlCallJ [true, false] S_shat 2 [1, 0] (tlCons (tlV 1) (tlCons (tlV 2) tlNil)))))
abbrev nr2 : TSt := (tlRvs 2)
abbrev nr3 : TSt := (tlRel 1 (tlRel 0 (tlIf (tlNotT (tlT (tlCall [true, true] (S_exact 4) (tlCons (tlLst (tlCons (tlMeth [true] S_catalogue (tlV 4) tlNil) (tlCons (tlCallJ [true] S_shnum 1 [0] (tlCons (tlV 4) tlNil)) (tlCons (tlB dSortedT (tlCons (tlMeth [true] S_row (tlV 4) tlNil) tlNil)) tlNil)))) (tlCons (tlLst (tlCons (tlV 0) (tlCons (tlV 1) (tlCons (tlB dSortedT (tlCons (tlV 0) tlNil)) tlNil)))) tlNil))))) (tlRet (tlC (.bl false))) tlNx)))
abbrev nr4 : TSt := (tlSet 5 (tlCall [true] S_ranks (tlCons (tlV 4) tlNil)))
abbrev nr5 : TSt := (tlIf (tlNotT (tlT (tlCall [true, true] (S_exact 4) (tlCons (tlLc (tlSeq (tlV 5)) (.nm 6) tlYes (tlOp dIx (tlV 0) (tlV 6)) [6]) (tlCons (tlMeth [true] S_row (tlV 4) tlNil) tlNil))))) (tlRet (tlC (.bl false))) tlNx)
abbrev nr6 : TSt := (tlSet 7 (tlCall [true] S_wnext (tlCons (tlV 5) tlNil)))
abbrev nr7 : TSt := (tlIf (tlT (tlOp dNe (tlOp dIsN (tlV 7) (tlC .non)) (tlOp dEq (tlV 1) (tlOp dSub (tlV 3) (tlC (.int 1)))))) (tlRet (tlC (.bl false))) tlNx)
abbrev nr8 : TSt := (tlIf (tlAndT (tlT (tlOp dNotN (tlV 7) (tlC .non))) (tlNotT (tlT (tlCall [true, true] (S_exact 4) (tlCons (tlCall [true] S_ranks (tlCons (tlCall [true, false] S_shat (tlCons (tlV 0) (tlCons (tlOp dAdd (tlV 1) (tlC (.int 1))) tlNil))) tlNil)) (tlCons (tlV 7) tlNil)))))) (tlRet (tlC (.bl false))) tlNx)
abbrev nr9 : TSt := (tlSet 8 (tlShelf (tlV 0) (tlLc (tlSeq (tlV 5)) (.nm 6) tlYes (tlOp dIx (tlV 0) (tlOp dSub (tlOp dSub (tlB dLen (tlCons (tlV 0) tlNil)) (tlC (.int 1))) (tlV 6))) [6])))
abbrev nr10 : TSt := (tlRet (tlAnd (tlCall [true, true] (S_exact 4) (tlCons (tlCall [true] S_shnum (tlCons (tlV 8) tlNil)) (tlCons (tlOp dSub (tlOp dSub (tlV 3) (tlC (.int 1))) (tlV 1)) tlNil))) (tlOp dEqA (tlCall [true, false] S_shat (tlCons (tlV 0) (tlCons (tlOp dSub (tlOp dSub (tlV 3) (tlC (.int 1))) (tlV 1)) tlNil))) (tlV 8))))
abbrev nrT10 : TSt := nr10
abbrev nrT9 : TSt := (tlSq nr9 nrT10)
abbrev nrT8 : TSt := (tlSq nr8 nrT9)
abbrev nrT7 : TSt := (tlSq nr7 nrT8)
abbrev nrT6 : TSt := (tlSq nr6 nrT7)
abbrev nrT5 : TSt := (tlSq nr5 nrT6)
abbrev nrT4 : TSt := (tlSq nr4 nrT5)
abbrev nrT3 : TSt := (tlSq nr3 nrT4)
abbrev nrT2 : TSt := (tlSq nr2 nrT3)
abbrev nrT1 : TSt := (tlSq nr1 nrT2)
def S_wnr : ST := fun ds n R => ∃ (xs : List Str) (N : Nat), ds = [dS xs, eN N] ∧ Cat xs ∧ xs.length ≤ 12 ∧ N < PM.F xs.length ∧ R (.val (.bl true)) n
section
variable {xs : List Str} {N n : Nat} {x2 x3 x4 x5 x6 x7 x8 : Option Rv} {E : TEn}
theorem int_sub1 {a : Nat} (h : 0 < a) : ((a : Nat) : Int) - 1 = ((a - 1 : Nat) : Int) := by omega
theorem nr_10 (cat : Cat xs) (few : xs.length ≤ 12) (hN : N < PM.F xs.length) (h : E.rt (.val (.bl true)) n) :
    nrT10 E [some (.val (dS xs)), some (.val (eN N)), x2, some (.val (eN (PM.F xs.length))), x4, x5, x6, x7, some (.new (.sh xs (PM.dec xs.length (PM.F xs.length - 1 - N) xs)))] n := by
  have pos := PM.F_pos xs.length
  have lt : PM.F xs.length - 1 - N < PM.F xs.length := by omega
  have row := row_dec cat lt
  have e : (((PM.F xs.length : Nat) : Int) - 1) - ((N : Nat) : Int) = ((PM.F xs.length - 1 - N : Nat) : Int) := by omega
  refine ⟨rfl, xs, _, rfl, cat, row, few, ?_⟩
  rw [num_rk_dec cat.2.2.2 lt]
  refine ⟨rfl, eN (PM.F xs.length - 1 - N), ?_, xd_eN6 _ _, ?_⟩
  · show [eN (PM.F xs.length - 1 - N), D.int ((((PM.F xs.length : Nat) : Int) - 1) - ((N : Nat) : Int))] = _
    rw [e]
  refine ⟨rfl, xs, PM.F xs.length - 1 - N, ?_, cat, few, lt, ?_⟩
  · show [dS xs, D.int ((((PM.F xs.length : Nat) : Int) - 1) - ((N : Nat) : Int))] = _
    rw [e]
  show dEqA (.sh xs (PM.dec xs.length (PM.F xs.length - 1 - N) xs)) (.sh xs (PM.dec xs.length (PM.F xs.length - 1 - N) xs)) (fun r => sto r = true ∧ E.rt r n)
  exact eq_self cat row ⟨rfl, h⟩
theorem nr_9 (cat : Cat xs) (few : xs.length ≤ 12) (hN : N < PM.F xs.length) (h : E.rt (.val (.bl true)) n) :
    nrT9 E [some (.val (dS xs)), some (.val (eN N)), x2, some (.val (eN (PM.F xs.length))), x4, some (.new (dN (PM.dec xs.length N (List.range xs.length)))), x6, x7, x8] n := by
  have p := PM.dec_perm xs.length N (List.range xs.length) List.length_range hN
  have len : (PM.dec xs.length N (List.range xs.length)).length = xs.length := by rw [p.length_eq, List.length_range]
  have lm : (xs.map D.str).length = xs.length := List.length_map _
  have lt : PM.F xs.length - 1 - N < PM.F xs.length := by omega
  refine ⟨by rw [List.length_map]; omega, ?_⟩
  refine lcF_map (enc := eN) (f := fun i => D.str (nmX xs (xs.length - 1 - i))) (fun i hi n R hR => ?_) ?_
  · have li := List.mem_range.1 (p.mem_iff.1 hi)
    refine ⟨_, ?_, hR _ rfl rfl⟩
    show atI (xs.map D.str) (((((xs.map D.str).length : Nat) : Int) - 1) - ((i : Nat) : Int)) = some (D.str (nmX xs (xs.length - 1 - i)))
    rw [lm, show (((xs.length : Nat) : Int) - 1) - ((i : Nat) : Int) = ((xs.length - 1 - i : Nat) : Int) by omega]
    refine atI_nat ?_
    rw [List.getElem?_map, List.getElem?_eq_getElem (by omega)]
    show _ = some (D.str (xs.getD (xs.length - 1 - i) ""))
    rw [List.getD_eq_getElem?_getD, List.getElem?_eq_getElem (by omega)]
    rfl
  rw [List.nil_append]
  refine ⟨xs, PM.dec xs.length (PM.F xs.length - 1 - N) xs, rfl, ?_, cat, row_dec cat lt, ?_⟩
  · show D.lst _ = _
    rw [← dec_con hN]
    show D.lst _ = D.lst (List.map D.str (List.map _ _))
    rw [List.map_map]
    rfl
  exact nr_10 cat few hN h
theorem nr_6 (cat : Cat xs) (few : xs.length ≤ 12) (hN : N < PM.F xs.length) (h : E.rt (.val (.bl true)) n) :
    nrT6 E [some (.val (dS xs)), some (.val (eN N)), x2, some (.val (eN (PM.F xs.length))), x4, some (.new (dN (PM.dec xs.length N (List.range xs.length)))), x6, x7, x8] n := by
  have pos : 1 ≤ xs.length := List.length_pos_iff.2 cat.1
  refine ⟨rfl, xs.length, N, rfl, pos, few, hN, fun lt => ?_, fun eq => ?_⟩
  · have e1 : decide (((N : Nat) : Int) = ((PM.F xs.length : Nat) : Int) - 1) = false := decide_eq_false (by omega)
    show nrT7 E [some (.val (dS xs)), some (.val (eN N)), x2, some (.val (eN (PM.F xs.length))), x4, some (.new (dN (PM.dec xs.length N (List.range xs.length)))), x6, some (.new (dN (PM.dec xs.length (N + 1) (List.range xs.length)))), x8] n
    refine ⟨rfl, rfl, by show min 0 0 ≤ 60; decide, ?_⟩
    show (if (!PyData.eqv (toP (.bl false)) (toP (.bl (decide (((N : Nat) : Int) = ((PM.F xs.length : Nat) : Int) - 1))))) = true then _ else _)
    rw [e1]
    refine ⟨rfl, xs, N + 1, rfl, cat, few, lt, ?_⟩
    refine ⟨rfl, xs, _, rfl, cat, row_dec cat lt, ?_⟩
    rw [rk_rnk, rk_dec cat.2.2.2]
    refine ⟨rfl, _, rfl, xd_dN6 3 (by rw [PM.dec_len List.length_range lt]; omega), ?_⟩
    exact nr_9 cat few hN h
  · have e1 : decide (((N : Nat) : Int) = ((PM.F xs.length : Nat) : Int) - 1) = true := decide_eq_true (by omega)
    show nrT7 E [some (.val (dS xs)), some (.val (eN N)), x2, some (.val (eN (PM.F xs.length))), x4, some (.new (dN (PM.dec xs.length N (List.range xs.length)))), x6, some (.val .non), x8] n
    refine ⟨rfl, rfl, by show min 0 0 ≤ 60; decide, ?_⟩
    show (if (!PyData.eqv (toP (.bl true)) (toP (.bl (decide (((N : Nat) : Int) = ((PM.F xs.length : Nat) : Int) - 1))))) = true then _ else _)
    rw [e1]
    exact nr_9 cat few hN h
theorem tree_w_number_right : ∀ ds n R, S_wnr ds n R → B_w_number_right S_wmany6 S_shat (S_exact 4) S_shnum S_ranks S_wnext (ends R) (slots [false, false] ds 7) n := by
  rintro _ n R ⟨xs, N, rfl, cat, few, hN, h⟩
  have row := row_dec cat hN
  have lx : (xs.map D.str).length = xs.length := List.length_map _
  refine ⟨rfl, xs.length, by show [D.int (((xs.map D.str).length : Nat) : Int)] = _; rw [lx], few, ?_⟩
  show nrT1 (ends R) [some (.val (dS xs)), some (.val (eN N)), some (.new (dS xs)), some (.val (eN (PM.F xs.length))), none, none, none, none, none] n
  refine ⟨rfl, rfl, xs, N, rfl, cat, few, hN, ?_⟩
  show nrT3 (ends R) [some (.val (dS xs)), some (.val (eN N)), some (.new (.lst (xs.map D.str).reverse)), some (.val (eN (PM.F xs.length))), some (.new (.sh xs (PM.dec xs.length N xs))), none, none, none, none] n
  have l2 : (PM.dec xs.length N xs).length = xs.length := row.2.2
  refine ⟨rfl, xs, _, rfl, rfl, rfl, xs, _, rfl, cat, row, few, ?_⟩
  rw [num_rk_dec cat.2.2.2 hN]
  refine ⟨rfl, xs, _, rfl, .inl ⟨_, rfl, by omega, fun us pu su => ?_⟩⟩
  refine ⟨rfl, small_len, ?_⟩
  refine .inl ⟨xs, rfl, by omega, fun vs pv sv => ?_⟩
  have e : us = vs := sortS_uniq (sortedS_all su) (sortedS_all sv) (pu.trans ((row_perm cat row).trans pv.symm))
  subst e
  refine ⟨rfl, small_len, rfl, .lst [dS xs, eN N, dS us], rfl, ⟨by show 3 ≤ 100000; decide, fun d hd => ?_⟩, ?_⟩
  · have lu : us.length = xs.length := pv.length_eq
    rcases List.mem_cons.1 hd with rfl | hd
    · exact xd_dS6 2 (by omega)
    rcases List.mem_cons.1 hd with rfl | hd
    · exact xd_eN6 _ _
    rcases List.mem_cons.1 hd with rfl | hd
    · exact xd_dS6 2 (by omega)
    · cases hd
  refine ⟨rfl, xs, _, rfl, cat, row, ?_⟩
  rw [rk_rnk, rk_dec cat.2.2.2]
  have p := PM.dec_perm xs.length N (List.range xs.length) List.length_range hN
  have len : (PM.dec xs.length N (List.range xs.length)).length = xs.length := by rw [p.length_eq, List.length_range]
  show nrT5 (ends R) [some (.val (dS xs)), some (.val (eN N)), some (.new (.lst (xs.map D.str).reverse)), some (.val (eN (PM.F xs.length))), some (.new (.sh xs (PM.dec xs.length N xs))), some (.new (dN (PM.dec xs.length N (List.range xs.length)))), none, none, none] n
  refine ⟨by rw [List.length_map]; omega, ?_⟩
  refine lcF_map (enc := eN) (f := fun i => D.str (nmX xs i)) (fun i hi n R hR => ?_) ?_
  · have li := List.mem_range.1 (p.mem_iff.1 hi)
    refine ⟨_, ?_, hR _ rfl rfl⟩
    show atI (xs.map D.str) ((i : Nat) : Int) = some (D.str (nmX xs i))
    refine atI_nat ?_
    rw [List.getElem?_map, List.getElem?_eq_getElem li]
    show _ = some (D.str (xs.getD i ""))
    rw [List.getD_eq_getElem?_getD, List.getElem?_eq_getElem li]
    rfl
  rw [List.nil_append]
  refine ⟨rfl, xs, _, rfl, ?_⟩
  refine ⟨rfl, dS (PM.dec xs.length N xs), ?_, xd_dS6 3 (by omega), ?_⟩
  · show [D.lst _, dS _] = _
    have : (PM.dec xs.length N (List.range xs.length)).map (fun i => D.str (nmX xs i)) = (PM.dec xs.length N xs).map D.str := by
      rw [dec_xs, List.map_map]
      rfl
    rw [this]
  exact nr_6 cat few hN (dn_of h)
end
end TL
end
-- T254
section
set_option Elab.async false
set_option linter.all false
set_option maxRecDepth 100000
set_option maxHeartbeats 400000
/-! T254: numbers of shelves: all of at most four books -/
variable [TL.Tb]
namespace TL
open L2 PyProof.Rows PySem PySem.Spec PySem.W TS RZ
/-- all rows of n numbers, by their numbers -/
def dcN (n N : Nat) : List Nat := PM.dec n N (List.range n)
def fnd (n k : Nat) : List D := (List.range k).map fun N => dN (dcN n N)
theorem fnd_ok : ∀ n ∈ List.range' 1 4, plns (fnd n (PM.F n)) = true ∧ (∀ d ∈ fnd n (PM.F n), ∀ e ∈ fnd n (PM.F n), alike (toP d) (toP e) = true) ∧ (∀ d ∈ fnd n (PM.F n), dep d ≤ 50) ∧ dep (.lst (fnd n (PM.F n))) ≤ 50 ∧
    (fnd n (PM.F n)).Pairwise (fun a b => dataLe false toP a b = true) ∧ PyData.eqv (toP (.lst (fnd n (PM.F n)))) (toP (.lst (fnd n (PM.F n)))) = true := by decide +kernel
theorem fnd_len (n k : Nat) : (fnd n k).length = k := by unfold fnd; rw [List.length_map, List.length_range]
theorem F_4 : ∀ n ∈ List.range' 1 4, PM.F n ≤ 24 := by decide +kernel
theorem dc_len {n N : Nat} (h : N < PM.F n) : (dcN n N).length = n := PM.dec_len List.length_range h
theorem xd_fnd {n k : Nat} (n4 : n ≤ 4) (hk : k ≤ PM.F n) (k24 : k ≤ 24) : xd 4 (.lst (fnd n k)) := ⟨by rw [fnd_len]; omega, fun d hd => by
  obtain ⟨N, hN, rfl⟩ := List.mem_map.1 hd
  have := List.mem_range.1 hN
  exact xd_dN6 2 (by rw [dc_len (by omega)]; omega)⟩
abbrev ar1b : TSt := (tlSq (tlRel 1 (tlApp 2 (tlV 1))) (tlSet 1 (tlCall [true] S_wnext (tlCons (tlV 1) tlNil))))
abbrev ar1 : TSt := (tlFor (tlRng1 (tlCall [true] S_wmany6 (tlCons (tlB dLen (tlCons (tlV 0) tlNil)) tlNil))) (.nm 3) ar1b)
abbrev ar2 : TSt := (tlIf (tlOrT (tlT (tlOp dNotN (tlV 1) (tlC .non))) (tlT (tlOp dNe (tlB dSortedD (tlCons (tlV 2) tlNil)) (tlV 2)))) (tlRet (tlC (.bl false))) tlNx)
abbrev ar3 : TSt := (tlRel 5 (tlSet 4 (tlLc (tlRng1 (tlB dLen (tlCons (tlV 2) tlNil))) (.nm 5) tlYes (tlCall [true, false] S_shat (tlCons (tlV 0) (tlCons (tlV 5) tlNil))) [5])))
abbrev ar4 : TSt := (tlIf (tlNotT (tlT (tlCall [true, true] (S_exact 4) (tlCons (tlLc (tlSeq (tlV 4)) (.nm 6) tlYes (tlCall [true] S_ranks (tlCons (tlV 6) tlNil)) [6]) (tlCons (tlV 2) tlNil))))) (tlRet (tlC (.bl false))) tlNx)
abbrev ar5 : TSt := (tlRet (tlCall [true, true] (S_exact 4) (tlCons (tlLc (tlSeq (tlV 2)) (.nm 7) tlYes (tlCall [true] S_shnum (tlCons (tlShelf (tlV 0) (tlLc (tlSeq (tlV 7)) (.nm 8) tlYes (tlOp dIx (tlV 0) (tlV 8)) [8])) tlNil)) [7]) (tlCons (tlLRg1 (tlB dLen (tlCons (tlV 2) tlNil))) tlNil))))
abbrev arT5 : TSt := ar5
abbrev arT4 : TSt := (tlSq ar4 arT5)
abbrev arT3 : TSt := (tlSq ar3 arT4)
abbrev arT2 : TSt := (tlSq ar2 arT3)
abbrev arT1 : TSt := (tlSq ar1 arT2)
def S_wall : ST := fun ds n R => ∃ xs : List Str, ds = [dS xs] ∧ Cat xs ∧ xs.length ≤ 4 ∧ R (.val (.bl true)) n
section
variable {xs : List Str} {n : Nat} {x1 x2 x3 x4 x5 x6 x7 x8 : Option Rv} {E : TEn}
theorem dec_name {N : Nat} (h : N < PM.F xs.length) : (dcN xs.length N).map (nmX xs) = PM.dec xs.length N xs := (dec_xs xs N).symm
theorem at_name {i : Nat} (li : i < xs.length) : atI (xs.map D.str) ((i : Nat) : Int) = some (D.str (nmX xs i)) := by
  refine atI_nat ?_
  rw [List.getElem?_map, List.getElem?_eq_getElem li]
  show _ = some (D.str (xs.getD i ""))
  rw [List.getD_eq_getElem?_getD, List.getElem?_eq_getElem li]
  rfl
theorem dc_lt {n N : Nat} (h : N < PM.F n) : ∀ x ∈ dcN n N, x < n := fun x hx => List.mem_range.1 ((PM.dec_perm n N (List.range n) List.length_range h).mem_iff.1 hx)
theorem ar_5 (cat : Cat xs) (few : xs.length ≤ 4) (h : E.rt (.val (.bl true)) n) :
    arT5 E [some (.bor (dS xs)), x1, some (.new (.lst (fnd xs.length (PM.F xs.length)))), x3, x4, x5, x6, x7, x8] n := by
  have pos : 1 ≤ xs.length := List.length_pos_iff.2 cat.1
  have f24 := F_4 xs.length (List.mem_range'_1.2 ⟨pos, by omega⟩)
  refine ⟨by rw [fnd_len]; omega, ?_⟩
  refine lcF_map (enc := fun N => dN (dcN xs.length N)) (f := eN) (fun N hN n R hR => ?_) ?_
  · have lt := List.mem_range.1 hN
    have row := row_dec cat lt
    refine ⟨by rw [List.length_map, dc_len lt]; omega, ?_⟩
    refine lcF_map (enc := eN) (f := fun i => D.str (nmX xs i)) (fun i hi n R hR => ?_) ?_
    · exact ⟨_, at_name (dc_lt lt i hi), hR _ rfl rfl⟩
    rw [List.nil_append]
    refine ⟨xs, PM.dec xs.length N xs, rfl, ?_, cat, row, rfl, xs, _, rfl, cat, row, by omega, ?_⟩
    · show D.lst _ = D.lst _
      rw [← dec_name lt, List.map_map]
      rfl
    rw [num_rk_dec cat.2.2.2 lt]
    exact hR _ rfl rfl
  rw [List.nil_append]
  refine ⟨by rw [fnd_len]; omega, by rw [fnd_len]; omega, ?_⟩
  refine ⟨rfl, dN (List.range (PM.F xs.length)), ?_, xd_dN6 3 (by rw [List.length_range]; omega), rfl, h⟩
  show [dN (List.range (PM.F xs.length)), D.lst ((rng 0 (((fnd xs.length (PM.F xs.length)).length : Nat) : Int)).map D.int)] = _
  rw [fnd_len, rng_nat]
theorem ar_3 (cat : Cat xs) (few : xs.length ≤ 4) (h : E.rt (.val (.bl true)) n) :
    arT3 E [some (.bor (dS xs)), x1, some (.new (.lst (fnd xs.length (PM.F xs.length)))), x3, x4, none, x6, x7, x8] n := by
  have pos : 1 ≤ xs.length := List.length_pos_iff.2 cat.1
  have f24 := F_4 xs.length (List.mem_range'_1.2 ⟨pos, by omega⟩)
  refine ⟨by rw [fnd_len]; omega, by rw [fnd_len]; omega, by rw [fnd_len]; simp [rng]; omega, ?_⟩
  show lcF _ _ _ _ ((rng 0 (((fnd xs.length (PM.F xs.length)).length : Nat) : Int)).map D.int) _ _ _
  rw [fnd_len, rng_nat]
  refine lcF_map (enc := eN) (f := fun N => D.sh xs (PM.dec xs.length N xs)) (fun N hN n R hR => ?_) ?_
  · exact ⟨rfl, xs, N, rfl, cat, by omega, List.mem_range.1 hN, hR _ rfl rfl⟩
  rw [List.nil_append]
  refine ⟨by rw [List.length_map, List.length_range]; omega, ?_⟩
  refine lcF_map (enc := fun N => D.sh xs (PM.dec xs.length N xs)) (f := fun N => dN (dcN xs.length N)) (fun N hN n R hR => ?_) ?_
  · have lt := List.mem_range.1 hN
    refine ⟨rfl, xs, _, rfl, cat, row_dec cat lt, ?_⟩
    rw [rk_rnk, rk_dec cat.2.2.2]
    exact hR _ rfl rfl
  rw [List.nil_append]
  refine ⟨rfl, .lst (fnd xs.length (PM.F xs.length)), rfl, xd_fnd few (Nat.le_refl _) f24, ?_⟩
  exact ar_5 cat few h
theorem ar_2 (cat : Cat xs) (few : xs.length ≤ 4) (h : E.rt (.val (.bl true)) n) :
    arT2 E [some (.bor (dS xs)), some (.val .non), some (.new (.lst (fnd xs.length (PM.F xs.length)))), x3, x4, none, x6, x7, x8] n := by
  have pos : 1 ≤ xs.length := List.length_pos_iff.2 cat.1
  obtain ⟨f1, f2, f3, f4, f5, f6⟩ := fnd_ok xs.length (List.mem_range'_1.2 ⟨pos, by omega⟩)
  have ms : (fnd xs.length (PM.F xs.length)).mergeSort (dataLe false toP) = fnd xs.length (PM.F xs.length) := List.mergeSort_of_pairwise f5
  have so : Sortable ((fnd xs.length (PM.F xs.length)).map toP) := .inr fun d hd => by
    obtain ⟨e, he, rfl⟩ := List.mem_map.1 hd
    obtain ⟨N, _, rfl⟩ := List.mem_map.1 he
    exact ⟨fun z => (nomatch z), fun _ z => (nomatch z)⟩
  have al : AllAlike ((fnd xs.length (PM.F xs.length)).map toP) := fun d hd e he => by
    obtain ⟨d, hd2, rfl⟩ := List.mem_map.1 hd
    obtain ⟨e, he2, rfl⟩ := List.mem_map.1 he
    exact f2 d hd2 e he2
  refine ⟨f1, al, so, f3, ?_⟩
  rw [ms]
  refine ⟨f1, f1, Nat.le_trans (Nat.min_le_left _ _) (Nat.le_trans f4 (by decide)), ?_⟩
  show (if (!PyData.eqv (toP (.lst (fnd xs.length (PM.F xs.length)))) (toP (.lst (fnd xs.length (PM.F xs.length))))) = true then _ else _)
  rw [f6]
  exact ar_3 cat few h
theorem tree_w_all_right : ∀ ds n R, S_wall ds n R → B_w_all_right S_wmany6 S_wnext S_shat (S_exact 4) S_ranks S_shnum (ends R) (slots [true] ds 8) n := by
  rintro _ n R ⟨xs, rfl, cat, few, h⟩
  have pos : 1 ≤ xs.length := List.length_pos_iff.2 cat.1
  have f24 := F_4 xs.length (List.mem_range'_1.2 ⟨pos, by omega⟩)
  have fp := PM.F_pos xs.length
  have lx : (xs.map D.str).length = xs.length := List.length_map _
  refine ⟨by omega, by rw [lx]; omega, rfl, small_len, ?_⟩
  show arT1 (ends R) [some (.bor (dS xs)), some (.new (.lst ((rng 0 (((xs.map D.str).length : Nat) : Int)).map D.int))), some (.new (.lst [])), none, none, none, none, none, none] n
  rw [lx, rng_nat]
  have e0 : dcN xs.length 0 = List.range xs.length := by
    have e := PM.dec_num (List.range xs.length) (List.range xs.length) List.pairwise_lt_range (.refl _)
    rw [List.length_range, PM.num_asc List.pairwise_lt_range] at e
    exact e
  refine ⟨rfl, xs.length, by show [D.int (((xs.map D.str).length : Nat) : Int)] = _; rw [lx], by omega, by omega, by omega, by omega, ?_⟩
  show forF _ _ _ ((rng 0 ((PM.F xs.length : Nat) : Int)).map D.int) _ _
  have lr : ((rng 0 ((PM.F xs.length : Nat) : Int)).map D.int).length = PM.F xs.length := by rw [rng_nat, List.length_map, List.length_range]
  refine forF_inv (j := 0) (fun i Γ k => k = n ∧ i ≤ PM.F xs.length ∧ ∃ x3 : Option Rv, Γ = [some (.bor (dS xs)), some (if i < PM.F xs.length then .new (dN (dcN xs.length i)) else .val .non), some (.new (.lst (fnd xs.length i))), x3, none, none, none, none, none]) ⟨rfl, Nat.zero_le _, none, ?_⟩ ?_ ?_
  · rw [if_pos fp, e0]
    rfl
  · rintro i d Γ k hd ⟨rfl, hi, x3, rfl⟩
    obtain ⟨li, rfl⟩ := rng_get hd
    refine ⟨_, rfl, fun kk hkk => ?_⟩
    rw [Nat.zero_add] at hkk ⊢
    rw [if_pos li]
    have fl : (fnd xs.length i).length = i := fnd_len _ _
    have es : fnd xs.length i ++ [dN (dcN xs.length i)] = fnd xs.length (i + 1) := by
      unfold fnd
      rw [List.range_succ, List.map_append]
      rfl
    have step : ∀ r : Rv, (r = if i + 1 < PM.F xs.length then .new (dN (dcN xs.length (i + 1))) else .val .non) → kk [some (.bor (dS xs)), some r, some (.new (.lst (fnd xs.length i ++ [dN (dcN xs.length i)]))), some (.val (eN i)), none, none, none, none, none] k := fun r er => by
      rw [es]
      subst er
      exact hkk _ _ ⟨rfl, by omega, some (.val (eN i)), rfl⟩
    refine ⟨rfl, by omega, rfl, xs.length, i, rfl, pos, by omega, li, fun lt => ?_, fun eq => ?_⟩
    · exact step (.new (dN (dcN xs.length (i + 1)))) (if_pos lt).symm
    · exact step (.val .non) (if_neg (by omega)).symm
  · rintro Γ k ⟨rfl, _, x3, rfl⟩
    rw [Nat.zero_add, lr, if_neg (Nat.lt_irrefl _)]
    exact ar_2 cat few (dn_of h)
end
end TL
end
-- T255
section
set_option Elab.async false
set_option linter.all false
set_option maxRecDepth 100000
set_option maxHeartbeats 400000
/-! T255: numbers of shelves: one catalogue -/
variable [TL.Tb]
namespace TL
open L2 PyProof.Rows PySem PySem.Spec TS RZ
theorem F_12 : ∀ n ∈ List.range 13, PM.F n < 2 ^ 29 := by decide +kernel
theorem ne_nilN6 {a : List Nat} {R : Rv → Prop} (h : R (.val (.bl (!decide (a = []))))) : dNe (dN a) (.lst []) R := by
  refine ⟨pln_nats a, rfl, Nat.le_trans (Nat.min_le_right _ _) (by decide : 1 ≤ 60), ?_⟩
  have e : PyData.eqv (toP (dN a)) (toP (.lst [])) = decide (a = []) := by
    cases a with
    | nil => rfl
    | cons x a =>
      show PyData.eqv (.list (_ :: _)) (.list []) = _
      simp [PyData.eqv, PyData.eqvAll]
  rw [e]
  exact h
theorem idx_ne6 {a c : Str} {l : List Str} (h : a ≠ c) : (c :: l).idxOf a = l.idxOf a + 1 := by
  rw [List.idxOf_cons, show (c == a) = false by simpa using fun z => h z.symm]
  rfl
theorem idx_self6 {a : Str} {l : List Str} : (a :: l).idxOf a = 0 := by
  rw [List.idxOf_cons, show (a == a) = true by simp]
  rfl
/-- what is left out does not exchange what is left -/
theorem idx_filter {p : Str → Bool} {a b : Str} (pa : p a = true) (pb : p b = true) : ∀ {l : List Str}, l.Nodup → a ∈ l → b ∈ l → ((l.filter p).idxOf a < (l.filter p).idxOf b ↔ l.idxOf a < l.idxOf b)
  | [], _, h, _ => nomatch h
  | c :: l, nd, ha, hb => by
    obtain ⟨nc, nl⟩ := List.nodup_cons.1 nd
    by_cases ca : a = c
    · subst ca
      rw [List.filter_cons, if_pos pa]
      by_cases cb : b = a
      · subst cb
        omega
      · rw [idx_self6, idx_self6, idx_ne6 cb, idx_ne6 cb]
        omega
    · have ha' : a ∈ l := (List.mem_cons.1 ha).resolve_left ca
      by_cases cb : b = c
      · subst cb
        rw [List.filter_cons, if_pos pb, idx_self6, idx_self6]
        omega
      · have hb' : b ∈ l := (List.mem_cons.1 hb).resolve_left cb
        have ih := idx_filter pa pb nl ha' hb'
        rw [idx_ne6 (l := l) ca, idx_ne6 (l := l) cb, List.filter_cons]
        by_cases pc : p c = true
        · rw [if_pos pc, idx_ne6 ca, idx_ne6 cb]
          omega
        · rw [if_neg pc]
          omega
abbrev wr2 : TSt := (tlSet 4 (tlLst (tlCons (tlC (.int 0)) (tlCons (tlOp dSub (tlV 3) (tlC (.int 1))) (tlCons (tlOp dFdiv (tlV 3) (tlC (.int 2))) (tlCons (tlCall [true, true] S_drawW (tlCons (tlV 0) (tlCons (tlV 3) tlNil))) (tlCons (tlCall [true, true] S_drawW (tlCons (tlV 0) (tlCons (tlV 3) tlNil))) (tlCons (tlB dMin2 (tlCons (tlOp dSub (tlV 3) (tlC (.int 1))) (tlCons (tlOp dFdiv (tlV 3) (tlV 1)) tlNil))) (tlCons (tlB dMax2 (tlCons (tlC (.int 0)) (tlCons (tlOp dSub (tlOp dFdiv (tlV 3) (tlV 1)) (tlC (.int 1))) tlNil))) tlNil)))))))))
abbrev wr3 : TSt := (tlRel 5 (tlRel 2 (tlIf (tlT (tlOp dNe (tlLc (tlSeq (tlV 4)) (.nm 5) (tlNotT (tlT (tlCall [false, false] S_wnr (tlCons (tlV 2) (tlCons (tlV 5) tlNil))))) (tlV 5) [5]) (tlLst tlNil))) (tlRet (tlC (.bl false))) tlNx)))
abbrev wr4 (cI : Addr) : TSt := (tlRel 6 (tlRel 3 (tlRel 2 (tlIf (tlT (tlOp dNe (tlLc (tlSeq (tlTup (tlCons (tlV 3) (tlCons (tlOp dAdd (tlV 3) (tlC (.int 1))) (tlCons (tlOp dMul (tlV 3) (tlC (.int 2))) (tlCons (tlOp dPow (tlC (.int 10)) (tlC (.int 29))) (tlCons (tlUn dNeg (tlC (.int 1))) (tlCons (tlUn dNeg (tlV 3)) tlNil)))))))) (.nm 6) (tlNotT (tlT (tlCall [false, false] (S_wover cI) (tlCons (tlV 2) (tlCons (tlV 6) tlNil))))) (tlV 6) [6]) (tlLst tlNil))) (tlRet (tlC (.bl false))) tlNx))))
abbrev wr5 : TSt := (tlSet 7 (tlCall [true, true] S_shuffled (tlCons (tlV 0) (tlCons (tlV 2) tlNil))))
abbrev wr6 : TSt := (tlSet 8 (tlShelf (tlV 2) (tlV 7)))
abbrev wr7 : TSt := (tlSet 6 (tlCall [true] S_shnum (tlCons (tlV 8) tlNil)))
abbrev wr8 : TSt := (tlRel 6 (tlIf (tlOrT (tlNotT (tlT (tlChain dLe dLt (tlC (.int 0)) (tlV 6) (tlV 3)))) (tlOrT (tlT (tlOp dNeA (tlCall [true, false] S_shat (tlCons (tlV 2) (tlCons (tlV 6) tlNil))) (tlV 8))) (tlNotT (tlT (tlCall [true, true] (S_exact 4) (tlCons (tlCall [true] S_shnum (tlCons (tlCall [true] S_mirr6 (tlCons (tlCall [true] S_mirr6 (tlCons (tlV 8) tlNil)) tlNil)) tlNil)) (tlCons (tlV 6) tlNil))))))) (tlRet (tlC (.bl false))) tlNx))
abbrev wr9 : TSt := (tlSet 9 (tlOp dIx (tlLc (tlRng1 (tlV 1)) (.nm 10) (tlT (tlOp dEqA (tlOp dIx (tlV 2) (tlV 10)) (tlOp dIx (tlV 7) (tlC (.int 0))))) (tlV 10) [10]) (tlC (.int 0))))
abbrev wr10 : TSt := (tlIf (tlT (tlOp dNe (tlOp dFdiv (tlV 6) (tlCall [true] S_wmany6 (tlCons (tlOp dSub (tlV 1) (tlC (.int 1))) tlNil))) (tlV 9))) (tlRet (tlC (.bl false))) tlNx)
abbrev wr11 : TSt := (tlSet 11 (tlIfx (tlT (tlOp dGt (tlV 1) (tlC (.int 1)))) (tlShelf (tlLc (tlSeq (tlV 2)) (.nm 12) (tlT (tlOp dNeA (tlV 12) (tlOp dIx (tlV 7) (tlC (.int 0))))) (tlV 12) [12]) (tlSl (tlV 7) (some (tlC (.int 1))) none)) (tlC .non)))
abbrev wr12 : TSt := (tlIf (tlAndT (tlT (tlOp dNotN (tlV 11) (tlC .non))) (tlT (tlOp dNe (tlCall [true] S_shnum (tlCons (tlV 11) tlNil)) (tlOp dMod (tlV 6) (tlCall [true] S_wmany6 (tlCons (tlOp dSub (tlV 1) (tlC (.int 1))) tlNil)))))) (tlRet (tlC (.bl false))) tlNx)
abbrev wr13 : TSt := (tlRet (tlAnd (tlOp dEq (tlCall [true] S_shnum (tlCons (tlCall [true] S_sorted6 (tlCons (tlV 2) tlNil)) tlNil)) (tlC (.int 0))) (tlOp dEqA (tlCall [true, false] S_shat (tlCons (tlV 2) (tlCons (tlOp dSub (tlV 3) (tlC (.int 1))) tlNil))) (tlCall [true] S_mirr6 (tlCons (tlCall [true] S_sorted6 (tlCons (tlV 2) tlNil)) tlNil)))))
abbrev wrT13 : TSt := wr13
abbrev wrT12 : TSt := (tlSq wr12 wrT13)
abbrev wrT11 : TSt := (tlSq wr11 wrT12)
abbrev wrT10 : TSt := (tlSq wr10 wrT11)
abbrev wrT9 : TSt := (tlSq wr9 wrT10)
abbrev wrT8 : TSt := (tlSq wr8 wrT9)
abbrev wrT7 : TSt := (tlSq wr7 wrT8)
abbrev wrT6 : TSt := (tlSq wr6 wrT7)
abbrev wrT5 : TSt := (tlSq wr5 wrT6)
abbrev wrT4 (cI : Addr) : TSt := (tlSq (wr4 cI) wrT5)
abbrev wrT3 (cI : Addr) : TSt := (tlSq wr3 (wrT4 cI))
abbrev wrT2 (cI : Addr) : TSt := (tlSq wr2 (wrT3 cI))
def S_wright (cI : Addr) : ST := fun ds n R => ∃ m : Nat, ds = [.purse, eN m] ∧ 1 ≤ m ∧ m ≤ 12 ∧ 2100 ≤ n ∧ R (.val (.bl true)) (n - 2100)
section
variable {xs us : List Str} {n : Nat} {x0 x3 x4 x5 x6 x9 x10 x11 x12 : Option Rv} {E : TEn}
theorem row_back (cat : Cat xs) : PM.dec xs.length (PM.F xs.length - 1) xs = xs.reverse := by
  have row := row_rev6 (row_self6 cat)
  have e := dec_rk cat row
  have d : (rk xs xs.reverse).Pairwise (· > ·) := by
    have : rk xs xs.reverse = (rk xs xs).reverse := List.map_reverse
    rw [this, rk_self6 cat.2.2.2, List.pairwise_reverse]
    exact List.pairwise_lt_range
  have := PM.num_desc d
  rw [(rk_perm6 cat row).length_eq, List.length_range] at this
  rw [show PM.num (rk xs xs.reverse) = PM.F xs.length - 1 by omega] at e
  exact e
theorem wr_13 (cat : Cat xs) (few : xs.length ≤ 12) (h : E.rt (.val (.bl true)) n) {x1 x2 x7 x8 : Option Rv} {r2 : Rv} (h2 : r2 = .val (dS xs)) :
    wrT13 E [x0, x1, some r2, some (.val (eN (PM.F xs.length))), x4, x5, x6, x7, x8, x9, x10, x11, x12] n := by
  subst h2
  have pos := PM.F_pos xs.length
  have row := row_self6 cat
  refine ⟨rfl, xs, rfl, cat, rfl, xs, xs, rfl, cat, row, few, ?_⟩
  rw [rk_self6 cat.2.2.2, PM.num_asc List.pairwise_lt_range]
  refine ⟨rfl, xs, PM.F xs.length - 1, ?_, cat, few, by omega, ?_⟩
  · show [dS xs, D.int (((PM.F xs.length : Nat) : Int) - 1)] = _
    rw [int_sub1 pos]
  rw [row_back cat]
  refine ⟨rfl, xs, rfl, cat, rfl, xs, xs, rfl, cat, row, ?_⟩
  show dEqA (.sh xs xs.reverse) (.sh xs xs.reverse) (fun r => sto r = true ∧ E.rt r n)
  exact eq_self cat (row_rev6 row) ⟨rfl, h⟩
/-- the first book taken away -/
theorem rest_row {u : Str} {vs : List Str} (cat : Cat xs) (row : Row xs (u :: vs)) (two : vs ≠ []) : Cat (xs.filter fun y => decide (y ≠ u)) ∧ Row (xs.filter fun y => decide (y ≠ u)) vs := by
  obtain ⟨nu, nv⟩ := List.nodup_cons.1 row.2.1
  have mem : ∀ y, y ∈ xs.filter (fun y => decide (y ≠ u)) ↔ y ∈ xs ∧ y ≠ u := fun y => by rw [List.mem_filter, decide_eq_true_iff]
  have pm := row_perm cat row
  have p2 : (xs.filter fun y => decide (y ≠ u)).Perm vs := by
    have := (pm.filter fun y => decide (y ≠ u)).symm
    refine this.trans (List.Perm.of_eq ?_)
    rw [List.filter_cons, if_neg (by simp)]
    exact List.filter_eq_self.2 fun y hy => decide_eq_true fun e => nu (e ▸ hy)
  refine ⟨⟨fun e => two ?_, Nat.le_trans (List.length_filter_le _ _) cat.2.1, fun y hy => cat.2.2.1 y ((mem y).1 hy).1, cat.2.2.2.filter _⟩, fun y hy => p2.mem_iff.2 hy, nv, p2.length_eq.symm⟩
  rw [e] at p2
  exact List.nil_perm.1 p2
theorem rest_num {u : Str} {vs : List Str} (cat : Cat xs) (row : Row xs (u :: vs)) : PM.num (rk (xs.filter fun y => decide (y ≠ u)) vs) = PM.num (rk xs vs) := by
  obtain ⟨nu, nv⟩ := List.nodup_cons.1 row.2.1
  refine PM.num_two fun a ha b hb => ?_
  refine idx_filter (p := fun y => decide (y ≠ u)) (decide_eq_true (p := b ≠ u) fun e => nu (by rw [← e]; exact hb)) (decide_eq_true (p := a ≠ u) fun e => nu (by rw [← e]; exact ha)) cat.2.2.2 (row.1 b (List.mem_cons_of_mem _ hb)) (row.1 a (List.mem_cons_of_mem _ ha))
theorem F_big2 {m : Nat} (h1 : 1 ≤ m) (h : m ≤ 12) : PM.F (m - 1) < 1073741824 := F_big (m - 1) (List.mem_range.2 (by omega))
theorem at_one {α : Type} {l : List α} {x : α} : atI (x :: l) 0 = some x := atI_nat (j := 0) rfl
theorem wr_12 (cat : Cat xs) (few : xs.length ≤ 12) {u : Str} {vs : List Str} (row : Row xs (u :: vs)) (h : E.rt (.val (.bl true)) n) {x7 x8 : Option Rv} {r11 : Option Rv}
    (h11 : (vs = [] ∧ r11 = some (.val .non)) ∨ (vs ≠ [] ∧ r11 = some (.new (.sh (xs.filter fun y => decide (y ≠ u)) vs)))) :
    wrT12 E [x0, some (.bor (eN xs.length)), some (.val (dS xs)), some (.val (eN (PM.F xs.length))), x4, x5, some (.val (eN (PM.num (rk xs (u :: vs))))), x7, x8, x9, x10, r11, x12] n := by
  have pos : 1 ≤ xs.length := List.length_pos_iff.2 cat.1
  rcases h11 with ⟨_, rfl⟩ | ⟨ne, rfl⟩
  · exact wr_13 (x2 := none) cat few h rfl
  · obtain ⟨cat', row'⟩ := rest_row cat row ne
    have fl := List.length_filter_le (fun y => decide (y ≠ u)) xs
    refine ⟨rfl, _, vs, rfl, cat', row', by omega, ?_⟩
    rw [rest_num cat row]
    refine ⟨rfl, xs.length - 1, by show [D.int (((xs.length : Nat) : Int) - 1)] = _; rw [int_sub1 pos], by omega, ?_⟩
    have fp := PM.F_pos (xs.length - 1)
    refine ⟨by omega, ?_⟩
    have e : ((PM.num (rk xs (u :: vs)) : Nat) : Int) % ((PM.F (xs.length - 1) : Nat) : Int) = ((PM.num (rk xs vs) : Nat) : Int) := by
      rw [← Int.natCast_emod]
      congr 1
      have l : (rk xs vs).length = xs.length - 1 := by
        have := row.2.2
        unfold rk
        rw [List.length_map]
        simp at this
        omega
      have := PM.num_mod (xs.idxOf u) (rk xs vs)
      rw [l] at this
      exact this
    show (if (!decide (((PM.num (rk xs vs) : Nat) : Int) = ((PM.num (rk xs (u :: vs)) : Nat) : Int) % ((PM.F (xs.length - 1) : Nat) : Int))) = true then _ else _)
    rw [e, decide_eq_true rfl]
    exact wr_13 (x2 := none) cat few h rfl
theorem wr_9 (cat : Cat xs) (few : xs.length ≤ 12) {u : Str} {vs : List Str} (row : Row xs (u :: vs)) (h : E.rt (.val (.bl true)) n) {x8 : Option Rv} :
    wrT9 E [x0, some (.bor (eN xs.length)), some (.val (dS xs)), some (.val (eN (PM.F xs.length))), x4, x5, some (.val (eN (PM.num (rk xs (u :: vs))))), some (.new (dS (u :: vs))), x8, x9, x10, x11, x12] n := by
  have pos : 1 ≤ xs.length := List.length_pos_iff.2 cat.1
  have hu : u ∈ xs := row.1 u List.mem_cons_self
  have lu : xs.idxOf u < xs.length := List.idxOf_lt_length_iff.2 hu
  have ef : (List.range xs.length).filter (fun i => decide (nmX xs i = u)) = [xs.idxOf u] := by
    have e : (List.range xs.length).filter (fun i => decide (nmX xs i = u)) = (List.range xs.length).filter (fun i => decide (i = xs.idxOf u)) := by
      refine List.filter_congr fun i hi => decide_eq_decide.2 ?_
      have li := List.mem_range.1 hi
      have ei : nmX xs i = xs[i] := by
        show xs.getD i "" = _
        rw [List.getD_eq_getElem?_getD, List.getElem?_eq_getElem li]
        rfl
      rw [ei]
      constructor
      · rintro rfl
        exact (List.Nodup.idxOf_getElem cat.2.2.2 i li).symm
      · rintro rfl
        exact List.getElem_idxOf lu
    rw [e]
    have := (List.nodup_range (n := xs.length)).filter fun i => decide (i = xs.idxOf u)
    have mem : ∀ i, i ∈ (List.range xs.length).filter (fun i => decide (i = xs.idxOf u)) ↔ i = xs.idxOf u := fun i => by
      rw [List.mem_filter, List.mem_range, decide_eq_true_iff]
      exact ⟨fun z => z.2, fun z => ⟨z ▸ lu, z⟩⟩
    generalize (List.range xs.length).filter (fun i => decide (i = xs.idxOf u)) = l at this mem
    match l, this, mem with
    | [], _, mem => exact absurd ((mem _).2 rfl) (by simp)
    | [a], _, mem => rw [(mem a).1 List.mem_cons_self]
    | a :: b :: r, nd, mem =>
      have e1 := (mem a).1 List.mem_cons_self
      have e2 := (mem b).1 (List.mem_cons_of_mem _ List.mem_cons_self)
      exact absurd (e1.trans e2.symm) fun z => (List.nodup_cons.1 nd).1 (by rw [z]; exact List.mem_cons_self)
  have first : atI ((u :: vs).map D.str) 0 = some (.str u) := at_one
  refine ⟨by omega, by omega, by simp [rng]; omega, ?_⟩
  show lcF _ _ _ _ ((rng 0 ((xs.length : Nat) : Int)).map D.int) _ _ _
  rw [rng_nat]
  refine lcF_filter (enc := eN) (f := eN) (b := fun i => decide (nmX xs i = u)) (fun i hi n R hR => ?_) (fun i hi _ n R hR => hR _ rfl rfl) ?_
  · exact ⟨_, at_name (List.mem_range.1 hi), _, first, hR⟩
  rw [List.nil_append, ef]
  refine ⟨_, at_one, ?_⟩
  -- the first book's entry
  refine ⟨rfl, xs.length - 1, by show [D.int (((xs.length : Nat) : Int) - 1)] = _; rw [int_sub1 pos], by omega, ?_⟩
  have fp := PM.F_pos (xs.length - 1)
  have fb := F_big2 pos few
  refine ⟨by omega, by omega, ?_⟩
  have e : ((PM.num (rk xs (u :: vs)) : Nat) : Int) / ((PM.F (xs.length - 1) : Nat) : Int) = ((xs.idxOf u : Nat) : Int) := by
    rw [← Int.natCast_ediv]
    congr 1
    have l : (rk xs vs).length = xs.length - 1 := by
      have := row.2.2
      unfold rk
      rw [List.length_map]
      simp at this
      omega
    have a := PM.num_div (xs.idxOf u) (rk xs vs)
    rw [l] at a
    have p := rk_perm6 cat row
    exact a.trans (PM.cnt_range p)
  show (if (!decide (((PM.num (rk xs (u :: vs)) : Nat) : Int) / ((PM.F (xs.length - 1) : Nat) : Int) = ((xs.idxOf u : Nat) : Int))) = true then _ else _)
  rw [e, decide_eq_true rfl]
  show (if decide ((1 : Int) < ((xs.length : Nat) : Int)) = true then _ else _)
  have lv : vs.length + 1 = xs.length := row.2.2
  by_cases two : 1 < xs.length
  · rw [if_pos (decide_eq_true (by omega))]
    have ne : vs ≠ [] := fun z => by rw [z] at lv; simp at lv; omega
    obtain ⟨cat', row'⟩ := rest_row cat row ne
    refine ⟨by rw [List.length_map]; omega, ?_⟩
    refine lcF_filter (enc := D.str) (f := D.str) (b := fun y => decide (y ≠ u)) (fun y hy n R hR => ?_) (fun y hy _ n R hR => hR _ rfl rfl) ?_
    · refine ⟨_, first, ?_⟩
      show R (!decide (y = u)) n
      rw [show (!decide (y = u)) = decide (y ≠ u) by simp]
      exact hR
    rw [List.nil_append]
    refine ⟨rfl, ?_⟩
    refine ⟨_, vs, rfl, ?_, cat', row', ?_⟩
    · show D.lst (cutL ((u :: vs).map D.str) (some ((1 : Nat) : Int)) none) = _
      rw [cut_from]
      rfl
    exact wr_12 cat few row h (.inr ⟨ne, rfl⟩)
  · rw [if_neg (by rw [decide_eq_false (by omega)]; simp)]
    have ne : vs = [] := List.length_eq_zero_iff.1 (by omega)
    exact wr_12 cat few row h (.inl ⟨ne, rfl⟩)
end
end TL
end
-- T256
section
set_option Elab.async false
set_option linter.all false
set_option maxRecDepth 100000
set_option maxHeartbeats 400000
/-! T256: numbers of shelves: one catalogue, to its end -/
variable [TL.Tb]
namespace TL
open L2 PyProof.Rows PySem PySem.Spec TS RZ
section
variable {xs us : List Str} {n : Nat} {x0 x3 x4 x5 x6 x8 x9 x10 x11 x12 : Option Rv} {E : TEn}
theorem wr_6 (cat : Cat xs) (few : xs.length ≤ 12) (row : Row xs us) (h : E.rt (.val (.bl true)) n) :
    wrT6 E [x0, some (.bor (eN xs.length)), some (.val (dS xs)), some (.val (eN (PM.F xs.length))), x4, x5, x6, some (.new (dS us)), x8, x9, x10, x11, x12] n := by
  have lt := num_rk_lt cat row
  refine ⟨xs, us, rfl, rfl, cat, row, ?_⟩
  refine ⟨rfl, xs, us, rfl, cat, row, few, ?_⟩
  have go : wrT8 E [x0, some (.bor (eN xs.length)), some (.val (dS xs)), some (.val (eN (PM.F xs.length))), x4, x5, some (.val (eN (PM.num (rk xs us)))), some (.new (dS us)), some (.new (.sh xs us)), x9, x10, x11, x12] n := by
    refine chain_of (x := .val (.int 0)) (y := .val (eN (PM.num (rk xs us)))) (b := true) (fun R' h => h) (fun R' h => h) (fun R' h => ?_) ?_
    · show R' (.val (.bl (decide ((0 : Int) ≤ ((PM.num (rk xs us) : Nat) : Int)))))
      rw [decide_eq_true (by omega)]
      exact h
    refine iteT ?_
    show (if (!decide (((PM.num (rk xs us) : Nat) : Int) < ((PM.F xs.length : Nat) : Int))) = true then _ else _)
    rw [decide_eq_true (by omega)]
    refine ⟨rfl, xs, _, rfl, cat, few, lt, ?_⟩
    rw [dec_rk cat row]
    refine ⟨cat.2.2.1, row_words cat row, cat.2.2.1, row_words cat row, ?_⟩
    show (if (!(decide (xs = xs) && decide (us = us))) = true then _ else _)
    rw [decide_eq_true rfl, decide_eq_true rfl]
    refine ⟨rfl, xs, us, rfl, cat, row, ?_⟩
    refine ⟨rfl, xs, us.reverse, rfl, cat, row_rev6 row, ?_⟩
    rw [List.reverse_reverse]
    refine ⟨rfl, xs, us, rfl, cat, row, few, ?_⟩
    refine ⟨rfl, eN (PM.num (rk xs us)), rfl, xd_eN6 _ _, ?_⟩
    cases us with
    | nil =>
      have := row.2.2
      have := List.length_pos_iff.2 cat.1
      simp at *
      omega
    | cons u vs => exact wr_9 cat few row h
  exact go
theorem spots_ok {F m r1 r2 : Nat} (pos : 0 < F) (m1 : 1 ≤ m) (h1 : r1 < F) (h2 : r2 < F) : ∀ k ∈ [0, F - 1, F / 2, r1, r2, min (F - 1) (F / m), F / m - 1], k < F := by
  intro k hk
  have hd : F / m ≤ F := Nat.div_le_self _ _
  simp only [List.mem_cons, List.not_mem_nil, or_false] at hk
  rcases hk with rfl | rfl | rfl | rfl | rfl | rfl | rfl
  · exact pos
  · omega
  · omega
  · exact h1
  · exact h2
  · exact Nat.lt_of_le_of_lt (Nat.min_le_left _ _) (by omega)
  · omega
theorem filter_no {α : Type} (l : List α) : l.filter (fun _ => false) = [] := List.filter_eq_nil_iff.2 fun _ _ => by simp
theorem wr_3 {cI : Addr} (cat : Cat xs) (few : xs.length ≤ 12) {ks : List Nat} (hk : ∀ k ∈ ks, k < PM.F xs.length) (lk : ks.length ≤ 10) (hn : xs.length ≤ n) (h : ∀ q, n ≤ q + 12 → E.rt (.val (.bl true)) q) {x7 : Option Rv} :
    wrT3 cI E [some (.bor .purse), some (.bor (eN xs.length)), some (.new (dS xs)), some (.val (eN (PM.F xs.length))), some (.new (dN ks)), none, none, x7, x8, x9, x10, x11, x12] n := by
  have pos := PM.F_pos xs.length
  have lx : (xs.map D.str).length = xs.length := List.length_map _
  refine ⟨by rw [List.length_map]; omega, ?_⟩
  refine lcF_filter (enc := eN) (f := eN) (b := fun _ => false) (fun k hk2 n R hR => ?_) (fun _ _ z => (nomatch z)) ?_
  · exact ⟨rfl, xs, k, rfl, cat, few, hk k hk2, hR⟩
  rw [filter_no]
  refine ⟨rfl, small_len, ?_⟩
  refine ne_nilN6 (a := []) ?_
  -- numbers too great
  have go : wrT4 cI E [some (.bor .purse), some (.bor (eN xs.length)), some (.val (dS xs)), some (.val (eN (PM.F xs.length))), some (.new (dN ks)), none, none, x7, x8, x9, x10, x11, x12] n := by
    refine ⟨.inr ⟨by decide, by decide⟩, ⟨by decide, by decide, by decide, ?_⟩⟩
    refine ⟨rfl, small_len, by show 6 ≤ _; decide, ?_⟩
    show lcF _ _ _ _ (([((PM.F xs.length : Nat) : Int), ((PM.F xs.length : Nat) : Int) + 1, ((PM.F xs.length : Nat) : Int) * 2, 10 ^ Int.toNat 29, -1, -((PM.F xs.length : Nat) : Int)] : List Int).map D.int) _ _ _
    have ft := F_top xs.length (List.mem_range.2 (by omega))
    refine lcF_filter (enc := D.int) (f := D.int) (b := fun _ => false) (fun k hk2 n R hR => ?_) (fun _ _ z => (nomatch z)) ?_
    · refine ⟨rfl, xs, k, rfl, cat, few, ?_, hR⟩
      simp only [List.mem_cons, List.not_mem_nil, or_false] at hk2
      have big : (2 : Int) ^ 40 < 10 ^ Int.toNat 29 := by decide
      rcases hk2 with rfl | rfl | rfl | rfl | rfl | rfl <;> omega
    rw [filter_no]
    refine ⟨rfl, small_len, ?_⟩
    refine ne_nilN6 (a := []) ?_
    refine ⟨rfl, xs.map D.str, rfl, by omega, by omega, fun ds p => ?_⟩
    obtain ⟨us, rfl, pu⟩ := perm_str p
    rw [lx]
    exact wr_6 cat few ⟨fun y hy => pu.mem_iff.1 hy, pu.nodup_iff.2 cat.2.2.2, pu.length_eq⟩ (h _ (by omega))
  exact go
theorem tree_w_right {cI : Addr} : ∀ ds n R, S_wright cI ds n R → B_w_right S_cat S_wmany6 S_drawW S_wnr (S_wover cI) S_shuffled S_shnum S_shat (S_exact 4) S_mirr6 S_sorted6 (ends R) (slots [true, true] ds 11) n := by
  rintro _ n R ⟨m, rfl, m1, m12, hn, h⟩
  refine ⟨rfl, m, rfl, m1, by omega, by omega, fun xs cat lx => ?_⟩
  subst lx
  have pos := PM.F_pos xs.length
  have f29 := F_12 xs.length (List.mem_range.2 (by omega))
  refine ⟨rfl, xs.length, rfl, m12, ?_⟩
  show wrT2 cI (ends R) [some (.bor .purse), some (.bor (eN xs.length)), some (.new (dS xs)), some (.val (eN (PM.F xs.length))), none, none, none, none, none, none, none, none, none] (n - 2000)
  refine ⟨by decide, by decide, rfl, PM.F xs.length, rfl, pos, f29, by omega, fun r1 h1 => ?_⟩
  refine ⟨rfl, PM.F xs.length, rfl, pos, f29, by omega, fun r2 h2 => ?_⟩
  refine ⟨by omega, by omega, by omega, by omega, rfl, small_len, ?_⟩
  have e1 : ((PM.F xs.length : Nat) : Int) - 1 = ((PM.F xs.length - 1 : Nat) : Int) := int_sub1 pos
  have e2 : ((PM.F xs.length : Nat) : Int) / 2 = ((PM.F xs.length / 2 : Nat) : Int) := by omega
  have e3 : ((PM.F xs.length : Nat) : Int) / ((xs.length : Nat) : Int) = ((PM.F xs.length / xs.length : Nat) : Int) := (Int.natCast_ediv ..).symm
  have key : ([D.int 0, .int (((PM.F xs.length : Nat) : Int) - 1), .int (((PM.F xs.length : Nat) : Int) / 2), .int ((r1 : Nat) : Int), .int ((r2 : Nat) : Int), .int (min (((PM.F xs.length : Nat) : Int) - 1) (((PM.F xs.length : Nat) : Int) / ((xs.length : Nat) : Int))), .int (max 0 (((PM.F xs.length : Nat) : Int) / ((xs.length : Nat) : Int) - 1))] : List D) = [0, PM.F xs.length - 1, PM.F xs.length / 2, r1, r2, min (PM.F xs.length - 1) (PM.F xs.length / xs.length), PM.F xs.length / xs.length - 1].map eN := by
    rw [e1, e2, e3]
    generalize PM.F xs.length / xs.length = q
    generalize PM.F xs.length - 1 = f
    have a : min ((f : Nat) : Int) ((q : Nat) : Int) = ((min f q : Nat) : Int) := by omega
    have b : max 0 (((q : Nat) : Int) - 1) = ((q - 1 : Nat) : Int) := by omega
    rw [a, b]
    rfl
  show wrT3 cI (ends R) [some (.bor .purse), some (.bor (eN xs.length)), some (.new (dS xs)), some (.val (eN (PM.F xs.length))), some (.new (.lst [D.int 0, .int (((PM.F xs.length : Nat) : Int) - 1), .int (((PM.F xs.length : Nat) : Int) / 2), .int ((r1 : Nat) : Int), .int ((r2 : Nat) : Int), .int (min (((PM.F xs.length : Nat) : Int) - 1) (((PM.F xs.length : Nat) : Int) / ((xs.length : Nat) : Int))), .int (max 0 (((PM.F xs.length : Nat) : Int) / ((xs.length : Nat) : Int) - 1))])), none, none, none, none, none, none, none, none] (n - 2000 - 2 - 2)
  rw [key]
  have fin : ∀ q, n - 2000 - 2 - 2 ≤ q + 12 → (ends R).rt (.val (.bl true)) q := fun q hq => ⟨n - 2100, by omega, h⟩
  exact wr_3 cat m12 (spots_ok pos m1 h1 h2) (by show 7 ≤ 10; decide) (by omega) fin
end
end TL
end
-- T257
section
set_option Elab.async false
set_option linter.all false
set_option maxRecDepth 100000
set_option maxHeartbeats 400000
/-! T257: numbers of shelves: the law -/
variable [TL.Tb]
namespace TL
open L2 PyProof.Rows PySem PySem.Spec TS RZ
abbrev kp06 : Gm := [none, none]
theorem no_kp06 {i : Nat} {r : Rv} (e : kp06[i]? = some (some r)) : False := by
  match i, e with
  | 0, e => cases e
  | 1, e => cases e
  | i + 2, e => simp [kp06] at e
theorem tree_lawkeep : ∀ (i : Nat) (r : Rv), kp06[i]? = some (some r) → ∃ d, r = .val d ∧ npu d = true := fun i r e => (no_kp06 e).elim
theorem no_kept06 {Γ : Gm} (h : Γ.length = 2) : Kept kp06 Γ := ⟨h, fun i d e => (no_kp06 e).elim⟩
theorem tree_lawhead {cI : Addr} : ∀ (E : TEn) (n : Nat), 1000000000 ≤ n → (∀ Γ q, Γ.length = kp06.length → Keeps kp06 Γ → E.nx Γ q) → B_lawhead (S_wright cI) S_draw S_wall S_cat S_shnum S_shat E (List.replicate kp06.length none) n := by
  intro E n hn h
  exact h _ _ rfl fun i d e => (no_kp06 e).elim
theorem tree_lawin {cI : Addr} : ∀ (E : TEn) (n : Nat), 5000000 ≤ n → (∀ Γ q, Kept kp06 Γ → n ≤ q + 5000000 → E.nx Γ q) → B_lawin (S_wright cI) S_draw S_wall S_cat S_shnum S_shat E (kp06.set 1 (some (.bor .purse))) n := by
  intro E n hn h
  refine ⟨rfl, 12, rfl, by omega, by omega, by omega, fun r1 h1 => ?_⟩
  have e1 : (1 : Int) + ((r1 : Nat) : Int) = ((1 + r1 : Nat) : Int) := by omega
  refine ⟨rfl, 1 + r1, by show [D.purse, D.int (1 + ((r1 : Nat) : Int))] = [D.purse, D.int ((1 + r1 : Nat) : Int)]; rw [e1], by omega, by omega, by omega, ?_⟩
  refine ⟨rfl, 12, rfl, by omega, by omega, by omega, ?_⟩
  refine ⟨rfl, 4, rfl, by omega, by omega, by omega, fun r2 h2 => ?_⟩
  have e2 : (1 : Int) + ((r2 : Nat) : Int) = ((1 + r2 : Nat) : Int) := by omega
  refine ⟨rfl, 1 + r2, by rw [← e2]; rfl, by omega, by omega, by omega, fun xs cat lx => ?_⟩
  refine ⟨rfl, xs, rfl, cat, by omega, ?_⟩
  exact h _ _ (no_kept06 rfl) (by omega)
def bca : List Str := ["b", "c", "a"]
def abc3 : List Str := ["a", "b", "c"]
def zz1 : List Str := ["z"]
theorem bca_cat : Cat bca := by
  have h : ∀ x ∈ bca, 1 ≤ x.length ∧ x.length ≤ 8 ∧ ∀ c ∈ x.cps.toList, 97 ≤ c ∧ c ≤ 122 := by decide +kernel
  exact ⟨by decide +kernel, by decide +kernel, h, by decide +kernel⟩
theorem bca_row : Row bca abc3 := by
  refine ⟨?_, ?_, ?_⟩
  · decide +kernel
  · decide +kernel
  · decide +kernel
theorem bca_num : PM.num (rk bca abc3) = 4 := by decide +kernel
theorem zz_cat : Cat zz1 := by
  have h : ∀ x ∈ zz1, 1 ≤ x.length ∧ x.length ≤ 8 ∧ ∀ c ∈ x.cps.toList, 97 ≤ c ∧ c ≤ 122 := by decide +kernel
  exact ⟨by decide +kernel, by decide +kernel, h, by decide +kernel⟩
theorem tree_lawfoot {cI : Addr} : ∀ (E : TEn) (n : Nat), 1000000000 ≤ n → (∀ q, E.rt (.val (.bl true)) q) → B_lawfoot (S_wright cI) S_draw S_wall S_cat S_shnum S_shat E kp06 n := by
  intro E n hn h
  refine ⟨rfl, small_len, rfl, small_len, bca, abc3, rfl, rfl, bca_cat, bca_row, ?_⟩
  refine ⟨rfl, bca, abc3, rfl, bca_cat, bca_row, by decide, ?_⟩
  rw [bca_num]
  refine ⟨rfl, small_len, rfl, zz1, 0, rfl, zz_cat, by decide, by decide, ?_⟩
  refine ⟨rfl, zz1, zz1, rfl, ?_⟩
  refine ⟨rfl, small_len, rfl, rfl, by decide, rfl, h n⟩
end TL
end
-- Fa
section
set_option Elab.async false
set_option linter.all false
set_option maxRecDepth 100000
set_option maxHeartbeats 4100000
/-! ### what the top has written -/
namespace LW
open L2 PyProof.Rows PySem PySem.Spec TS TL
/-- a def of the module's, as the top leaves it -/
def RawN (K : PySem.W.Frag) (x : Str) (st : Stmt) : Prop := ∃ f fd, PySem.W.nsIn K mainGlobals x = some (some (.ref f)) ∧ Fun K x x st f fd
theorem rawN_mk {K : PySem.W.Frag} {x : Str} {st : Stmt} {f : Addr} {oc : Value} {od an : Option Addr} {sl : Array (Option Value)} {kV dc pm cd ct : Value} (a : PySem.W.nsIn K mainGlobals x = some (some (.ref f)))
    (l : K.lookup f = some ⟨oc, od, .func (PySem.W.fnOf x x (defArgs st) (defBody st) (defScope st) .none kV dc pm an cd ct), sl⟩) (c : PySem.W.codeIn K cd x = true) (k : PySem.W.keepIn K (.ref f) = true) : RawN K x st :=
  ⟨f, _, a, fun_mk l c k⟩
/-- a method of the class at C -/
def RawM (K : PySem.W.Frag) (C : Addr) (x q : Str) (st : Stmt) (f : Addr) : Prop := ∃ fd, PySem.W.findIn K (.ref C) x = some (some (.ref f)) ∧ PySem.W.isFn K (.ref f) = true ∧ Fun K x q st f fd
theorem rawM_mk {K : PySem.W.Frag} {C : Addr} {x q : Str} {st : Stmt} {f : Addr} {oc : Value} {od an : Option Addr} {sl : Array (Option Value)} {kV dc pm cd ct : Value} (a : PySem.W.findIn K (.ref C) x = some (some (.ref f))) (i : PySem.W.isFn K (.ref f) = true)
    (l : K.lookup f = some ⟨oc, od, .func (PySem.W.fnOf x q (defArgs st) (defBody st) (defScope st) .none kV dc pm an cd ct), sl⟩) (c : PySem.W.codeIn K cd q = true) (k : PySem.W.keepIn K (.ref f) = true) : RawM K C x q st f :=
  ⟨_, a, i, fun_mk l c k⟩
/-- how the built-in classes and the class of shelves lie to one another -/
def kitOk (K : PySem.W.Frag) (C : Addr) : Bool :=
  (["str", "list", "tuple", "dict", "int", "bool"].all fun t => decide (PySem.W.kitOne K (.ref C) (.type t) = some false)) && (["NoneType", "bool", "int", "str", "list", "tuple", "dict"].all fun t => decide (PySem.W.kitOne K (.type t) (.ref C) = some false))
/-- what is looked up of the class Shelf -/
def clsOk (K : PySem.W.Frag) (C : Addr) : Bool :=
  (PySem.W.plainGet K C Str.empty && PySem.W.hasDictIn K C && PySem.W.plainOver K C && PySem.W.makesIn K C && PySem.W.keepIn K (.ref C)) &&
  (decide (PySem.W.findIn K (.ref C) "__setattr__" = some (some (.builtin "object.__setattr__"))) && decide (PySem.W.findIn K (.ref C) "_catalogue" = some none) && decide (PySem.W.findIn K (.ref C) "_row" = some none)) &&
  (decide (PySem.W.findIn K (.ref C) "__ne__" = some (some (.builtin "object.__ne__"))) && decide (PySem.W.mroIn K C (.type "object") = some true)) &&
  (decide (PySem.W.findIn K (.ref C) "__class__" = some (some (Value.builtin "object.__class__"))) && decide (PySem.W.specialIn K (Value.builtin "object.__class__") "__get__" = some (some (.builtin "getset_descriptor.__get__"))) && decide (PySem.W.takesIn K (Value.builtin "object.__class__") = some true)) &&
  (decide (PySem.W.kitOne K (.ref C) (.ref C) = some true) && kitOk K C)
theorem shC_of {K : PySem.W.Frag} {C fi fq fc fr : Addr} {fdi fdq fdc fdr : FuncData} (h : clsOk K C = true)
    (ai : PySem.W.findIn K (.ref C) "__init__" = some (some (.ref fi))) (ii : PySem.W.isFn K (.ref fi) = true) (aq : PySem.W.findIn K (.ref C) "__eq__" = some (some (.ref fq))) (iq : PySem.W.isFn K (.ref fq) = true)
    (ac : PySem.W.findIn K (.ref C) "catalogue" = some (some (.ref fc))) (ic : PySem.W.isFn K (.ref fc) = true) (kc : PySem.W.keepIn K (.ref fc) = true) (ar : PySem.W.findIn K (.ref C) "row" = some (some (.ref fr))) (ir : PySem.W.isFn K (.ref fr) = true) (kr : PySem.W.keepIn K (.ref fr) = true) :
    ShC K C fi fq fc fr ∧ IsC K C := by
  unfold clsOk at h
  simp only [Bool.and_eq_true, decide_eq_true_eq] at h
  obtain ⟨⟨⟨⟨⟨⟨⟨⟨h1, h2⟩, h3⟩, h4⟩, h5⟩, ⟨h6, h7⟩, h8⟩, h9, h10⟩, ⟨h11, h12⟩, h13⟩, h14, h15⟩ := h
  have T : ShC K C fi fq fc fr := ⟨⟨h4, ai, ii, h5⟩, ⟨h1, h2, h3, h6⟩, h7, h8, ⟨ac, ic, kc⟩, ⟨ar, ir, kr⟩, ⟨aq, h9, iq, h10⟩, h11, h12, h13, h14⟩
  unfold kitOk at h15
  rw [Bool.and_eq_true, List.all_eq_true, List.all_eq_true] at h15
  have k1 := fun t ht => of_decide_eq_true (h15.1 t ht)
  exact ⟨T, fun H a dx fs h => .base (.ins h T.cl T.ha T.hn T.ht T.eq.ob), h14, k1 _ (by decide), k1 _ (by decide), k1 _ (by decide), k1 _ (by decide), k1 _ (by decide), k1 _ (by decide), fun t ht => of_decide_eq_true (h15.2 t ht)⟩
def freeNames : List Str := ["sum", "int", "max", "min", "len", "range", "isinstance", "repr", "all", "ValueError", "set", "str", "list", "tuple", "dict", "bool", "any", "sorted", "zip", "enumerate"]
/-- these names stand for what is built in -/
def freeB (K : PySem.W.Frag) : Bool := freeNames.all fun x => decide (PySem.W.nsIn K mainGlobals x = some none)
theorem all_mk0 [TL.Tb] {l : PySem.W.OpenLaw} {w : World} {K : PySem.W.Frag} {h : Heap} {mg : Str → Option Value} {fa C fi fq fc fr : Addr} {t1 t2 : Tok} (X : K.In h) (G : h.Ns mainGlobals mg) (hfa : mg "law" = some (.ref fa))
    (aC : PySem.W.nsIn K mainGlobals "Shelf" = some (some (.ref C))) (aL : PySem.W.nsIn K mainGlobals "LETTERS" = some (some (.str "abcdefghijklmnopqrstuvwxyz" t1))) (aM : PySem.W.nsIn K mainGlobals "MOST_LETTERS" = some (some (.int 8 t2)))
    (ok : clsOk K C = true) (fr_ : freeB K = true)
    (r0 : RawN K "is_count" st_is_count)
    (r1 : RawN K "is_count_below" st_is_count_below)
    (r2 : RawN K "is_book" sIsBook)
    (r3 : RawN K "is_catalogue" sIsCat)
    (r4 : RawN K "are_unlike_of" sUnlike)
    (r5 : RawN K "is_row_of" sRowOf)
    (r6 : RawN K "check_shelf" sCheck)
    (r7 : RawN K "ranks" sRanks)
    (r8 : RawN K "sorted_shelf" st_sorted_shelf)
    (r9 : RawN K "mirrored" st_mirrored)
    (r10 : RawN K "shelf_at" st_shelf_at)
    (r11 : RawN K "shelf_number" st_shelf_number)
    (r12 : RawN K "_law_purse" sPurse)
    (r13 : RawN K "_law_mixed" sMixed)
    (r14 : RawN K "_law_draw" sDraw)
    (r15 : RawN K "_law_purses" sPurses)
    (r16 : RawN K "_law_shuffled" st_w_shuffled)
    (r17 : RawN K "_law_exact" st_w_exact)
    (r18 : RawN K "_law_word" sWord)
    (r19 : RawN K "_law_words" st_w_words)
    (r20 : RawN K "_law_catalogue" st_w_catalogue)
    (r21 : RawN K "_law_many" st_w_many)
    (r22 : RawN K "_law_next" st_w_next)
    (r23 : RawN K "_law_over" st_w_over)
    (r24 : RawN K "_law_number_right" st_w_number_right)
    (r25 : RawN K "_law_all_right" st_w_all_right)
    (r26 : RawN K "_law_right" st_w_right)
    (r27 : RawN K "law" st_law)
    (n0 : RawM K C "__init__" "Shelf.__init__" sInit fi)
    (n1 : RawM K C "__eq__" "Shelf.__eq__" sEq fq)
    (n2 : RawM K C "catalogue" "Shelf.catalogue" sCats fc)
    (n3 : RawM K C "row" "Shelf.row" sRow fr)
    {c_InvalidCatalogue i_InvalidCatalogue : Addr} (eE_InvalidCatalogue : RawE K "InvalidCatalogue" c_InvalidCatalogue i_InvalidCatalogue)
    {c_InvalidCount i_InvalidCount : Addr} (eE_InvalidCount : RawE K "InvalidCount" c_InvalidCount i_InvalidCount) (eo_InvalidCount : PySem.W.exmOne K (.ref c_InvalidCount) (.ref c_InvalidCount) = some true) (ev_InvalidCount : PySem.W.findIn K (.ref c_InvalidCount) "value" = some none) (eI_factorial : PySem.W.nsIn K mainGlobals "factorial" = some (some (.builtin "math.factorial")))
    (eT : TL.Tb.T = [])
    : LamX.LawAtS l w K CX0 9 63 "_law_script" mg fa h := by
  have at_ : ∀ {x : Str} {v : Value}, PySem.W.nsIn K mainGlobals x = some (some v) → mg x = some v := fun e => PySem.W.mg_of X G e
  have free : ∀ x ∈ freeNames, mg x = none := fun x hx => PySem.W.mg_none_of X G (of_decide_eq_true (List.all_eq_true.1 fr_ x hx))
  have raw : ∀ {x : Str} {st : Stmt}, RawN K x st → RawF K mg x st := fun ⟨f, fd, a, F⟩ => ⟨f, fd, at_ a, F⟩
  have B : Bl mg := ⟨free _ (by simp [freeNames]), free _ (by simp [freeNames]), free _ (by simp [freeNames]), free _ (by simp [freeNames]), free _ (by simp [freeNames]), free _ (by simp [freeNames]), free _ (by simp [freeNames]), free _ (by simp [freeNames]), free _ (by simp [freeNames]), free _ (by simp [freeNames])⟩
  have M : Md mg := ⟨free _ (by simp [freeNames]), free _ (by simp [freeNames]), free _ (by simp [freeNames]), free _ (by simp [freeNames]), free _ (by simp [freeNames]), free _ (by simp [freeNames]), ⟨_, at_ aL⟩, ⟨_, at_ aM⟩⟩
  have nm : Nm mg := ⟨free _ (by simp [freeNames]), free _ (by simp [freeNames]), free _ (by simp [freeNames]), free _ (by simp [freeNames]), free _ (by simp [freeNames]), free _ (by simp [freeNames]), free _ (by simp [freeNames]), free _ (by simp [freeNames]), free _ (by simp [freeNames]), free _ (by simp [freeNames]), free _ (by simp [freeNames]), free _ (by simp [freeNames]), free _ (by simp [freeNames]), free _ (by simp [freeNames]), free _ (by simp [freeNames]), free _ (by simp [freeNames]), free _ (by simp [freeNames]), free _ (by simp [freeNames]), free _ (by simp [freeNames])⟩
  have en : mg "enumerate" = none := free _ (by simp [freeNames])
  obtain ⟨f12, d12, a12, F12⟩ := r12
  have B12 := F12.binds (ps := ["_law_script", "_law_at"]) fun _ _ _ _ _ _ us hl => match us, hl with | [_, _], _ => rfl
  obtain ⟨f13, d13, a13, F13⟩ := r13
  have B13 := F13.binds (ps := ["_law_seed", "_law_turn", "_law_at"]) fun _ _ _ _ _ _ us hl => match us, hl with | [_, _, _], _ => rfl
  obtain ⟨f14, d14, a14, F14⟩ := r14
  have B14 := F14.binds (ps := ["_law_purse_here", "_law_many_here"]) fun _ _ _ _ _ _ us hl => match us, hl with | [_, _], _ => rfl
  obtain ⟨f15, d15, a15, F15⟩ := r15
  have B15 := F15.binds (ps := ["_law_script", "_law_few"]) fun _ _ _ _ _ _ us hl => match us, hl with | [_, _], _ => rfl
  obtain ⟨f18, d18, a18, F18⟩ := r18
  have B18 := F18.binds (ps := ["_law_purse_here"]) fun _ _ _ _ _ _ us hl => match us, hl with | [_], _ => rfl
  obtain ⟨f2, d2, a2, F2⟩ := r2
  have B2 := F2.binds (ps := ["value"]) fun _ _ _ _ _ _ us hl => match us, hl with | [_], _ => rfl
  obtain ⟨f3, d3, a3, F3⟩ := r3
  have B3 := F3.binds (ps := ["value"]) fun _ _ _ _ _ _ us hl => match us, hl with | [_], _ => rfl
  obtain ⟨f4, d4, a4, F4⟩ := r4
  have B4 := F4.binds (ps := ["books", "value"]) fun _ _ _ _ _ _ us hl => match us, hl with | [_, _], _ => rfl
  obtain ⟨f5, d5, a5, F5⟩ := r5
  have B5 := F5.binds (ps := ["catalogue", "value"]) fun _ _ _ _ _ _ us hl => match us, hl with | [_, _], _ => rfl
  obtain ⟨f6, d6, a6, F6⟩ := r6
  have B6 := F6.binds (ps := ["shelf"]) fun _ _ _ _ _ _ us hl => match us, hl with | [_], _ => rfl
  obtain ⟨f7, d7, a7, F7⟩ := r7
  have B7 := F7.binds (ps := ["shelf"]) fun _ _ _ _ _ _ us hl => match us, hl with | [_], _ => rfl
  obtain ⟨f27, d27, a27, F27⟩ := r27
  obtain ⟨e0, h0, i0, M0⟩ := n0
  have N0 := M0.binds (ps := ["self", "catalogue", "row"]) fun _ _ _ _ _ _ us hl => match us, hl with | [_, _, _], _ => rfl
  obtain ⟨e1, h1, i1, M1⟩ := n1
  have N1 := M1.binds (ps := ["self", "other"]) fun _ _ _ _ _ _ us hl => match us, hl with | [_, _], _ => rfl
  obtain ⟨e2, h2, i2, M2⟩ := n2
  have N2 := M2.binds (ps := ["self"]) fun _ _ _ _ _ _ us hl => match us, hl with | [_], _ => rfl
  obtain ⟨e3, h3, i3, M3⟩ := n3
  have N3 := M3.binds (ps := ["self"]) fun _ _ _ _ _ _ us hl => match us, hl with | [_], _ => rfl
  obtain ⟨T, I⟩ := shC_of (fdi := e0) (fdq := e1) (fdc := e2) (fdr := e3) ok h0 i0 h1 i1 h2 i2 M2.kp h3 i3 M3.kp
  have e := hfa.symm.trans (at_ a27)
  cases e
  refine ⟨d27, [], spLaw K, ?_, ?_, ?_, ?_, ?_, fun base hKb _ hTB => ?_⟩
  · exact fun p hp => nomatch hp
  · exact fun p hp => nomatch hp
  · exact fun p hp => nomatch hp
  · obtain ⟨oc, od, kV, doc, pm, an, cdv, ct, osl, rfl, _⟩ := F27.ex
    exact fun s v => .of_eq rfl
  · exact fun H a ns hl _ hH hS => ⟨a, ns, rfl, hS, hl, (fun z hz => by rw [eT] at hz; cases hz), fun _ => rfl⟩
  have gS := at_ aC
  have m_InvalidCatalogue := at_ eE_InvalidCatalogue.aC
  have m_InvalidCount := at_ eE_InvalidCount.aC
  have m_factorial := at_ eI_factorial
  have g_mixed := ok_mixed (P := l.prog) (w := w) (base := base) F13 B
  have g_draw := ok_draw (P := l.prog) (w := w) (base := base) F14 B g_mixed (at_ a13) F13.kp B13
  have g_purse := ok_purse (P := l.prog) (w := w) (base := base) F12 B
  have g_purses := ok_purses (P := l.prog) (w := w) (base := base) F15 B g_purse (at_ a12) F12.kp B12
  have g_word := ok_word (P := l.prog) (w := w) (base := base) F18 B g_draw (at_ a14) F14.kp B14
  have g_book := ok_isBook (P := l.prog) (w := w) (base := base) F2 M
  have g_isCat := ok_isCat (P := l.prog) (w := w) (base := base) F3 M g_book (at_ a2) F2.kp B2
  have g_unlike := ok_unlike (P := l.prog) (w := w) (base := base) F4 M
  have g_rowOf := ok_rowOf (P := l.prog) (w := w) (base := base) F5 M g_unlike (at_ a4) F4.kp B4
  have g_init := ok_init (P := l.prog) (w := w) (base := base) M0 M T g_isCat (at_ a3) F3.kp B3 g_rowOf (at_ a5) F5.kp B5
  have g_eq := ok_eq (P := l.prog) (w := w) (base := base) M1 M gS T
  have g_cats := ok_cats (P := l.prog) (w := w) (base := base) M2 M T
  have g_row := ok_row (P := l.prog) (w := w) (base := base) M3 M T
  have L : ShL l.prog w K mg base C := ⟨⟨fi, fq, fc, fr, e0, e1, e2, e3, T, gS, g_init, N0, g_eq, N1, conv_new g_cats, N2, conv_new g_row, N3, I⟩⟩
  have g_check := ok_check (P := l.prog) (w := w) (base := base) F6 M gS T
  have g_ranks := ok_ranks (P := l.prog) (w := w) (base := base) F7 M T en g_check (at_ a6) F6.kp B6 g_cats N2 g_row N3
  have h_w_draw : Has l.prog w K mg base C 2 "_law_draw" ["_law_purse_here", "_law_many_here"] [true, true] S_draw := ⟨_, _, conv_draw g_draw, at_ a14, F14.kp, B14⟩
  have h_w_word : Has l.prog w K mg base C 3 "_law_word" ["_law_purse_here"] [true] S_word := ⟨_, _, conv_word g_word, at_ a18, F18.kp, B18⟩
  have h_ranks : Has l.prog w K mg base C 2 "ranks" ["shelf"] [true] S_ranks := ⟨_, _, conv_ranks g_ranks, at_ a7, F7.kp, B7⟩
  have h_check_shelf : Has l.prog w K mg base C 1 "check_shelf" ["shelf"] [true] S_check := ⟨_, _, conv_check g_check, at_ a6, F6.kp, B6⟩
  have h_is_catalogue : Has l.prog w K mg base C 2 "is_catalogue" ["value"] [true] S_is_catalogue := ⟨_, _, conv_cat g_isCat, at_ a3, F3.kp, B3⟩
  have h_are_unlike_of : Has l.prog w K mg base C 1 "are_unlike_of" ["books", "value"] [true, true] S_are_unlike := ⟨_, _, conv_unlike g_unlike, at_ a4, F4.kp, B4⟩
  have h_is_count := has_is_count (P := l.prog) (w := w) (base := base) (C := C) nm L (raw r0)    tree_is_count
  have h_is_count_below := has_is_count_below (P := l.prog) (w := w) (base := base) (C := C) nm (raw r1) h_is_count   tree_is_count_below
  have h_sorted_shelf := has_sorted_shelf (P := l.prog) (w := w) (base := base) (C := C) nm L (raw r8)    tree_sorted_shelf
  have h_mirrored := has_mirrored (P := l.prog) (w := w) (base := base) (C := C) nm L (raw r9) h_check_shelf   tree_mirrored
  have h_shelf_at := has_shelf_at (P := l.prog) (w := w) (base := base) (C := C) nm L m_factorial (raw r10) h_is_catalogue h_is_count_below   tree_shelf_at
  have hj_shelf_at_10 := hasJ_shelf_at_10 (P := l.prog) (w := w) (base := base) (C := C) nm L m_factorial (raw r10) h_is_catalogue h_is_count_below  tree_shelf_at
  have hx_shelf_at := hasX_shelf_at (P := l.prog) (w := w) (base := base) (C := C) nm L (raw r10) h_is_catalogue h_is_count_below eE_InvalidCatalogue m_InvalidCatalogue eE_InvalidCount m_InvalidCount m_factorial tree_shelf_atX
  have h_shelf_number := has_shelf_number (P := l.prog) (w := w) (base := base) (C := C) nm m_factorial (raw r11) h_ranks   tree_shelf_number
  have hj_shelf_number_0 := hasJ_shelf_number_0 (P := l.prog) (w := w) (base := base) (C := C) nm m_factorial (raw r11) h_ranks  tree_shelf_number
  have h_w_shuffled := has_w_shuffled (P := l.prog) (w := w) (base := base) (C := C) nm (raw r16) h_w_draw   tree_w_shuffled
  have y0_w_exact : Has l.prog w K mg base C 1 "_law_exact" ["_law_mine", "_law_theirs"] [true, true] _ := has_no (N := []) (raw r17) fun F => F.binds fun _ _ _ _ _ _ us hl => match us, hl with | [_, _], _ => rfl
  have y1_w_exact := has_w_exact (P := l.prog) (w := w) (base := base) (C := C) (k := 0) nm L (raw r17) y0_w_exact tree_w_exact0
  have y2_w_exact := has_w_exact (P := l.prog) (w := w) (base := base) (C := C) (k := 1) nm L (raw r17) y1_w_exact (tree_w_exactS (k := 0))
  have y3_w_exact := has_w_exact (P := l.prog) (w := w) (base := base) (C := C) (k := 2) nm L (raw r17) y2_w_exact (tree_w_exactS (k := 1))
  have y4_w_exact := has_w_exact (P := l.prog) (w := w) (base := base) (C := C) (k := 3) nm L (raw r17) y3_w_exact (tree_w_exactS (k := 2))
  have y5_w_exact := has_w_exact (P := l.prog) (w := w) (base := base) (C := C) (k := 4) nm L (raw r17) y4_w_exact (tree_w_exactS (k := 3))
  have h_w_exact := y5_w_exact
  have h_w_words := has_w_words (P := l.prog) (w := w) (base := base) (C := C) nm (raw r19) h_w_word h_w_draw   tree_w_words
  have h_w_catalogue := has_w_catalogue (P := l.prog) (w := w) (base := base) (C := C) nm (raw r20) h_w_words h_w_draw h_w_shuffled   tree_w_catalogue
  have h_w_many := has_w_many (P := l.prog) (w := w) (base := base) (C := C) nm (raw r21)    tree_w_many
  have h_w_next := has_w_next (P := l.prog) (w := w) (base := base) (C := C) nm (raw r22)    tree_w_next
  have h_w_over := has_w_over (P := l.prog) (w := w) (base := base) (C := C) nm (raw r23) h_w_exact hx_shelf_at m_InvalidCount (fun c e => by rw [e]; exact eo_InvalidCount) (fun c e => by rw [e]; exact ⟨eE_InvalidCount.xf, ev_InvalidCount⟩)  tree_w_over
  have h_w_number_right := has_w_number_right (P := l.prog) (w := w) (base := base) (C := C) nm L (raw r24) h_w_many h_shelf_at h_w_exact h_shelf_number h_ranks h_w_next  hj_shelf_at_10 hj_shelf_number_0 tree_w_number_right
  have h_w_all_right := has_w_all_right (P := l.prog) (w := w) (base := base) (C := C) nm L (raw r25) h_w_many h_w_next h_shelf_at h_w_exact h_ranks h_shelf_number   tree_w_all_right
  have h_drawW : Has l.prog w K mg base C 2 "_law_draw" ["_law_purse_here", "_law_many_here"] [true, true] S_drawW := ⟨_, _, conv_drawW g_draw, at_ a14, F14.kp, B14⟩
  have h_w_right := has_w_right (P := l.prog) (w := w) (base := base) (C := C) nm L (raw r26) h_w_catalogue h_w_many h_drawW h_w_number_right h_w_over h_w_shuffled h_shelf_number h_shelf_at h_w_exact h_mirrored h_sorted_shelf tree_w_right
  exact law_fin (C := C) nm L F27 ⟨_, _, g_purses, at_ a15, F15.kp, B15⟩ h_w_right h_w_draw h_w_all_right h_w_catalogue h_shelf_number h_shelf_at tree_lawkeep tree_lawhead tree_lawin tree_lawfoot
theorem all_mk {l : PySem.W.OpenLaw} {w : World} {K : PySem.W.Frag} {h : Heap} {mg : Str → Option Value} {fa C fi fq fc fr : Addr} {t1 t2 : Tok} (X : K.In h) (G : h.Ns mainGlobals mg) (hfa : mg "law" = some (.ref fa))
    (aC : PySem.W.nsIn K mainGlobals "Shelf" = some (some (.ref C))) (aL : PySem.W.nsIn K mainGlobals "LETTERS" = some (some (.str "abcdefghijklmnopqrstuvwxyz" t1))) (aM : PySem.W.nsIn K mainGlobals "MOST_LETTERS" = some (some (.int 8 t2)))
    (ok : clsOk K C = true) (fr_ : freeB K = true)
    (r0 : RawN K "is_count" st_is_count)
    (r1 : RawN K "is_count_below" st_is_count_below)
    (r2 : RawN K "is_book" sIsBook)
    (r3 : RawN K "is_catalogue" sIsCat)
    (r4 : RawN K "are_unlike_of" sUnlike)
    (r5 : RawN K "is_row_of" sRowOf)
    (r6 : RawN K "check_shelf" sCheck)
    (r7 : RawN K "ranks" sRanks)
    (r8 : RawN K "sorted_shelf" st_sorted_shelf)
    (r9 : RawN K "mirrored" st_mirrored)
    (r10 : RawN K "shelf_at" st_shelf_at)
    (r11 : RawN K "shelf_number" st_shelf_number)
    (r12 : RawN K "_law_purse" sPurse)
    (r13 : RawN K "_law_mixed" sMixed)
    (r14 : RawN K "_law_draw" sDraw)
    (r15 : RawN K "_law_purses" sPurses)
    (r16 : RawN K "_law_shuffled" st_w_shuffled)
    (r17 : RawN K "_law_exact" st_w_exact)
    (r18 : RawN K "_law_word" sWord)
    (r19 : RawN K "_law_words" st_w_words)
    (r20 : RawN K "_law_catalogue" st_w_catalogue)
    (r21 : RawN K "_law_many" st_w_many)
    (r22 : RawN K "_law_next" st_w_next)
    (r23 : RawN K "_law_over" st_w_over)
    (r24 : RawN K "_law_number_right" st_w_number_right)
    (r25 : RawN K "_law_all_right" st_w_all_right)
    (r26 : RawN K "_law_right" st_w_right)
    (r27 : RawN K "law" st_law)
    (n0 : RawM K C "__init__" "Shelf.__init__" sInit fi)
    (n1 : RawM K C "__eq__" "Shelf.__eq__" sEq fq)
    (n2 : RawM K C "catalogue" "Shelf.catalogue" sCats fc)
    (n3 : RawM K C "row" "Shelf.row" sRow fr)
    {c_InvalidCatalogue i_InvalidCatalogue : Addr} (eE_InvalidCatalogue : RawE K "InvalidCatalogue" c_InvalidCatalogue i_InvalidCatalogue)
    {c_InvalidCount i_InvalidCount : Addr} (eE_InvalidCount : RawE K "InvalidCount" c_InvalidCount i_InvalidCount) (eo_InvalidCount : PySem.W.exmOne K (.ref c_InvalidCount) (.ref c_InvalidCount) = some true) (ev_InvalidCount : PySem.W.findIn K (.ref c_InvalidCount) "value" = some none) (eI_factorial : PySem.W.nsIn K mainGlobals "factorial" = some (some (.builtin "math.factorial")))
    : LamX.LawAtS l w K CX0 9 63 "_law_script" mg fa h := by
  letI : TL.Tb := ⟨[]⟩
  exact all_mk0 X G hfa aC aL aM ok fr_ r0 r1 r2 r3 r4 r5 r6 r7 r8 r9 r10 r11 r12 r13 r14 r15 r16 r17 r18 r19 r20 r21 r22 r23 r24 r25 r26 r27 n0 n1 n2 n3 eE_InvalidCatalogue eE_InvalidCount eo_InvalidCount ev_InvalidCount eI_factorial rfl
theorem walk {l : PySem.W.OpenLaw} {qq : Program} {loose : List Str} {XP : (Str → Option Value) → Heap → Prop} {YP : World → Heap → Prop} {d : DefRec} {K : Params → PySem.W.Frag} (hn : l.most = some 63) (hdf : d.params.defaults = [])
    (hY : ∀ (w : World) (h : Heap), YP w h → (K w.params).In h)
    (F : ∀ (w : World) (mg : Str → Option Value) (fa : Addr) (h : Heap), YP w h → (K w.params).In h → h.Ns mainGlobals mg → mg d.name = some (.ref fa) → LamX.LawAtS l w (K w.params) CX0 9 63 "_law_script" mg fa h) :
    PySem.W.WalkO qq loose XP YP l.row.toRowW d [] (fun f vs => PySem.call f vs) :=
  LamX.walk_ofTs (CX := fun _ => CX0) hn (by decide) hdf ⟨rfl, by decide, by decide⟩ hY F fun _ _ _ _ _ z => z
end LW
end
-- Hd
section
set_option Elab.async false
set_option maxRecDepth 100000
open PyProof.Rows PySem PySem.W
set_option maxHeartbeats 0 in
open_top lawhd for PySem.Challenge.rw_runturns_k06_whole_shelves_numbered
end
-- Z
section
set_option Elab.async false
set_option maxRecDepth 100000
open PyProof.Rows PySem PySem.W
set_option maxHeartbeats 0 in
theorem PySem.Challenge.cw_runturns_k06_whole_shelves_numbered_holds : PySem.Challenge.rw_runturns_k06_whole_shelves_numbered.Holds := by
  refine lawhd ?_
  k_fill
  refine LW.walk (l := PySem.Challenge.rw_runturns_k06_whole_shelves_numbered) rfl rfl (fun w h Y => PySem.W.kIn_of Y) ?F
  case F =>
    intro w mg fa h Y KX G hmg
    refine' LW.all_mk KX G hmg ?aC ?aL ?aM ?ok ?fr ?r0 ?r1 ?r2 ?r3 ?r4 ?r5 ?r6 ?r7 ?r8 ?r9 ?r10 ?r11 ?r12 ?r13 ?r14 ?r15 ?r16 ?r17 ?r18 ?r19 ?r20 ?r21 ?r22 ?r23 ?r24 ?r25 ?r26 ?r27 ?n0 ?n1 ?n2 ?n3 ?eE_InvalidCatalogue ?eE_InvalidCount ?eo_InvalidCount ?ev_InvalidCount ?eI_factorial
    (case aC => k_is)
    (case aL => k_is)
    (case aM => k_is)
    (case fr => kernel_rfl)
    (case n0 => refine' LW.rawM_mk ?na0 ?ni0 ?nl0 ?nc0 ?nk0; (case na0 => k_is); (case ni0 => k_is); (case nl0 => k_is); (case nc0 => k_is); (case nk0 => k_is))
    (case n1 => refine' LW.rawM_mk ?na1 ?ni1 ?nl1 ?nc1 ?nk1; (case na1 => k_is); (case ni1 => k_is); (case nl1 => k_is); (case nc1 => k_is); (case nk1 => k_is))
    (case n2 => refine' LW.rawM_mk ?na2 ?ni2 ?nl2 ?nc2 ?nk2; (case na2 => k_is); (case ni2 => k_is); (case nl2 => k_is); (case nc2 => k_is); (case nk2 => k_is))
    (case n3 => refine' LW.rawM_mk ?na3 ?ni3 ?nl3 ?nc3 ?nk3; (case na3 => k_is); (case ni3 => k_is); (case nl3 => k_is); (case nc3 => k_is); (case nk3 => k_is))
    (case ok => kernel_rfl)
    (case eE_InvalidCatalogue => refine' L2.rawE_mk ?ga_InvalidCatalogue ?gx_InvalidCatalogue ?gi_InvalidCatalogue ?gl_InvalidCatalogue ?gc_InvalidCatalogue ?gt_InvalidCatalogue ?gb_InvalidCatalogue; (case ga_InvalidCatalogue => k_is); (case gx_InvalidCatalogue => k_is); (case gi_InvalidCatalogue => k_is); (case gl_InvalidCatalogue => k_is); (case gc_InvalidCatalogue => k_is); (case gt_InvalidCatalogue => k_is); (case gb_InvalidCatalogue => kernel_rfl))
    (case eE_InvalidCount => refine' L2.rawE_mk ?ga_InvalidCount ?gx_InvalidCount ?gi_InvalidCount ?gl_InvalidCount ?gc_InvalidCount ?gt_InvalidCount ?gb_InvalidCount; (case ga_InvalidCount => k_is); (case gx_InvalidCount => k_is); (case gi_InvalidCount => k_is); (case gl_InvalidCount => k_is); (case gc_InvalidCount => k_is); (case gt_InvalidCount => k_is); (case gb_InvalidCount => kernel_rfl))
    (case eo_InvalidCount => kernel_rfl)
    (case ev_InvalidCount => k_is)
    (case eI_factorial => k_is)
    (case r0 => refine' LW.rawN_mk ?ra0 ?rl0 ?rc0 ?rk0; (case ra0 => k_is); (case rl0 => k_is); (case rc0 => k_is); (case rk0 => k_is))
    (case r1 => refine' LW.rawN_mk ?ra1 ?rl1 ?rc1 ?rk1; (case ra1 => k_is); (case rl1 => k_is); (case rc1 => k_is); (case rk1 => k_is))
    (case r2 => refine' LW.rawN_mk ?ra2 ?rl2 ?rc2 ?rk2; (case ra2 => k_is); (case rl2 => k_is); (case rc2 => k_is); (case rk2 => k_is))
    (case r3 => refine' LW.rawN_mk ?ra3 ?rl3 ?rc3 ?rk3; (case ra3 => k_is); (case rl3 => k_is); (case rc3 => k_is); (case rk3 => k_is))
    (case r4 => refine' LW.rawN_mk ?ra4 ?rl4 ?rc4 ?rk4; (case ra4 => k_is); (case rl4 => k_is); (case rc4 => k_is); (case rk4 => k_is))
    (case r5 => refine' LW.rawN_mk ?ra5 ?rl5 ?rc5 ?rk5; (case ra5 => k_is); (case rl5 => k_is); (case rc5 => k_is); (case rk5 => k_is))
    (case r6 => refine' LW.rawN_mk ?ra6 ?rl6 ?rc6 ?rk6; (case ra6 => k_is); (case rl6 => k_is); (case rc6 => k_is); (case rk6 => k_is))
    (case r7 => refine' LW.rawN_mk ?ra7 ?rl7 ?rc7 ?rk7; (case ra7 => k_is); (case rl7 => k_is); (case rc7 => k_is); (case rk7 => k_is))
    (case r8 => refine' LW.rawN_mk ?ra8 ?rl8 ?rc8 ?rk8; (case ra8 => k_is); (case rl8 => k_is); (case rc8 => k_is); (case rk8 => k_is))
    (case r9 => refine' LW.rawN_mk ?ra9 ?rl9 ?rc9 ?rk9; (case ra9 => k_is); (case rl9 => k_is); (case rc9 => k_is); (case rk9 => k_is))
    (case r10 => refine' LW.rawN_mk ?ra10 ?rl10 ?rc10 ?rk10; (case ra10 => k_is); (case rl10 => k_is); (case rc10 => k_is); (case rk10 => k_is))
    (case r11 => refine' LW.rawN_mk ?ra11 ?rl11 ?rc11 ?rk11; (case ra11 => k_is); (case rl11 => k_is); (case rc11 => k_is); (case rk11 => k_is))
    (case r12 => refine' LW.rawN_mk ?ra12 ?rl12 ?rc12 ?rk12; (case ra12 => k_is); (case rl12 => k_is); (case rc12 => k_is); (case rk12 => k_is))
    (case r13 => refine' LW.rawN_mk ?ra13 ?rl13 ?rc13 ?rk13; (case ra13 => k_is); (case rl13 => k_is); (case rc13 => k_is); (case rk13 => k_is))
    (case r14 => refine' LW.rawN_mk ?ra14 ?rl14 ?rc14 ?rk14; (case ra14 => k_is); (case rl14 => k_is); (case rc14 => k_is); (case rk14 => k_is))
    (case r15 => refine' LW.rawN_mk ?ra15 ?rl15 ?rc15 ?rk15; (case ra15 => k_is); (case rl15 => k_is); (case rc15 => k_is); (case rk15 => k_is))
    (case r16 => refine' LW.rawN_mk ?ra16 ?rl16 ?rc16 ?rk16; (case ra16 => k_is); (case rl16 => k_is); (case rc16 => k_is); (case rk16 => k_is))
    (case r17 => refine' LW.rawN_mk ?ra17 ?rl17 ?rc17 ?rk17; (case ra17 => k_is); (case rl17 => k_is); (case rc17 => k_is); (case rk17 => k_is))
    (case r18 => refine' LW.rawN_mk ?ra18 ?rl18 ?rc18 ?rk18; (case ra18 => k_is); (case rl18 => k_is); (case rc18 => k_is); (case rk18 => k_is))
    (case r19 => refine' LW.rawN_mk ?ra19 ?rl19 ?rc19 ?rk19; (case ra19 => k_is); (case rl19 => k_is); (case rc19 => k_is); (case rk19 => k_is))
    (case r20 => refine' LW.rawN_mk ?ra20 ?rl20 ?rc20 ?rk20; (case ra20 => k_is); (case rl20 => k_is); (case rc20 => k_is); (case rk20 => k_is))
    (case r21 => refine' LW.rawN_mk ?ra21 ?rl21 ?rc21 ?rk21; (case ra21 => k_is); (case rl21 => k_is); (case rc21 => k_is); (case rk21 => k_is))
    (case r22 => refine' LW.rawN_mk ?ra22 ?rl22 ?rc22 ?rk22; (case ra22 => k_is); (case rl22 => k_is); (case rc22 => k_is); (case rk22 => k_is))
    (case r23 => refine' LW.rawN_mk ?ra23 ?rl23 ?rc23 ?rk23; (case ra23 => k_is); (case rl23 => k_is); (case rc23 => k_is); (case rk23 => k_is))
    (case r24 => refine' LW.rawN_mk ?ra24 ?rl24 ?rc24 ?rk24; (case ra24 => k_is); (case rl24 => k_is); (case rc24 => k_is); (case rk24 => k_is))
    (case r25 => refine' LW.rawN_mk ?ra25 ?rl25 ?rc25 ?rk25; (case ra25 => k_is); (case rl25 => k_is); (case rc25 => k_is); (case rk25 => k_is))
    (case r26 => refine' LW.rawN_mk ?ra26 ?rl26 ?rc26 ?rk26; (case ra26 => k_is); (case rl26 => k_is); (case rc26 => k_is); (case rk26 => k_is))
    (case r27 => refine' LW.rawN_mk ?ra27 ?rl27 ?rc27 ?rk27; (case ra27 => k_is); (case rl27 => k_is); (case rc27 => k_is); (case rk27 => k_is))
end
