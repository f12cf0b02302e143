import PyProof.Rows.All
import Wide.All
import OpenK.AllK
import Wide.FinOn
import HandS.ForMost
import HandS.OwnEq
import HandS.Walk
import HandS.Conv
import HandS.TupAny
import HandS.IsInst
import HandS.Zip
import HandS.Wide
import HandS.Evl
import KE.GoesMore
import KE.GoesEnum
import KE.KTupSum
import HandS.Style
import HandS.Codes
import PySem.Challenge.RW_surelyplan_k01_whole_data
set_option Elab.async false
set_option maxRecDepth 100000
set_option maxHeartbeats 1000000
namespace SP
open PySem PySem.Spec PyProof.Rows L2

section
variable {X : Cx} {n : Nat} {CX : CXT} {C f : Addr} {fd : FuncData} {ps : List Str} {sp : Sp} {E : XK}

/-- a def called from the library's own level -/
theorem call_own {A : Around} {pins : List (Addr × Obj)} {σ : L2.St} {H : Hp} {s : Shared} {vs : List V} {us : List Value} {Q : VK} (F : FnOk X.prog X.w X.K X.mg X.base CX n f fd ps sp) (hb : Binds X.K fd ps []) (hx : Passes CX X E)
    (hr : Room n A) (hfr : A.frames = X.A.frames) (I : Inv X pins σ H s) (r : Vals vs us) (hsp : sp vs H Q E) :
    wpAny (model X.prog X.w) A (call (.ref f) us) (EP X pins σ Q) X.xe s := by
  have e0 : Env0 X.prog X.w X.K X.mg X.base A X.stack s H := by
    have e := I.env0
    exact ⟨by rw [hfr]; exact e.frames, e.mod, e.bs, e.bsz, e.funs, e.frf, e.hok, e.bare⟩
  have hl := F.len _ _ _ _ hsp
  refine wpAny_call (codeAny_mono (F.run A X.stack s H ⟨us, []⟩ us vs Q E hr e0 (by
    have := hb s us I.kIn (by rw [List.append_nil, ← r.length]; exact hl)
    simpa using this) r hsp) fun r s' hq => ?_)
  cases r with
  | error e => exact hx pins σ H s e s' I hq
  | ok fl =>
    cases fl with
    | ret w => exact I.after hq
    | next => exact False.elim hq
    | brk => exact False.elim hq
    | cont => exact False.elim hq

/-- len(o), o of a class with a __len__ of its own -/
def rLenO (C : Addr) (sp : Sp) (E : XK) : List V → Hp → VK → Prop := fun xs H Q => ∃ a dx fs, xs = [.ref a] ∧ H a = some (.ins C dx fs) ∧ sp [.ref a] H (fun v H' => ∃ k : Int, v = .int k ∧ (0 ≤ k ∧ k < 2 ^ 63) ∧ Q (.int k) H') E
theorem call_lenO (F : FnOk X.prog X.w X.K X.mg X.base CX n f fd ps sp) (hr : Room (n + 1) X.A) (hs : PySem.W.findIn X.K (.ref C) "__len__" = some (some (.ref f))) (hf : PySem.W.isFn X.K (.ref f) = true) (hb : Binds X.K fd ps []) (hx : Passes CX X E) :
    CallR X (.builtin "len") (rLenO C sp E) := by
  intro pins s σ H xs us Q I r h
  obtain ⟨a, dx, fs, rfl, ha, q⟩ := h
  cases r with
  | cons r1 r2 =>
    cases r2
    cases r1
    obtain ⟨mA, J, _⟩ := ins_get I.hok ha
    obtain ⟨od, J, _⟩ := J.look
    obtain ⟨m, hF⟩ := I.fr
    refine PySem.W.len_K hF I.ok.mod.kin J hs hf (wpAny_mono (call_own F hb hx hr.in1 rfl I (vs := [V.ref a]) (.cons (show RelV (.ref a) (.ref a) from rfl) .nil) q) (fun v s' hv => ?_) fun _ _ e => e)
    obtain ⟨y, H', I', ry, k, rfl, hk, qq⟩ := hv
    obtain ⟨t, rfl⟩ := ry
    exact ⟨hk, .int k, H', I'.tok _, ⟨_, rfl⟩, qq⟩

/-- x == y by an own __eq__ -/
def rEqO (C : Addr) (sp : Sp) (E : XK) : R2 := fun x y H Q => ∃ a b dx fs dy gs, x = .ref a ∧ y = .ref b ∧ H a = some (.ins C dx fs) ∧ H b = some (.ins C dy gs) ∧ sp [.ref a, .ref b] H (fun v H' => ∃ k : Bool, v = .bl k ∧ Q (.bl k) H') E
theorem op_eqO (F : FnOk X.prog X.w X.K X.mg X.base CX n f fd ps sp) (hr : Room n X.A) (hs : PySem.W.findIn X.K (.ref C) "__eq__" = some (some (.ref f))) (hf : PySem.W.isFn X.K (.ref f) = true) (hb : Binds X.K fd ps []) (hx : Passes CX X E) :
    OpR X (compareOp .Eq) (rEqO C sp E) := by
  intro pins s σ H x y u v Q I rx ry h
  obtain ⟨a, b, dx, fs, dy, gs, rfl, rfl, ha, hb', q⟩ := h
  cases rx
  cases ry
  obtain ⟨mA, J, _⟩ := ins_get I.hok ha
  obtain ⟨mB, J', _⟩ := ins_get I.hok hb'
  obtain ⟨od, J, _⟩ := J.look
  obtain ⟨od', J', _⟩ := J'.look
  obtain ⟨m, hF⟩ := I.fr
  show wpAny (model X.prog X.w) X.A (richCompare .Eq (.ref a) (.ref b)) (EP X pins σ Q) X.xe s
  refine PySem.W.cmp_K (op := .Eq) (tb := .ref C) hr.units0 hF I.ok.mod.kin J J'.type (by simp [PySem.W.notFirst]) hs hf (wpAny_mono (call_own F hb hx hr rfl I (vs := [V.ref a, V.ref b]) (.cons (show RelV (.ref a) (.ref a) from rfl) (.cons (show RelV (.ref b) (.ref b) from rfl) .nil)) q) (fun v s' hv => ?_) fun _ _ e => e)
  obtain ⟨y, H', I', ry, k, rfl, qq⟩ := hv
  cases ry
  exact ⟨.bl k, H', I', rfl, qq⟩
end

/-- x != y by an own __eq__: object's __ne__ turns it round -/
theorem ne_K {prog : Program} {w : World} {A : Around} {E : Value → Shared → Prop} {s : Shared} {K : PySem.W.Frag} {x y C L f : Addr} {h₀ : Heap} {m : Str → Option Value} {ox : Obj} {od : Option Obj} {Q : Value → Shared → Prop}
    (hu : A.units + 1 < cLine) (F : Fr h₀ L s.heap m) (X₀ : K.In h₀) (I : PySem.W.InstAt s.heap x ox C od) (hb : PySem.W.Looks (model prog w) s.heap (typeOf (.ref y)) (.ref C))
    (hn : PySem.W.findIn K (.ref C) "__ne__" = some (some (.builtin "object.__ne__"))) (hs : PySem.W.findIn K (.ref C) "__eq__" = some (some (.ref f))) (hf : PySem.W.isFn K (.ref f) = true) (hp : PySem.W.plainOver K C = true)
    (h : wpAny (model prog w) A.in1 (call (.ref f) [.ref x, .ref y]) (fun v s' => ∃ b, v = .bool b ∧ Q (.bool (!b)) s') E s) : wpAny (model prog w) A (richCompare .NotEq (.ref x) (.ref y)) Q E s := by
  have XK := X₀.keeps F.keep
  obtain ⟨cd, hc, ho⟩ := PySem.W.any_some hp
  have ne : cd.mro.isEmpty = false := by cases q : cd.mro with | nil => rw [q] at ho; cases ho | cons _ _ => rfl
  have sub : PySem.W.Looks (model prog w) s.heap (isInstance (.ref x) (.type "object")) true := I.type.andThen (PySem.W.looks_mroIn XK (by unfold PySem.W.mroIn; rw [hc, Option.bind_some, if_neg (by rw [ne]; decide), PySem.W.only_has ho]))
  have inner : wpAny (model prog w) A (call (.builtin "object.__ne__") [.ref x, .ref y]) (fun v s' => ∃ b : Bool, v = .bool b ∧ Q (.bool b) s') E s := by
    refine wpAny_call (codeAny_call_builtin PySem.F.cmp_object.ne.plain PySem.F.cmpEntry_ne (@PySem.W.check_slot (model prog w) _ _ s "object.__ne__" "object" "__ne__" (.ref x) [.ref y] [] _ PySem.F.cmpKind_ne PySem.F.cmpSplit_ne sub (PySem.F.cmpArgs_ne _ _) ?_))
    unfold Builtin.«object.__ne__»
    repeat (first
      | with_reducible refine wpAny_cRoomFor hu ?_
      | (refine wpAny_bind (m := callSpecialIfBound? (.ref x) (Str.ofString "__eq__") [.ref y])
          (PySem.W.ifBound_K XK I hs hf (wpAny_mono h (fun r s' hr => by
            obtain ⟨b, rfl, hq0⟩ := hr
            have hq : ∃ c : Bool, Value.bool (!b) = .bool c ∧ Q (.bool c) _ := ⟨_, rfl, hq0⟩
            repeat (first | exact hq | exact wpAny_pure hq | exact wpAny_truthy_bool hq | (refine wpAny_bind (m := truthy (.bool _)) (wpAny_truthy_bool ?_)) | wp_step)) fun _ _ e => e)))
      | wp_step)
  have bound : wpAny (model prog w) A (callSpecialIfBound? (.ref x) (Str.ofString "__ne__") [.ref y]) (fun r s' => ∃ b : Bool, r = some (.bool b) ∧ Q (.bool b) s') E s := by
    simp only [callSpecialIfBound?, bindSpecialIfBound?]
    refine wpAny_holding (wpAny_bind (wpAny_bind (wpAny_bind (I.type.here ((PySem.W.looks_findIn XK hn).here ?_)))))
    simp only [PySem.F.cmp_object.ne.bind]
    refine wpAny_bind (wpAny_askSetting (wpAny_ite ?_))
    have fin : wpAny (model prog w) A (call (.builtin "object.__ne__") ([.ref x] ++ [.ref y]) >>= fun v => pure (some v)) (fun r s' => ∃ b : Bool, r = some (.bool b) ∧ Q (.bool b) s') E s := wpAny_bind (wpAny_mono inner (fun v s' h' => by
      obtain ⟨b, rfl, hq⟩ := h'
      exact wpAny_pure ⟨b, rfl, hq⟩) fun _ _ h' => h')
    split
    · exact wpAny_bind (wpAny_pure (wpAny_pure fin))
    · exact wpAny_tryCatch (wpAny_bind (wpAny_pure (wpAny_pure fin)))
  have one : wpAny (model prog w) A (tryCompare (.ref x) (cmpInfo .NotEq).2.1 (.ref y)) (fun r s' => ∃ v, r = some v ∧ Q v s') E s := by
    unfold tryCompare
    refine wpAny_bind (wpAny_mono bound (fun r s' z => ?_) fun _ _ e => e)
    obtain ⟨b, rfl, hq⟩ := z
    exact wpAny_pure ⟨_, rfl, hq⟩
  unfold richCompare
  simp only [oneThing_ref]
  refine wpAny_holding (wpAny_bind (wpAny_cRoomFor (Nat.lt_of_succ_lt hu) ?_))
  refine wpAny_bind (I.type.here (wpAny_bind (hb.here ?_)))
  rw [show (Value.ref C != Value.ref C) = false from by simp]
  simp only [Bool.false_eq_true, if_false]
  refine wpAny_bind (wpAny_pure ?_)
  simp only [Bool.false_eq_true, if_false]
  refine wpAny_bind (wpAny_mono one (fun r s' z => ?_) fun _ _ e => e)
  obtain ⟨v, rfl, hq⟩ := z
  exact wpAny_pure hq
section
variable {X : Cx} {n : Nat} {CX : CXT} {C f : Addr} {fd : FuncData} {ps : List Str} {sp : Sp} {E : XK}
/-- x != y by an own __eq__ -/
def rNeO (C : Addr) (sp : Sp) (E : XK) : R2 := fun x y H Q => ∃ a b dx fs dy gs, x = .ref a ∧ y = .ref b ∧ H a = some (.ins C dx fs) ∧ H b = some (.ins C dy gs) ∧ sp [.ref a, .ref b] H (fun v H' => ∃ k : Bool, v = .bl k ∧ Q (.bl (!k)) H') E
theorem op_neO (F : FnOk X.prog X.w X.K X.mg X.base CX n f fd ps sp) (hr : Room (n + 1) X.A) (hn : PySem.W.findIn X.K (.ref C) "__ne__" = some (some (.builtin "object.__ne__"))) (hs : PySem.W.findIn X.K (.ref C) "__eq__" = some (some (.ref f)))
    (hf : PySem.W.isFn X.K (.ref f) = true) (hp : PySem.W.plainOver X.K C = true) (hb : Binds X.K fd ps []) (hx : Passes CX X E) : OpR X (compareOp .NotEq) (rNeO C sp E) := by
  intro pins s σ H x y u v Q I rx ry h
  obtain ⟨a, b, dx, fs, dy, gs, rfl, rfl, ha, hb', q⟩ := h
  cases rx
  cases ry
  obtain ⟨mA, J, _⟩ := ins_get I.hok ha
  obtain ⟨mB, J', _⟩ := ins_get I.hok hb'
  obtain ⟨od, J, _⟩ := J.look
  obtain ⟨od', J', _⟩ := J'.look
  obtain ⟨m, hF⟩ := I.fr
  show wpAny (model X.prog X.w) X.A (richCompare .NotEq (.ref a) (.ref b)) (EP X pins σ Q) X.xe s
  refine ne_K (by have := hr.units; omega) hF I.ok.mod.kin J J'.type hn hs hf hp (wpAny_mono (call_own F hb hx hr.in1 rfl I (vs := [V.ref a, V.ref b]) (.cons (show RelV (.ref a) (.ref a) from rfl) (.cons (show RelV (.ref b) (.ref b) from rfl) .nil)) q) (fun v s' hv => ?_) fun _ _ e => e)
  obtain ⟨y, H', I', ry, k, rfl, qq⟩ := hv
  cases ry
  exact ⟨k, rfl, .bl (!k), H', I', rfl, qq⟩
end
end SP

set_option Elab.async false
set_option maxRecDepth 100000
set_option maxHeartbeats 1000000
namespace SP
open PySem PySem.Spec PyProof.Rows L2

/-! lists and tuples alike: k tells which of the two -/
def Sk (k : Bool) (K : PySem.W.Frag) (H : Hp) (a : Addr) (xs : List V) : Prop := match k with
  | true => SqL K H a xs
  | false => SqT K H a xs
def ItK (k : Bool) (h : Heap) (it a : Addr) (i : Nat) : Prop := match k with
  | true => h.IsListIter it a i
  | false => h.IsTupleIter it a i
def AtK (k : Bool) (h : Heap) (a : Addr) (items : Array Value) : Prop := match k with
  | true => h.IsList a items
  | false => h.IsTuple a items
def objK (k : Bool) (a : Addr) : Obj := match k with
  | true => { cls := .type "list_iterator", data := .fields #[.ref a, .int 0 0] }
  | false => { cls := .type "tuple_iterator", data := .fields #[.ref a, .int 0 0] }

theorem drawsK {prog : Program} {w : World} {A : Around} (hh : A.handled = none) (k : Bool) (it a : Addr) (hne : a ≠ it) (items : Array Value) :
    Draws prog w A it [it, a] items.size (fun i v => items[i]? = some v) (fun i h => ItK k h it a i ∧ AtK k h a items) := by
  cases k with
  | true => exact Draws.list hh it a hne items
  | false => exact Draws.tuple hh it a hne items
theorem beginsK (k : Bool) (a : Addr) (items : Array Value) : Begins (.ref a) (objK k a) (fun h => AtK k h a items) := by
  cases k with
  | true => exact begins_list a items
  | false => exact begins_tuple a items
theorem ItK.begin {k : Bool} {h : Heap} {it a : Addr} (e : h.get? it = some (objK k a)) : ItK k h it a 0 := by
  cases k with
  | true => exact ⟨_, e, rfl, rfl⟩
  | false => exact ⟨_, e, rfl, rfl⟩
theorem ItK.here {k : Bool} {h : Heap} {it a : Addr} {i : Nat} (x : ItK k h it a i) : ∃ o, h.get? it = some o ∧ ∀ v, o.data ≠ .cell v := by
  cases k with
  | true =>
    obtain ⟨o, ho, _, hd⟩ := x
    exact ⟨o, ho, fun v q => by rw [hd] at q; cases q⟩
  | false =>
    obtain ⟨o, ho, _, hd⟩ := x
    exact ⟨o, ho, fun v q => by rw [hd] at q; cases q⟩
theorem ItK.keep {k : Bool} {h h' : Heap} {it a : Addr} {i : Nat} (x : ItK k h it a i) (e : ∀ o, h.get? it = some o → h'.get? it = some o) : ItK k h' it a i := by
  cases k with
  | true =>
    obtain ⟨o, ho, hr⟩ := x
    exact ⟨o, e o ho, hr⟩
  | false =>
    obtain ⟨o, ho, hr⟩ := x
    exact ⟨o, e o ho, hr⟩
theorem AtK.lt {k : Bool} {h : Heap} {a : Addr} {items : Array Value} (x : AtK k h a items) : a < h.objs.size := by
  cases k with
  | true =>
    obtain ⟨o, ho, _⟩ := x
    exact Heap.lt_size ho
  | false =>
    obtain ⟨o, ho, _⟩ := x
    exact Heap.lt_size ho

section
variable {X : Cx} {pins : List (Addr × Obj)} {σ : L2.St} {H : Hp} {s : Shared} {a : Addr} {xs ys : List V} {k : Bool}
theorem Inv.sk (I : L2.Inv X pins σ H s) (h : Sk k X.K H a xs) : ∃ its : List Value, Vals xs its ∧ AtK k s.heap a its.toArray ∧ xs.length ≤ sizeLine := by
  cases k with
  | true =>
    obtain ⟨its, r, p, z⟩ := I.list h
    exact ⟨its, r, p.isList, z⟩
  | false => exact I.tuple h
theorem Inv.sk_inj (I : L2.Inv X pins σ H s) (h : Sk k X.K H a xs) (h' : Sk k X.K H a ys) : xs = ys := by
  cases k with
  | true => exact I.list_inj h h'
  | false => exact I.tuple_inj h h'
end

/-! ### enumerate -/
def IteK (k : Bool) (K : PySem.W.Frag) (a : Addr) : It :=
  ⟨fun i H => ∃ (xs : List V) (x : V), Sk k K H a xs ∧ xs[i]? = some x,
   fun i H v H' => ∃ T x, v = .ref T ∧ H T = none ∧ H' = upd H T (.tup [.int (i : Nat), x]) ∧ ∀ xs, Sk k K H a xs → xs[i]? = some x,
   fun i H => ∃ xs : List V, Sk k K H a xs ∧ xs.length = i⟩
theorem turn_enumK {P : Program} {w : World} {K : PySem.W.Frag} {elts : List Expr} {kk : Nat} {tpos : Pos} (k : Bool) (a e it : Addr) (hei : e ≠ it) (hai : a ≠ it) (hae : e ≠ a) :
    Turn P w K (.Tuple elts kk tpos) (IteK k K a) [e, it] e (fun i h => (∃ old, IsEnum h e it ((i : Nat) : Int) old) ∧ ItK k h it a i) where
  mem := by simp
  obj := fun i h st b hb => by
    obtain ⟨⟨old, he⟩, hi⟩ := st
    have e' : b = e ∨ b = it := by simpa using hb
    rcases e' with z | z
    · subst z
      exact ⟨_, he, fun v q => nomatch q⟩
    · subst z
      exact hi.here
  keep := fun i h h' st kp => ⟨let ⟨old, he⟩ := st.1; ⟨old, kp e (by simp) _ he⟩, st.2.keep fun o q => kp it (by simp) o q⟩
  item := by
    intro X hP hw hK hc i pins s σ H E I hf st hg
    subst hP hw hK
    obtain ⟨⟨old, he⟩, hit⟩ := st
    obtain ⟨xs, x, hq, hx⟩ := hg
    obtain ⟨its, rv, p, hz⟩ := Inv.sk I hq
    obtain ⟨u, hu, ru⟩ := rv.get hx
    have hel : e < s.heap.objs.size := Heap.lt_size he
    have hil : it < s.heap.objs.size := by
      obtain ⟨o, q, _⟩ := hit.here
      exact Heap.lt_size q
    have hlt : i < its.toArray.size := by
      have := (List.getElem?_eq_some_iff.mp hu).1
      simpa using this
    refine wpAny_pyNext_enum_itemD (drawsK (show X.A.in1.handled = none from I.ok.hd hc) k it a hai its.toArray) he ⟨hit, p⟩ hlt hei (by simp [hei, hae]) fun y h' tk hy ho hst hT hsz hk => ?_
    have ey : y = u := by
      have q : its.toArray[i]? = some u := by simpa using hu
      rw [q] at hy
      exact (Option.some.inj hy).symm
    subst ey
    refine ⟨_, rfl, wpAny_letOwnedTupleGo_enum (s := { s with heap := h', toks := tk + 1 }) ho fun h'' he' sb => ?_⟩
    have hT2 : h''.get? s.heap.objs.size = some { cls := .type "tuple", data := .seq #[.int i tk, y] } := (sb.2 _ (Nat.ne_of_gt hel)).trans hT
    have new : ObjOk X.prog X.w (upd H s.heap.objs.size (.tup [.int (i : Nat), x])) h'' s.heap.objs.size (.tup [.int (i : Nat), x]) :=
      ⟨by show 2 ≤ sizeLine; decide, [.int i tk, y], .cons ⟨_, rfl⟩ (.cons ru .nil), ⟨_, hT2, rfl, _, rfl⟩⟩
    have I1 : L2.Inv X pins σ (upd H s.heap.objs.size (.tup [.int (i : Nat), x])) { s with heap := h'', toks := tk + 1 } := by
      refine I.turnedNew (ch := [e, it]) (fun b ob hb q => ?_) hf (Nat.le_refl _) new
      have nb : b ≠ e ∧ b ≠ it := by simpa using hb
      exact (sb.2 b nb.1).trans (hk b ob nb.1 nb.2 q)
    refine ⟨.ref s.heap.objs.size, _, I1, rfl, ⟨_, x, rfl, I.hok.fresh (Nat.le_refl _), rfl, fun ys hy => ?_⟩, ⟨⟨y, ?_⟩, hst.1.keep fun o q => (sb.2 it (Ne.symm hei)).trans q⟩, fun b hb => ?_⟩
    · rw [Inv.sk_inj I hy hq]
      exact hx
    · have e1 : ((i + 1 : Nat) : Int) = (i : Int) + 1 := by omega
      rw [e1]
      exact he'
    · have hb' : b < s.heap.objs.size := by
        have e' : b = e ∨ b = it := by simpa using hb
        rcases e' with z | z
        · rw [z]; exact hel
        · rw [z]; exact hil
      rw [upd_ne (Nat.ne_of_lt hb')]
      exact (hf b hb).1
  done := by
    intro X hP hw hK hc i pins s σ H E I hf st hg
    subst hP hw hK
    obtain ⟨⟨old, he⟩, hit⟩ := st
    obtain ⟨xs, hq, hx⟩ := hg
    obtain ⟨its, rv, p, hz⟩ := Inv.sk I hq
    have hl := rv.length
    have hn : its.toArray.size = i := by
      rw [List.size_toArray]
      omega
    obtain ⟨f0, f1, f2, f3, f4, f5⟩ := hf it (by simp)
    refine wpAny_pyNext_enum_endD (drawsK (show X.A.in1.handled = none from I.ok.hd hc) k it a hai its.toArray) he (by rw [hn]; exact ⟨hit, p⟩) fun h' eb => ⟨rfl, I.turned (t' := s.toks) (fun b o hb q => eb b o hb q) f0 f1 f3 f4 f5⟩
  self := fun A i s Q E st h => let ⟨⟨_, he⟩, _⟩ := st; wpAny_pyIter_enum he h

theorem meets_enumK (k : Bool) (a : Addr) (items : Array Value) :
    Meets (Builtin.«enumerate.__new__» ⟨[.type "enumerate", .ref a], []⟩) (fun _ R s => AtK k s.heap a items ∧
      R (.ok (.ret (.ref (s.heap.push (objK k a)).objs.size))) { s with heap := (s.heap.push (objK k a)).push { cls := .type "enumerate", data := .fields #[.none, .bool false, .ref s.heap.objs.size, rawInt 0, .none, .none] } }) :=
  .of_wp fun prog w A R s h => by
    obtain ⟨hp, g, d, tk, os⟩ := s
    obtain ⟨h1, h⟩ := h
    have hsub := sub_enumerate
    have q1 : ∀ {A' : Around} {E : Value → Shared → Prop} {Q : Value → Shared → Prop}, Q (.ref hp.objs.size) ⟨hp.push (objK k a), g, d, tk, os⟩ → wpAny (model prog w) A' (pyIter (.ref a)) Q E ⟨hp, g, d, tk, os⟩ :=
      fun q => (beginsK k a items).iter prog w _ _ ⟨hp, g, d, tk, os⟩ _ h1 q
    obtain ⟨o, ho, dd⟩ : ∃ o, hp.get? a = some o ∧ True := by
      cases k with
      | true => obtain ⟨o, ho, _⟩ := h1; exact ⟨o, ho, trivial⟩
      | false => obtain ⟨o, ho, _⟩ := h1; exact ⟨o, ho, trivial⟩
    wp_walk using AutoSeq1.wpAny_loadPart' ho, q1
    refine wpAny_stack_any fun st => wpAny_pure ?_
    split
    · rename_i c _ _ _ _ _
      cases (c == Value.type "enumerate")
      · wp_walk using AutoSeq1.wpAny_loadPart' ho, q1
        exact ⟨_, rfl, h⟩
      · wp_walk using AutoSeq1.wpAny_loadPart' ho, q1
        exact ⟨_, rfl, h⟩
    · wp_walk using AutoSeq1.wpAny_loadPart' ho, q1
      exact ⟨_, rfl, h⟩

theorem call_enumK {prog : Program} {w : World} {A : Around} {E : Value → Shared → Prop} {s : Shared} {k : Bool} {a : Addr} {items : Array Value} {Q : Value → Shared → Prop} (hL : AtK k s.heap a items)
    (h : ∀ h', IsEnum h' (s.heap.objs.size + 1) s.heap.objs.size 0 .none → ItK k h' s.heap.objs.size a 0 → (∀ b o, s.heap.get? b = some o → h'.get? b = some o) → Q (.ref (s.heap.objs.size + 1)) { s with heap := h' }) :
    wpAny (model prog w) A (call (.type "enumerate") [.ref a]) Q E s := by
  refine callType_new F.called_enumerate (by decide) (F.typeCall_enumerate_1 _) (F.newCall_enumerate_1 _) (fun obj => F.args_object_init_2 obj _) F.entry_enumerate_new (meets_enumK k a items) ⟨hL, ?_⟩
  have hz : (s.heap.push (objK k a)).objs.size = s.heap.objs.size + 1 := Heap.size_push ..
  show _ ∧ _
  rw [hz]
  have he : IsEnum ((s.heap.push (objK k a)).push { cls := .type "enumerate", data := .fields #[.none, .bool false, .ref s.heap.objs.size, rawInt 0, .none, .none] }) (s.heap.objs.size + 1) s.heap.objs.size 0 .none := by
    have q := Heap.get?_push_size (s.heap.push (objK k a)) (o := { cls := .type "enumerate", data := .fields #[.none, .bool false, .ref s.heap.objs.size, rawInt 0, .none, .none] }) rfl
    rw [hz] at q
    exact q
  exact ⟨⟨_, he, rfl⟩, h _ he (ItK.begin (Heap.get?_push_of_some _ (Heap.get?_push_size _ (beginsK k a items).free))) fun b o x => Heap.get?_push_of_some _ (Heap.get?_push_of_some _ x)⟩
def iEnumK (K : PySem.W.Frag) (ta : TA) : TI := fun σ H R => ta σ H fun vs H1 => ∃ k a xs, vs = [.ref a] ∧ Sk k K H1 a xs ∧ R (IteK k K a) H1
theorem pi_enumK {X : Cx} {e : Expr} {ta : TA} {p pos tpos : Pos} {elts : List Expr} {kk : Nat} (hg : Gl X "enumerate") (hm : X.mg "enumerate" = none) (ha : PA X [e] ta) (hs : starEach [e] X.env = [(false, eval e X.env)] := by rfl) :
    PI X (.Tuple elts kk tpos) (.Call (.Name "enumerate" p) [e] [] pos) (iEnumK X.K ta) := by
  refine ⟨fun pins s σ H R I h => ?_⟩
  refine Call_ (ld_blt I hg hm boot_enumerate (PyProof.Rows.callWith_type1 (thn (ha.run pos pins s σ H _ I h) fun us s1 ⟨vs, H1, I1, r1, q1⟩ => ?_) hs rfl))
  obtain ⟨k, a, xs, ex, hq, q⟩ := q1
  subst ex
  cases r1 with
  | cons r rr =>
    cases rr
    cases r
    obtain ⟨its, rv, p', hz⟩ := Inv.sk I1 hq
    have hal := p'.lt
    refine call_enumK p' fun h' he hit hk => wpAny_pyIter_enum he ?_
    have I2 : L2.Inv X pins σ H1 { s1 with heap := h' } := I1.kept (t' := s1.toks) hk
    refine ⟨s1.heap.objs.size + 1, [s1.heap.objs.size + 1, s1.heap.objs.size], _, _, H1, rfl, I2, turn_enumK k a (s1.heap.objs.size + 1) s1.heap.objs.size (Nat.succ_ne_self _) (Nat.ne_of_lt hal) (Nat.ne_of_gt (Nat.lt_succ_of_lt hal)), ⟨⟨.none, he⟩, hit⟩, fun b hb => ?_, q⟩
    have hle : s1.heap.objs.size ≤ b := by
      have e' : b = s1.heap.objs.size + 1 ∨ b = s1.heap.objs.size := by simpa using hb
      rcases e' with z | z
      · rw [z]
        exact Nat.le_add_right _ _
      · rw [z]
        exact Nat.le_refl _
    exact I1.fpOk hle (I1.hok.fresh hle)
theorem walk_enumK {K : PySem.W.Frag} {k : Bool} {a : Addr} {xs : List V} : Walk (IteK k K a) xs.length (fun H => Sk k K H a xs) (YPair (fun i => some (.int (i : Nat))) (fun i => xs[i]?)) := by
  refine ⟨fun i _ hi q => ⟨xs, xs[i], q, by simp [hi]⟩, fun _ q => ⟨xs, q, rfl⟩, fun i H v H' _ q y => ?_⟩
  obtain ⟨T, x, h1, h2, h3, h4⟩ := y
  exact ⟨T, .int (i : Nat), x, h1, h2, h3, rfl, h4 xs q⟩

/-! ### zip of two -/
def ItzK (k1 k2 : Bool) (K : PySem.W.Frag) (a b : Addr) : It :=
  ⟨fun i H => ∃ (xs ys : List V) (x y : V), Sk k1 K H a xs ∧ Sk k2 K H b ys ∧ xs[i]? = some x ∧ ys[i]? = some y,
   fun i H v H' => ∃ T x y, v = .ref T ∧ H T = none ∧ H' = upd H T (.tup [x, y]) ∧ (∀ xs, Sk k1 K H a xs → xs[i]? = some x) ∧ ∀ ys, Sk k2 K H b ys → ys[i]? = some y,
   fun i H => ∃ xs ys : List V, Sk k1 K H a xs ∧ Sk k2 K H b ys ∧ i ≤ xs.length ∧ i ≤ ys.length ∧ (i = xs.length ∨ i = ys.length)⟩
theorem turn_zipK {P : Program} {w : World} {K : PySem.W.Frag} {elts : List Expr} {kk : Nat} {tpos : Pos} (k1 k2 : Bool) {a b z TI TO i1 i2 : Addr} (S : ZipSep2 z TI TO i1 i2 [i1, a] [i2, b]) (h1a : a ≠ i1) (h2b : b ≠ i2) :
    Turn P w K (.Tuple elts kk tpos) (ItzK k1 k2 K a b) [z, TI, TO, i1, i2] z (fun i h => IsZip h z TI TO .none ∧ IsTupOf2 h TI (.ref i1) (.ref i2) ∧ (∃ x y, IsTupOf2 h TO x y) ∧ ItK k1 h i1 a i ∧ ItK k2 h i2 b i) where
  mem := by simp
  obj := fun i h st c hc => by
    obtain ⟨hz, hTI, ⟨x, y, hTO⟩, d1, d2⟩ := st
    have e' : c = z ∨ c = TI ∨ c = TO ∨ c = i1 ∨ c = i2 := by simpa using hc
    rcases e' with q | q | q | q | q <;> subst q
    · exact ⟨_, hz, fun v q => nomatch q⟩
    · exact ⟨_, hTI, fun v q => nomatch q⟩
    · exact ⟨_, hTO, fun v q => nomatch q⟩
    · exact d1.here
    · exact d2.here
  keep := fun i h h' st kp => by
    obtain ⟨hz, hTI, ⟨x, y, hTO⟩, d1, d2⟩ := st
    exact ⟨kp z (by simp) _ hz, kp TI (by simp) _ hTI, ⟨x, y, kp TO (by simp) _ hTO⟩, d1.keep fun o q => kp i1 (by simp) o q, d2.keep fun o q => kp i2 (by simp) o q⟩
  item := by
    intro X hP hw hK hc i pins s σ H E I hf st hg
    subst hP hw hK
    obtain ⟨hz, hTI, ⟨x0, y0, hTO⟩, d1, d2⟩ := st
    obtain ⟨xs, ys, x, y, hqx, hqy, hx, hy⟩ := hg
    obtain ⟨its, rv, p1, _⟩ := Inv.sk I hqx
    obtain ⟨its2, rv2, p2, _⟩ := Inv.sk I hqy
    obtain ⟨u, hu, ru⟩ := rv.get hx
    obtain ⟨u2, hu2, ru2⟩ := rv2.get hy
    have hzl : z < s.heap.objs.size := Heap.lt_size hz
    have hh : X.A.in1.handled = none := I.ok.hd hc
    have lt1 : i < its.toArray.size := by
      have := (List.getElem?_eq_some_iff.mp hu).1
      simpa using this
    have lt2 : i < its2.toArray.size := by
      have := (List.getElem?_eq_some_iff.mp hu2).1
      simpa using this
    refine wpAny_pyNext_zipD2_item S (drawsK hh k1 i1 a h1a its.toArray) (drawsK hh k2 i2 b h2b its2.toArray) hz hTI hTO ⟨d1, p1⟩ ⟨d2, p2⟩ lt1 lt2 fun v1 v2 h' tk e1 e2 z' TO' s1 s2 hT hsz hk => ?_
    have g1 : v1 = u := by
      have q : its.toArray[i]? = some u := by simpa using hu
      rw [q] at e1
      exact (Option.some.inj e1).symm
    have g2 : v2 = u2 := by
      have q : its2.toArray[i]? = some u2 := by simpa using hu2
      rw [q] at e2
      exact (Option.some.inj e2).symm
    subst g1 g2
    refine ⟨_, rfl, wpAny_letOwnedTupleGo_zip (s := { s with heap := h', toks := tk }) z' fun h'' z'' sb => ?_⟩
    have hT2 : h''.get? s.heap.objs.size = some { cls := .type "tuple", data := .seq #[v1, v2] } := (sb.2 _ (Nat.ne_of_gt hzl)).trans hT
    have new : ObjOk X.prog X.w (upd H s.heap.objs.size (.tup [x, y])) h'' s.heap.objs.size (.tup [x, y]) :=
      ⟨by show 2 ≤ sizeLine; decide, [v1, v2], .cons ru (.cons ru2 .nil), ⟨_, hT2, rfl, _, rfl⟩⟩
    have I1 : L2.Inv X pins σ (upd H s.heap.objs.size (.tup [x, y])) { s with heap := h'', toks := tk } := by
      refine I.turnedNew (ch := [z, TI, TO, i1, i2]) (fun c o hb q => ?_) hf (Nat.le_refl _) new
      have nb : c ≠ z ∧ c ≠ TI ∧ c ≠ TO ∧ c ≠ i1 ∧ c ≠ i2 := by simpa using hb
      exact (sb.2 c nb.1).trans (hk c o nb.1 nb.2.2.1 nb.2.2.2.1 nb.2.2.2.2 q)
    refine ⟨.ref s.heap.objs.size, _, I1, rfl, ⟨_, x, y, rfl, I.hok.fresh (Nat.le_refl _), rfl, fun l hl => ?_, fun l hl => ?_⟩, ⟨z'', ?_, ⟨v1, v2, ?_⟩, ?_, ?_⟩, fun c hcm => ?_⟩
    · rw [Inv.sk_inj I hl hqx]
      exact hx
    · rw [Inv.sk_inj I hl hqy]
      exact hy
    · exact (sb.2 _ S.TIz).trans (hk _ _ S.TIz S.TITO S.TIi1 S.TIi2 hTI)
    · exact (sb.2 _ S.TOz).trans TO'
    · exact s1.1.keep fun o q => (sb.2 _ (Ne.symm S.zi1)).trans q
    · exact s2.1.keep fun o q => (sb.2 _ (Ne.symm S.zi2)).trans q
    · have hlt : c < s.heap.objs.size := by
        have e' : c = z ∨ c = TI ∨ c = TO ∨ c = i1 ∨ c = i2 := by simpa using hcm
        rcases e' with q | q | q | q | q <;> subst q
        · exact hzl
        · exact Heap.lt_size hTI
        · exact Heap.lt_size hTO
        · obtain ⟨_, e1, _⟩ := d1.here
          exact Heap.lt_size e1
        · obtain ⟨_, e2, _⟩ := d2.here
          exact Heap.lt_size e2
      rw [upd_ne (Nat.ne_of_lt hlt)]
      exact (hf c hcm).1
  done := by
    intro X hP hw hK hc i pins s σ H E I hf st hg
    subst hP hw hK
    obtain ⟨hz, hTI, ⟨x0, y0, hTO⟩, d1, d2⟩ := st
    obtain ⟨xs, ys, hqx, hqy, hi1, hi2, hend⟩ := hg
    obtain ⟨its, rv, p1, _⟩ := Inv.sk I hqx
    obtain ⟨its2, rv2, p2, _⟩ := Inv.sk I hqy
    have l1 := rv.length
    have l2 := rv2.length
    have hh : X.A.in1.handled = none := I.ok.hd hc
    have s1 : its.toArray.size = xs.length := by rw [List.size_toArray]; omega
    have s2 : its2.toArray.size = ys.length := by rw [List.size_toArray]; omega
    refine wpAny_pyNext_zipD2_end S (drawsK hh k1 i1 a h1a its.toArray) (drawsK hh k2 i2 b h2b its2.toArray) hz hTI hTO ⟨d1, p1⟩ ⟨d2, p2⟩ (by omega) (by omega) (by omega) fun h' tk hk => ⟨rfl, ?_⟩
    refine I.turnedL (t' := tk) (ch := [z, TI, TO, i1, i2]) (fun c o hb q => ?_) hf
    have nb : c ≠ z ∧ c ≠ TI ∧ c ≠ TO ∧ c ≠ i1 ∧ c ≠ i2 := by simpa using hb
    exact hk c o nb.1 nb.2.2.1 nb.2.2.2.1 nb.2.2.2.2 q
  self := fun A i s Q E st h => wpAny_pyIter_zip st.1 h
def iZipK (K : PySem.W.Frag) (ta : TA) : TI := fun σ H R => ta σ H fun vs H1 => ∃ k1 k2 a b xs ys, vs = [.ref a, .ref b] ∧ Sk k1 K H1 a xs ∧ Sk k2 K H1 b ys ∧ R (ItzK k1 k2 K a b) H1
theorem pi_zipK {X : Cx} {e e2 : Expr} {ta : TA} {p pos tpos : Pos} {elts : List Expr} {kk : Nat} (hg : Gl X "zip") (hm : X.mg "zip" = none) (ha : PA X [e, e2] ta)
    (hs : starEach [e, e2] X.env = (false, eval e X.env) :: starEach [e2] X.env := by rfl) (hpl : (backTo pos (starEach [e2] X.env)).any (·.1) = false := by rfl) :
    PI X (.Tuple elts kk tpos) (.Call (.Name "zip" p) [e, e2] [] pos) (iZipK X.K ta) := by
  refine ⟨fun pins s σ H R I h => ?_⟩
  refine Call_ (ld_blt I hg hm PyProof.Rows.boot_zip (PyProof.Rows.callWith_type1 (thn (ha.run pos pins s σ H _ I h) fun us s1 ⟨vs, H1, I1, r1, q1⟩ => ?_) hs hpl))
  obtain ⟨k1, k2, a, b, xs, ys, ex, hqx, hqy, q⟩ := q1
  subst ex
  cases r1 with
  | cons r rr =>
    cases rr with
    | cons r' rr =>
      cases rr
      cases r
      cases r'
      obtain ⟨its, rv, p1, _⟩ := Inv.sk I1 hqx
      obtain ⟨its2, rv2, p2, _⟩ := Inv.sk I1 hqy
      have la := p1.lt
      have lb := p2.lt
      refine zip_begins2 (beginsK k1 a its.toArray) (beginsK k2 b its2.toArray) p1 p2 fun h' hz hTI hTO g1 g2 hsz hk => wpAny_pyIter_zip hz ?_
      have I2 : L2.Inv X pins σ H1 { s1 with heap := h' } := I1.kept (t' := s1.toks) hk
      refine ⟨s1.heap.objs.size + 4, [s1.heap.objs.size + 4, s1.heap.objs.size + 2, s1.heap.objs.size + 3, s1.heap.objs.size, s1.heap.objs.size + 1], _, _, H1, rfl, I2,
        turn_zipK k1 k2 (zip_sep2 (fp1 := [a]) (fp2 := [b]) (fun c hc => by rw [List.mem_singleton.mp hc]; exact la) (fun c hc => by rw [List.mem_singleton.mp hc]; exact lb)) (Nat.ne_of_lt la) (Nat.ne_of_lt (Nat.lt_succ_of_lt lb)), ⟨hz, hTI, ⟨_, _, hTO⟩, ItK.begin g1, ItK.begin g2⟩, fun c hc => ?_, q⟩
      have hle : s1.heap.objs.size ≤ c := by
        have e' : c = s1.heap.objs.size + 4 ∨ c = s1.heap.objs.size + 2 ∨ c = s1.heap.objs.size + 3 ∨ c = s1.heap.objs.size ∨ c = s1.heap.objs.size + 1 := by simpa using hc
        rcases e' with z | z | z | z | z <;> rw [z]
        · exact Nat.le_add_right _ _
        · exact Nat.le_add_right _ _
        · exact Nat.le_add_right _ _
        · exact Nat.le_refl _
        · exact Nat.le_add_right _ _
      exact I1.fpOk hle (I1.hok.fresh hle)
theorem walk_zipK {K : PySem.W.Frag} {k1 k2 : Bool} {a b : Addr} {xs ys : List V} (hn : xs.length = ys.length) : Walk (ItzK k1 k2 K a b) xs.length (fun H => Sk k1 K H a xs ∧ Sk k2 K H b ys) (YPair (fun i => xs[i]?) (fun i => ys[i]?)) := by
  refine ⟨fun i _ hi q => ?_, fun _ q => ⟨xs, ys, q.1, q.2, by omega, by omega, by omega⟩, fun i H v H' _ q y => ?_⟩
  · have h2 : i < ys.length := by omega
    exact ⟨xs, ys, xs[i], ys[i], q.1, q.2, by simp [hi], by simp [h2]⟩
  · obtain ⟨T, x, z, h1, h2, h3, h4, h5⟩ := y
    exact ⟨T, x, z, h1, h2, h3, h4 xs q.1, h5 ys q.2⟩

/-! ### sum -/
def rSumK (K : PySem.W.Frag) : List V → Hp → VK → Prop := fun vs H Q => ∃ (k : Bool) (a : Addr) (ns : List Int), vs = [V.ref a] ∧ Sk k K H a (ns.map V.int) ∧ Q (.int ns.sum) H
theorem cr_sumK {X : Cx} (hc : X.calm = true) : CallR X (.builtin "sum") (rSumK X.K) := by
  intro pins s σ H vs us Q I r h
  obtain ⟨k, a, ns, rfl, hs, q⟩ := h
  cases k with
  | true => exact cr_sum hc pins s σ H _ us Q I r ⟨a, ns, rfl, hs, q⟩
  | false =>
    obtain ⟨its, rv, hl, _⟩ := I.tuple hs
    rw [Vals.ref1 r]
    have hi := rv.ints
    have hl : s.heap.IsTuple a its.toArray := hl
    obtain ⟨xs, hx⟩ := hi.allInts.items
    have hn : numsOf its.toArray.toList = ns := by rw [show its.toArray.toList = its from rfl, hi.numsOf]
    rw [hx] at hl hn
    rw [nums_intItems] at hn
    refine PySem.W.ktm_sumG (I.ok.hd hc) hl fun h' tk t' hk => ?_
    rw [preSum_eq, List.take_of_length_le (by simp), hn]
    exact ⟨.int _, H, I.kept hk, ⟨_, rfl⟩, q⟩
end SP

set_option Elab.async false
set_option maxRecDepth 100000
set_option maxHeartbeats 1000000
namespace SP
open PySem PySem.Spec PyProof.Rows L2 HT

theorem adjust_back (n : Nat) : Builtin.Slice.sliceAdjust none none (-1) (n : Int) = ((n : Int) - 1, -1) := rfl
theorem places_back (n : Nat) : Builtin.Slice.slicePlaces ((n : Int) - 1) (-1) (-1) = n := by
  unfold Builtin.Slice.slicePlaces
  have h1 : ¬ ((-1 : Int) > 0) := by omega
  rw [if_neg h1, show (- -1 : Int) = 1 from rfl, Int.ediv_one]
  by_cases h : (n : Int) - 1 > -1
  · rw [if_pos h]
    omega
  · rw [if_neg h]
    omega
theorem fm_congr {α β : Type} {f g : α → Option β} : ∀ {l : List α}, (∀ m ∈ l, f m = g m) → l.filterMap f = l.filterMap g
  | [], _ => rfl
  | a :: r, h => by
    have ih := fm_congr (l := r) fun m hm => h m (List.mem_cons_of_mem _ hm)
    rw [List.filterMap_cons, List.filterMap_cons, h a List.mem_cons_self, ih]
theorem pick_back (xs : Array Value) : ((List.range xs.size).filterMap fun (m : Nat) => xs[((xs.size : Int) - 1 + (m : Int) * (-1)).toNat]?) = xs.toList.reverse := by
  have e : ((List.range xs.size).filterMap fun (m : Nat) => xs[((xs.size : Int) - 1 + (m : Int) * (-1)).toNat]?) = (List.range xs.size).reverse.filterMap (fun m => xs[m]?) := by
    rw [← PySem.W.krv_range, List.filterMap_map]
    refine fm_congr fun m hm' => ?_
    have hm := List.mem_range.mp hm'
    show xs[((xs.size : Int) - 1 + (m : Int) * (-1)).toNat]? = xs[xs.size - 1 - m]?
    rw [show ((xs.size : Int) - 1 + (m : Int) * (-1)).toNat = xs.size - 1 - m by omega]
  rw [e, List.filterMap_reverse, PySem.W.krv_all]

section
variable {prog : Program} {w : World} {A : Around} {E : Value → Shared → Prop} {s : Shared}
theorem sliceApplied_back {sl : Addr} {vs : Value} {n : Nat} {Q : Int × Int × Nat → Shared → Prop} (hs : s.heap.IsSliceOf sl .none .none vs) (ps : IsPart vs (some (-1)))
    (h : Q ((n : Int) - 1, -1, n) s) : wpAny (model prog w) A (Builtin.Slice.sliceApplied (.ref sl) (pure (n : Int))) Q E s := by
  obtain ⟨os, hos, hcs, hds⟩ := id hs
  unfold Builtin.Slice.sliceApplied Builtin.Slice.sliceFields
  refine wpAny_bind (wpAny_bind (wpAny_field hos hds (x := .none) rfl (wpAny_bind (wpAny_field hos hds (x := .none) rfl (wpAny_bind (wpAny_field hos hds (x := vs) rfl (wpAny_pure ?_)))))))
  refine wpAny_bind (slicePart_ ps ?_)
  show wpAny _ _ (if ((-1 : Int) == 0) = true then _ else _) _ _ s
  rw [if_neg (by decide)]
  refine wpAny_bind (slicePart_none (wpAny_bind (slicePart_none (wpAny_bind (wpAny_pure ?_)))))
  show wpAny _ _ (match Builtin.Slice.sliceAdjust none none (-1) (n : Int) with | (lo, hi) => pure (lo, (-1 : Int), Builtin.Slice.slicePlaces lo hi (-1))) _ _ s
  rw [adjust_back n]
  show wpAny _ _ (pure ((n : Int) - 1, (-1 : Int), Builtin.Slice.slicePlaces ((n : Int) - 1) (-1) (-1))) _ _ s
  rw [places_back]
  exact wpAny_pure h
theorem getItem_tuple_back {t sl : Addr} {items : Array Value} {vs : Value} {Q : Value → Shared → Prop} (ht : IsTup s.heap t items) (hs : s.heap.IsSliceOf sl .none .none vs) (ps : IsPart vs (some (-1)))
    (h : Q (.ref s.heap.objs.size) { s with heap := s.heap.push { cls := .type "tuple", data := .seq items.toList.reverse.toArray } }) (hsz : items.size ≤ sizeLine) : wpAny (model prog w) A (getItem (.ref t) (.ref sl)) Q E s := by
  have fits : sizeOk (.seq items.toList.reverse.toArray) := by
    show items.toList.reverse.toArray.size ≤ sizeLine
    rw [List.size_toArray, List.length_reverse, Array.length_toList]
    exact hsz
  obtain ⟨os, hos, hcs, hds⟩ := id hs
  have hTs : s.TypeIs (.ref sl) "slice" := ⟨os, hos, hcs⟩
  unfold getItem
  try with_reducible refine wpAny_holding ?_
  first | refine wpAny_bind (wpAny_pure ?_) | skip
  refine wpAny_bind (wpAny_sequenceKey ht.typeIs (by decide) ?_)
  refine wpAny_bind (wpAny_callSpecial?_slot (name := Str.ofString "__getitem__") ht.typeIs PyProof.Rows.slot_tuple_getitem (wpAny_call_entry PyProof.Rows.slot_tuple_getitem ht.typeIs entry_tuple_getitem ?_ (args_tuple_getitem _ _)))
  show wpAny _ _ (Builtin.Tuple.tupleItemsOf (.ref t) >>= _) _ _ s
  refine wpAny_bind (tupleItemsOf_ ht ?_)
  refine wpAny_bind (wpAny_typeOf hTs ?_)
  rw [if_pos (by decide)]
  refine wpAny_bind (sliceApplied_back hs ps ?_)
  have hno : ¬ ((((items.size : Int) - 1) == 0 && (-1 : Int) == 1 && items.size == items.size) = true) := by simp
  show wpAny _ _ (if (((items.size : Int) - 1) == 0 && (-1 : Int) == 1 && items.size == items.size) = true then _ else _) _ _ s
  rw [if_neg hno, pick_back]
  first
    | exact wpAny_bind (m := Builtin.Tuple.tupleExact _) (wpAny_newObj_type (wpAny_pure ⟨_, rfl, wpAny_pure h⟩) fits)
    | exact wpAny_bind (m := Builtin.Tuple.tupleExact _) (wpAny_newObj_type (wpAny_bind (wpAny_pure (wpAny_pure ⟨_, rfl, wpAny_pure h⟩))) fits)
    | exact wpAny_bind (wpAny_bind (m := Builtin.Tuple.tupleExact _) (wpAny_newObj_type (wpAny_pure (wpAny_pure ⟨_, rfl, wpAny_pure h⟩)) fits))
    | exact wpAny_bind (wpAny_bind (m := Builtin.Tuple.tupleExact _) (wpAny_newObj_type (wpAny_pure ⟨_, rfl, wpAny_pure h⟩) fits))
end
/-- t[::-1] -/
def tRevT (K : PySem.W.Frag) (te : TE) : TE := fun σ H Q => te σ H fun x H1 => ∃ a xs, x = .ref a ∧ SqT K H1 a xs ∧ ∀ p, H1 p = none → Q (.ref p) (upd H1 p (.tup xs.reverse))
theorem pe_revT {X : Cx} {e : Expr} {te : TE} {k : Nat} {p1 p2 p3 pos : Pos} (he : PE X e te) : PE X (.Subscript e (.Slice none none (some (.UnaryOp .USub (.Constant (.int 1) k p1) p2)) p3) pos) (tRevT X.K te) := by
  refine ⟨fun pins s σ H Q I h => ?_⟩
  refine Subscript_ (thn (he.run pins s σ H _ I h) fun v s1 ⟨x, H1, I1, r1, q1⟩ => ?_)
  obtain ⟨a, xs, ex, hx, q⟩ := q1
  subst ex
  cases r1
  have hst : PO X (some (.UnaryOp .USub (.Constant (.int 1) k p1) p2)) (tPart (tUn (rU fun i => .int (-i)) (tC (.int 1)))) := po_some (pe_un un_neg pe_int)
  refine wpAny_Slice (thn (po_none.run pins s1 σ H1 (fun o H2 => o = none ∧ H2 = H1) I1 ⟨rfl, rfl⟩) fun vl s2 ⟨l, H2, I2, pl, el, e2⟩ => ?_)
  subst el e2
  cases pl
  refine thn (po_none.run pins s2 σ H2 (fun o H3 => o = none ∧ H3 = H2) I2 ⟨rfl, rfl⟩) fun vu s3 ⟨u, H3, I3, pu, eu, e3⟩ => ?_
  subst eu e3
  cases pu
  refine thn (hst.run pins s3 σ H3 (fun o H4 => o = some (-1) ∧ H4 = H3) I3 ⟨1, rfl, -1, rfl, rfl, rfl⟩) fun vs s4 ⟨o, H4, I4, ps, eo, e4⟩ => ?_
  subst eo e4
  have I5 : L2.Inv X pins σ H4 { s4 with heap := s4.heap.push { cls := .type "slice", data := .fields #[.none, .none, vs] } } := I4.kept (t' := s4.toks) fun b ob q => Heap.get?_push_of_some _ q
  obtain ⟨its, r, ht, hz⟩ := I5.tuple hx
  have hlen := r.length
  show wpAny (model X.prog X.w) X.A (subscriptTail e (.Slice none none (some (.UnaryOp .USub (.Constant (.int 1) k p1) p2)) p3) (.ref a) (.ref s4.heap.objs.size)) (EP X pins σ Q) X.xe { s4 with heap := s4.heap.push { cls := .type "slice", data := .fields #[.none, .none, vs] } }
  refine tail_any (ops := [.ref a, .ref s4.heap.objs.size]) ht.typeIs (PyProof.Rows.slot_tuple_getitem.lookup) ?_ (by with_unfolding_all rfl)
  refine getItem_tuple_back ht (Heap.IsSliceOf.new _ .none .none vs) ps ?_ (by rw [List.size_toArray]; omega)
  refine ⟨.ref _, _, I5.laid (t' := s4.toks) (o := .tup xs.reverse) (fun b ob q => Heap.get?_push_of_some _ q) (Nat.le_refl _) ?_, rfl, q _ (I5.hok.fresh (Nat.le_refl _))⟩
  exact ⟨by rw [List.length_reverse]; exact hz, _, r.reverse, ⟨_, Heap.get?_push_size _ rfl, rfl, _, rfl⟩⟩
end SP

set_option Elab.async false
set_option maxRecDepth 100000
set_option maxHeartbeats 1000000
namespace SP
open PySem PySem.Spec PyProof.Rows L2 Evl

/-! ### data in the heap -/
section
variable {K : PySem.W.Frag} {H H' : Hp}
mutual
theorem dp_mono (e : Ex H H') : ∀ (d : PyData) (v : V), Dp K H v d → Dp K H' v d
  | .none, _, h => by cases h; exact .non
  | .bool b, _, h => by cases h; exact .bl b
  | .int i, _, h => by cases h; exact .int i
  | .str x, _, h => by cases h; exact .str x
  | .list ds, _, h => by
    cases h with
    | lst q r => exact .lst (ex_l e q) (dpAll_mono e ds _ r)
  | .tuple ds, _, h => by
    cases h with
    | tup q r => exact .tup (ex_t e q) (dpAll_mono e ds _ r)
  | .dict _, _, h => by cases h
theorem dpAll_mono (e : Ex H H') : ∀ (ds : List PyData) (vs : List V), DpAll K H vs ds → DpAll K H' vs ds
  | [], _, h => by cases h; exact .nil
  | d :: ds, _, h => by
    cases h with
    | cons a b => exact .cons (dp_mono e d _ a) (dpAll_mono e ds _ b)
end
theorem dp_tup {v : V} {ds : List PyData} (h : Dp K H v (.tuple ds)) : ∃ a xs, v = .ref a ∧ SqT K H a xs ∧ DpAll K H xs ds := by
  cases h with
  | tup q r => exact ⟨_, _, rfl, q, r⟩
theorem dp_lst {v : V} {ds : List PyData} (h : Dp K H v (.list ds)) : ∃ a xs, v = .ref a ∧ SqL K H a xs ∧ DpAll K H xs ds := by
  cases h with
  | lst q r => exact ⟨_, _, rfl, q, r⟩
theorem dp_int {v : V} {i : Int} (h : Dp K H v (.int i)) : v = .int i := by cases h; rfl
theorem dpAll_len : ∀ {vs : List V} {ds : List PyData}, DpAll K H vs ds → vs.length = ds.length
  | _, _, .nil => rfl
  | _, _, .cons _ r => by rw [List.length_cons, List.length_cons, dpAll_len r]
theorem dpAll_get : ∀ {vs : List V} {ds : List PyData} {i : Nat} {v : V}, DpAll K H vs ds → vs[i]? = some v → ∃ d, ds[i]? = some d ∧ Dp K H v d
  | _, _, _, _, .nil, e => by simp at e
  | _, _, 0, _, .cons a _, e => by
    simp at e
    subst e
    exact ⟨_, rfl, a⟩
  | _, _, i + 1, v, .cons _ r, e => by
    obtain ⟨d, h1, h2⟩ := dpAll_get (i := i) (v := v) r (by simpa using e)
    exact ⟨d, by simpa using h1, h2⟩
theorem dpAll_at : ∀ {vs : List V} {ds : List PyData} {i : Nat} {d : PyData}, DpAll K H vs ds → ds[i]? = some d → ∃ v, vs[i]? = some v ∧ Dp K H v d
  | _, _, _, _, .nil, e => by simp at e
  | _, _, 0, _, .cons a _, e => by
    simp at e
    subst e
    exact ⟨_, rfl, a⟩
  | _, _, i + 1, d, .cons _ r, e => by
    obtain ⟨v, h1, h2⟩ := dpAll_at (i := i) (d := d) r (by simpa using e)
    exact ⟨v, by simpa using h1, h2⟩
theorem dpAll_snoc : ∀ {vs : List V} {ds : List PyData} {v : V} {d : PyData}, DpAll K H vs ds → Dp K H v d → DpAll K H (vs ++ [v]) (ds ++ [d])
  | _, _, _, _, .nil, h => .cons h .nil
  | _, _, _, _, .cons a r, h => .cons a (dpAll_snoc r h)
theorem dpAll_ints : ∀ {ns : List Int} {vs : List V}, DpAll K H vs (ns.map .int) → vs = ns.map V.int
  | [], _, h => by cases h; rfl
  | n :: ns, _, h => by
    cases h with
    | cons a r =>
      rw [dp_int a, dpAll_ints r]
      rfl
theorem dpAll_of_ints : ∀ ns : List Int, DpAll K H (ns.map V.int) (ns.map .int)
  | [] => .nil
  | n :: ns => .cons (.int n) (dpAll_of_ints ns)
theorem dpAll_rep {v : V} {d : PyData} (h : Dp K H v d) : ∀ n : Nat, DpAll K H (List.replicate n v) (List.replicate n d)
  | 0 => .nil
  | n + 1 => by
    rw [List.replicate_succ, List.replicate_succ]
    exact .cons h (dpAll_rep h n)
end

/-- tuples and lists of ints; tuples and lists of such -/
abbrev tI (ns : List Int) : PyData := .tuple (ns.map .int)
abbrev lI (ns : List Int) : PyData := .list (ns.map .int)

/-! ### equal data -/
structure Cod {α : Type} [DecidableEq α] (f : α → PyData) (n : Nat) : Prop where
  lay : ∀ x, (f x).canLay0 = true
  dep : ∀ x, (f x).depth ≤ n
  eqv : ∀ x y, PyData.eqv (f x) (f y) = decide (x = y)
section
variable {α β : Type} [DecidableEq α] [DecidableEq β] {f : α → PyData} {g : β → PyData} {n m : Nat}
theorem Cod.layAll (c : Cod f n) : ∀ xs : List α, PyData.canLayAll0 (xs.map f) = true
  | [] => rfl
  | x :: xs => by
    rw [List.map_cons, PyData.canLayAll0, c.lay x, c.layAll xs]
    rfl
theorem Cod.depAll (c : Cod f n) : ∀ xs : List α, PyData.depthAll (xs.map f) ≤ n
  | [] => by
    show PyData.depthAll [] ≤ n
    rw [PyData.depthAll]
    exact Nat.zero_le _
  | x :: xs => by
    rw [List.map_cons, PyData.depthAll]
    exact Nat.max_le.mpr ⟨c.dep x, c.depAll xs⟩
theorem Cod.eqvAll (c : Cod f n) : ∀ xs ys : List α, PyData.eqvAll (xs.map f) (ys.map f) = decide (xs = ys)
  | [], [] => by simp [PyData.eqvAll]
  | [], y :: ys => by simp [PyData.eqvAll]
  | x :: xs, [] => by simp [PyData.eqvAll]
  | x :: xs, y :: ys => by
    rw [List.map_cons, List.map_cons, PyData.eqvAll, c.eqv x y, c.eqvAll xs ys]
    by_cases h1 : x = y <;> by_cases h2 : xs = ys <;> simp [h1, h2]
theorem Cod.int : Cod PyData.int 0 where
  lay := fun x => by simp [PyData.canLay0]
  dep := fun x => by simp [PyData.depth]
  eqv := fun x y => by
    rw [PyData.eqv]
    by_cases h : x = y <;> simp [h]
theorem Cod.tup (c : Cod f n) : Cod (fun xs : List α => PyData.tuple (xs.map f)) (n + 1) where
  lay := fun xs => by rw [PyData.canLay0]; exact c.layAll xs
  dep := fun xs => by rw [PyData.depth]; exact Nat.succ_le_succ (c.depAll xs)
  eqv := fun xs ys => by rw [PyData.eqv]; exact c.eqvAll xs ys
theorem Cod.lst (c : Cod f n) : Cod (fun xs : List α => PyData.list (xs.map f)) (n + 1) where
  lay := fun xs => by rw [PyData.canLay0]; exact c.layAll xs
  dep := fun xs => by rw [PyData.depth]; exact Nat.succ_le_succ (c.depAll xs)
  eqv := fun xs ys => by rw [PyData.eqv]; exact c.eqvAll xs ys
theorem Cod.pair (c : Cod f n) (e : Cod g m) : Cod (fun p : α × β => PyData.tuple [f p.1, g p.2]) (max n m + 1) where
  lay := fun p => by simp only [PyData.canLay0, PyData.canLayAll0, c.lay, e.lay, Bool.and_true]
  dep := fun p => by
    have h1 := c.dep p.1
    have h2 := e.dep p.2
    simp only [PyData.depth, PyData.depthAll]
    omega
  eqv := fun p q => by
    obtain ⟨a, b⟩ := p
    obtain ⟨a', b'⟩ := q
    simp only [PyData.eqv, PyData.eqvAll, c.eqv, e.eqv, Bool.and_true]
    by_cases h1 : a = a' <;> by_cases h2 : b = b' <;> simp [h1, h2]
theorem Cod.shaped (c : Cod f n) (h : n ≤ 64) (x : α) : SeqAt.shaped (f x) = true := by
  show ((f x).canLay0 && decide ((f x).depth ≤ 64)) = true
  rw [c.lay x, decide_eq_true (Nat.le_trans (c.dep x) h)]
  rfl
end
/-- the equality of coded data: what the operators' rules ask -/
theorem eqD_of {α : Type} [DecidableEq α] {f : α → PyData} {n : Nat} {K : PySem.W.Frag} {H : Hp} {x y : V} {a b : α} {Q : VK} (c : Cod f n) (h : n ≤ 64) (hx : Dp K H x (f a)) (hy : Dp K H y (f b)) (q : Q (.bl (decide (a = b))) H) : rEqD K x y H Q :=
  ⟨f a, f b, hx, hy, c.shaped h a, c.shaped h b, by rw [c.eqv]; exact q⟩
theorem neD_of {α : Type} [DecidableEq α] {f : α → PyData} {n : Nat} {K : PySem.W.Frag} {H : Hp} {x y : V} {a b : α} {Q : VK} (c : Cod f n) (h : n ≤ 64) (hx : Dp K H x (f a)) (hy : Dp K H y (f b)) (q : Q (.bl (!decide (a = b))) H) : rNeD K x y H Q :=
  ⟨f a, f b, hx, hy, c.shaped h a, c.shaped h b, by rw [c.eqv]; exact q⟩

/-! ### a heap without one address -/
def Kd (D : Addr) (H : Hp) : Hp := fun b => if b = D then none else H b
theorem kd_self {D : Addr} {H : Hp} : Kd D H D = none := by unfold Kd; rw [if_pos rfl]
theorem kd_ne {D b : Addr} {H : Hp} (h : b ≠ D) : Kd D H b = H b := by unfold Kd; rw [if_neg h]
theorem kd_ex {D : Addr} {H : Hp} : Ex (Kd D H) H := fun a o h => by
  by_cases e : a = D
  · rw [e, kd_self] at h
    cases h
  · rw [kd_ne e] at h
    exact h
theorem kd_mono {D : Addr} {H H' : Hp} (e : Ex H H') : Ex (Kd D H) (Kd D H') := fun a o h => by
  by_cases q : a = D
  · rw [q, kd_self] at h
    cases h
  · rw [kd_ne q] at h ⊢
    exact e a o h
theorem kd_upd {D : Addr} {H : Hp} {o : HO} : Kd D (upd H D o) = Kd D H := by
  funext b
  by_cases q : b = D
  · rw [q, kd_self, kd_self]
  · rw [kd_ne q, kd_ne q, upd_ne q]
theorem kd_of {D : Addr} {H H1 : Hp} (h : H1 D = none) (e : Ex H1 H) : Ex H1 (Kd D H) := fun a o q => by
  rw [kd_ne (ne_of_none q h)]
  exact e a o q

/-- a comprehension that only makes data: what the list holds after i turns -/
theorem lc_dp {J : It} {n : Nat} {G : Hp → Prop} {Y : Nat → Hp → V → Hp → Prop} (w : Walk J n G Y) {K : PySem.W.Frag} {g : TG} {tt : TT} {te : TE} {vs : List Nat} {σ : L2.St} {H1 : Hp} {D : Addr} {Qd : Hp → Prop} (hD : H1 D = none)
    (ds : Nat → List PyData) (h0 : ds 0 = []) (hz : ∀ i, i ≤ n → (ds i).length < sizeLine) (hG : ∀ H, Ex H1 H → G H)
    (hs : ∀ i x H H' (Q : VK) (Qn : Hp → Prop), i < n → Ex H1 (Kd D H) → (∃ acc, H D = some (.lst acc)) → Y i H x H' → (∀ y d H4, Ex H H4 → Dp K (Kd D H4) y d → ds (i + 1) = ds i ++ [d] → Q y H4) → (∀ H3, Ex H H3 → ds (i + 1) = ds i → Qn H3) →
      g x (wipe σ vs) H' fun σ2 H2 => wipe σ2 vs = wipe σ vs ∧ tt σ2 H2 fun b H3 => if b = true then te σ2 H3 Q else Qn H3)
    (hd : ∀ H, Ex H1 H → Dp K H (.ref D) (.list (ds n)) → (∃ xs, H D = some (.lst xs) ∧ DpAll K (Kd D H) xs (ds n)) → Qd H) :
    ∃ W : Nat → Nat → Hp → Prop, (∃ m, W 0 m (upd H1 D (.lst []))) ∧ ∀ i m H, W i m H →
      (J.stop i H ∧ Qd H) ∨ (J.go i H ∧ ∃ Nx : Hp → Prop, (∀ H', Nx H' → ∃ m', m' < m ∧ W (i + 1) m' H') ∧ ∀ x H', J.yld i H x H' → g x (wipe σ vs) H' fun σ2 H2 => wipe σ2 vs = wipe σ vs ∧ tt σ2 H2 fun b H3 =>
        if b = true then te σ2 H3 fun y H4 => ∃ acc, H4 D = some (.lst acc) ∧ acc.length < sizeLine ∧ Nx (upd H4 D (.lst (acc ++ [y]))) else Nx H3) := by
  refine lc_it w (fun i H => Ex H1 (Kd D H) ∧ ∃ acc, H D = some (.lst acc) ∧ DpAll K (Kd D H) acc (ds i)) ⟨?_, [], upd_same, by rw [h0]; exact .nil⟩ (fun i H _ p => hG H (p.1.trans kd_ex)) ?_ ?_
  · rw [kd_upd]
    exact kd_of hD (Ex.refl _)
  · rintro i x H H' hi ⟨e1, acc, ha, hr⟩ y
    refine hs i x H H' _ _ hi e1 ⟨acc, ha⟩ y (fun y d H4 e4 hd e => ?_) (fun H3 e3 e => ?_)
    · have hl := dpAll_len hr
      refine ⟨acc, e4 _ _ ha, by rw [hl]; exact hz i (Nat.le_of_lt hi), ?_, acc ++ [y], upd_same, ?_⟩
      · rw [kd_upd]
        exact e1.trans (kd_mono e4)
      · rw [kd_upd, e]
        exact dpAll_snoc (dpAll_mono (kd_mono e4) _ _ hr) hd
    · refine ⟨e1.trans (kd_mono e3), acc, e3 _ _ ha, ?_⟩
      rw [e]
      exact dpAll_mono (kd_mono e3) _ _ hr
  · rintro H ⟨e1, acc, ha, hr⟩
    exact hd H (e1.trans kd_ex) (.lst (sq_of ha) (dpAll_mono kd_ex _ _ hr)) ⟨acc, ha, hr⟩
end SP

set_option Elab.async false
set_option maxRecDepth 100000
set_option maxHeartbeats 1000000
namespace SP
open PySem PySem.Spec PyProof.Rows L2 Evl

/-! ### defs, methods, classes as they stand behind the top -/
structure Dn (K : PySem.W.Frag) (mg : Str → Option Value) (x : Str) (st : Stmt) : Prop where
  ex : ∃ (f : Addr) (fd : FuncData), C8.Def K mg x st f fd ∧ fd.defaults = .none
structure Mn (K : PySem.W.Frag) (C : Addr) (m qual : Str) (st : Stmt) : Prop where
  ex : ∃ (f : Addr) (fd : FuncData), Meth K C m f ∧ C8.Fun K m qual st f fd ∧ fd.defaults = .none
section
variable {P : Program} {w : World} {K : PySem.W.Frag} {mg : Str → Option Value} {base : Heap}
theorem cal_of {x : Str} {st : Stmt} {N ps : List Str} {k : Nat} {sp : Sp} (D : Dn K mg x st) (S : C8.scC N ps (C8.fnScope st) = true)
    (hb : ∀ (kV doc pm : Value) (an : Option Addr) (cdv ct : Value) (us : List Value), us.length = ps.length → bindArgs (PySem.W.fnOf x x (C8.fnArgs st) (C8.fnBody st) (C8.fnScope st) .none kV doc pm an cdv ct) ⟨us, []⟩ = pure (ps.zip us))
    (len : ∀ vs H Q E, sp vs H Q E → vs.length = ps.length)
    (hbody : ∀ (qf : Addr) (cdv : Value) (A : Around) (outer : List Env) (s : Shared) (H : Hp) (vs : List V) (Q : VK) (E : XK), Room k (A.deeper (envOfC x (C8.fnScope st) s.heap.objs.size qf cdv)) → sp vs H Q E →
      ∃ t, PSs (cxOf C8.CX0 P w K mg base N x (C8.fnScope st) qf cdv A outer s H E).nox (C8.fnBody st) t ∧ t { nx := fun _ H' => Q .non H', rt := Q } (start N vs) H) : C8.Cal P w K mg base (k + 1) x sp [] := by
  obtain ⟨f, fd, D, df⟩ := D.ex
  exact C8.cal0 D (D.fn.binds df hb) .nil (C8.fnScope_by S) len fun cdv A outer s H vs Q E hr h => hbody f cdv A outer s H vs Q E hr h
theorem met_of {m qual : Str} {C : Addr} {st : Stmt} {N ps : List Str} {k : Nat} {sp : Sp} (c : Cls K C) (D : Mn K C m qual st) (S : C8.scC N ps (C8.fnScope st) = true)
    (hb : ∀ (kV doc pm : Value) (an : Option Addr) (cdv ct : Value) (us : List Value), us.length = ps.length → bindArgs (PySem.W.fnOf m qual (C8.fnArgs st) (C8.fnBody st) (C8.fnScope st) .none kV doc pm an cdv ct) ⟨us, []⟩ = pure (ps.zip us))
    (len : ∀ vs H Q E, sp vs H Q E → vs.length = ps.length)
    (hbody : ∀ (qf : Addr) (cdv : Value) (A : Around) (outer : List Env) (s : Shared) (H : Hp) (vs : List V) (Q : VK) (E : XK), Room k (A.deeper (envOfC qual (C8.fnScope st) s.heap.objs.size qf cdv)) → sp vs H Q E →
      ∃ t, PSs (cxOf C8.CX0 P w K mg base N qual (C8.fnScope st) qf cdv A outer s H E).nox (C8.fnBody st) t ∧ t { nx := fun _ H' => Q .non H', rt := Q } (start N vs) H) : C8.Met P w K mg base (k + 1) C m sp [] := by
  obtain ⟨f, fd, me, F, df⟩ := D.ex
  exact C8.met0 c me F (F.binds df hb) (C8.fnScope_by S) len fun cdv A outer s H vs Q E hr h => hbody f cdv A outer s H vs Q E hr h
theorem mak_of {x qual : Str} {C : Addr} {st : Stmt} {N ps : List Str} {k : Nat} {sp : Sp} (mk : PySem.W.makesIn K C = true) (kc : PySem.W.keepIn K (.ref C) = true) (hm : mg x = some (.ref C)) (D : Mn K C "__init__" qual st) (S : C8.scC N ps (C8.fnScope st) = true)
    (hb : ∀ (kV doc pm : Value) (an : Option Addr) (cdv ct : Value) (us : List Value), us.length = ps.length → bindArgs (PySem.W.fnOf "__init__" qual (C8.fnArgs st) (C8.fnBody st) (C8.fnScope st) .none kV doc pm an cdv ct) ⟨us, []⟩ = pure (ps.zip us))
    (len : ∀ vs H Q E, sp vs H Q E → vs.length = ps.length)
    (hbody : ∀ (qf : Addr) (cdv : Value) (A : Around) (outer : List Env) (s : Shared) (H : Hp) (vs : List V) (Q : VK) (E : XK), Room k (A.deeper (envOfC qual (C8.fnScope st) s.heap.objs.size qf cdv)) → sp vs H Q E →
      ∃ t, PSs (cxOf C8.CX0 P w K mg base N qual (C8.fnScope st) qf cdv A outer s H E).nox (C8.fnBody st) t ∧ t { nx := fun _ H' => Q .non H', rt := Q } (start N vs) H) : C8.Mak P w K mg base (k + 1) x C sp [] := by
  obtain ⟨f, fd, me, F, df⟩ := D.ex
  exact C8.mak0 ⟨mk, me.at_, me.fn, kc⟩ hm F (F.binds df hb) .nil (C8.fnScope_by S) len fun cdv A outer s H vs Q E hr h => hbody f cdv A outer s H vs Q E hr h
end
section
variable {X : Cx} {k j : Nat} {C : Addr} {sp : Sp}
theorem op_eqM (c : C8.Met X.prog X.w X.K X.mg X.base k C "__eq__" sp []) (hr : Room j X.A) (hk : k ≤ j) : OpR X (compareOp .Eq) (rEqO C sp C8.E0) := by
  obtain ⟨f, fd, ps, ds, hc, hm, F, b, d⟩ := c.ex
  cases d
  exact op_eqO F (hr.mono hk) hm.at_ hm.fn b C8.pass0
theorem op_neM (c : C8.Met X.prog X.w X.K X.mg X.base k C "__eq__" sp []) (hn : PySem.W.findIn X.K (.ref C) "__ne__" = some (some (.builtin "object.__ne__"))) (hr : Room j X.A) (hk : k + 1 ≤ j) : OpR X (compareOp .NotEq) (rNeO C sp C8.E0) := by
  obtain ⟨f, fd, ps, ds, hc, hm, F, b, d⟩ := c.ex
  cases d
  exact op_neO F (hr.mono hk) hn hm.at_ hm.fn hc.po b C8.pass0
theorem call_lenM (c : C8.Met X.prog X.w X.K X.mg X.base k C "__len__" sp []) (hr : Room j X.A) (hk : k + 1 ≤ j) : CallR X (.builtin "len") (rLenO C sp C8.E0) := by
  obtain ⟨f, fd, ps, ds, hc, hm, F, b, d⟩ := c.ex
  cases d
  exact call_lenO F (hr.mono hk) hm.at_ hm.fn b C8.pass0
end

/-! ### types of what is read -/
theorem ty_list {K : PySem.W.Frag} {H : Hp} {a : Addr} {xs : List V} (h : SqL K H a xs) : TyX K H (.ref a) (.type "list") := by
  rcases h with (h | ⟨o, h⟩) | ⟨o, its, n, hk, hc, _⟩
  · exact .base (.lst h)
  · exact .base (.frz h)
  · exact .kList hk hc
theorem ty_tup {K : PySem.W.Frag} {H : Hp} {a : Addr} {xs : List V} (h : SqT K H a xs) : TyX K H (.ref a) (.type "tuple") := by
  rcases h with (h | ⟨o, h⟩) | ⟨o, its, n, hk, hc, _⟩
  · exact .base (.tup h)
  · exact .fTuple h
  · exact .kTuple hk hc
theorem sk_ex {k : Bool} {K : PySem.W.Frag} {H H' : Hp} {a : Addr} {xs : List V} (e : Ex H H') (h : Sk k K H a xs) : Sk k K H' a xs := by
  cases k with
  | true => exact ex_l e h
  | false => exact ex_t e h
end SP

set_option Elab.async false
set_option maxRecDepth 100000
set_option maxHeartbeats 1000000
namespace SP
open PySem PySem.Spec PyProof.Rows L2 Evl

theorem take_snoc {α : Type} : ∀ {xs : List α} {i : Nat} {x : α}, xs[i]? = some x → xs.take (i + 1) = xs.take i ++ [x]
  | [], _, _, h => by simp at h
  | a :: r, 0, x, h => by
    simp at h
    subst h
    rfl
  | a :: r, i + 1, x, h => by
    rw [List.take_succ_cons, List.take_succ_cons, take_snoc (xs := r) (by simpa using h)]
    rfl
theorem take_all {α : Type} (xs : List α) : xs.take xs.length = xs := List.take_of_length_le (Nat.le_refl _)
theorem dpAll_bools {K : PySem.W.Frag} {H : Hp} : ∀ {bs : List Bool} {vs : List V}, DpAll K H vs (bs.map .bool) → vs = bs.map V.bl
  | [], _, h => by cases h; rfl
  | b :: bs, _, h => by
    cases h with
    | cons a r =>
      cases a
      rw [dpAll_bools r]
      rfl
theorem get_map {α β : Type} {f : α → β} {xs : List α} {i : Nat} {y : β} (h : (xs.map f)[i]? = some y) : ∃ x, xs[i]? = some x ∧ y = f x := by
  rw [List.getElem?_map] at h
  cases e : xs[i]? with
  | none =>
    rw [e] at h
    cases h
  | some x =>
    rw [e] at h
    exact ⟨x, rfl, (Option.some.inj h).symm⟩

/-! ### what is walked: a list or a tuple -/
def Its (k : Bool) (K : PySem.W.Frag) (a : Addr) : It := match k with
  | true => Itl K a
  | false => Itt K a
def iSk (k : Bool) (K : PySem.W.Frag) (tl : TE) : TI := fun σ H R => tl σ H fun x H1 => ∃ a, x = .ref a ∧ (∃ xs, Sk k K H1 a xs) ∧ R (Its k K a) H1
theorem pi_sk {X : Cx} {tg l : Expr} {tl : TE} (k : Bool) (h : PE X l tl) : PI X tg l (iSk k X.K tl) := by
  cases k with
  | true => exact pi_list h
  | false => exact pi_tup h
theorem walk_sk {k : Bool} {K : PySem.W.Frag} {a : Addr} {xs : List V} : Walk (Its k K a) xs.length (fun H => Sk k K H a xs) (YAt xs) := by
  cases k with
  | true => exact walk_list
  | false => exact walk_tup

/-- a loop's bookkeeping, whatever its turn is -/
theorem loop_it {J : It} {n : Nat} {G : Hp → Prop} {Y : Nat → Hp → V → Hp → Prop} (w : Walk J n G Y) {B : V → Hp → (Hp → Prop) → Prop} {Qd : Hp → Prop} {H0 : Hp} (Pv : Nat → Hp → Prop) (h0 : Pv 0 H0) (hG : ∀ i H, i ≤ n → Pv i H → G H)
    (hs : ∀ i x H H', i < n → Pv i H → Y i H x H' → B x H' (Pv (i + 1))) (hd : ∀ H, Pv n H → Qd H) :
    ∃ W : Nat → Nat → Hp → Prop, (∃ m, W 0 m H0) ∧ ∀ i m H, W i m H →
      (J.stop i H ∧ Qd H) ∨ (J.go i H ∧ ∃ Nx : Hp → Prop, (∀ H', Nx H' → ∃ m', m' < m ∧ W (i + 1) m' H') ∧ ∀ x H', J.yld i H x H' → B x H' Nx) := by
  refine ⟨fun i m H => m = n - i ∧ i ≤ n ∧ Pv i H, ⟨n, by simp, Nat.zero_le _, h0⟩, ?_⟩
  rintro i m H ⟨rfl, hi, p⟩
  have q := hG i H hi p
  by_cases hlt : i < n
  · exact .inr ⟨w.goes i H hlt q, Pv (i + 1), fun H' p' => ⟨n - (i + 1), by omega, rfl, hlt, p'⟩, fun x H' y => hs i x H H' hlt p (w.yields i H x H' hlt q y)⟩
  · have e : i = n := by omega
    subst e
    exact .inl ⟨w.stops H q, hd H p⟩
theorem dpAll_app {K : PySem.W.Frag} {H : Hp} : ∀ {vs ws : List V} {ds es : List PyData}, DpAll K H vs ds → DpAll K H ws es → DpAll K H (vs ++ ws) (ds ++ es)
  | _, _, _, _, .nil, h => h
  | _, _, _, _, .cons a r, h => .cons a (dpAll_app r h)
end SP

set_option Elab.async false
set_option maxRecDepth 100000
set_option maxHeartbeats 1000000
namespace SP
open PySem PySem.Spec PyProof.Rows L2 Evl

def top (i : Nat) : Stmt := PySem.Challenge.pw_surelyplan_k01_whole_data.main.body.getD i (.Pass ⟨0, 0, 0, 0⟩)

structure Txt (K : PySem.W.Frag) (mg : Str → Option Value) (CS CD : Addr) : Prop where
  isi : mg "isinstance" = none
  int_ : mg "int" = none
  bool_ : mg "bool" = none
  list_ : mg "list" = none
  tuple_ : mg "tuple" = none
  len_ : mg "len" = none
  all_ : mg "all" = none
  sum_ : mg "sum" = none
  range_ : mg "range" = none
  enum_ : mg "enumerate" = none
  zip_ : mg "zip" = none
  cLS : ∃ t, mg "LEAST_SIZE" = some (.int 2 t)
  cMS : ∃ t, mg "MOST_SIZE" = some (.int 6 t)
  cMT : ∃ t, mg "MOST_TABLES" = some (.int 4 t)
  cMW : ∃ t, mg "MOST_WIDTH" = some (.int 2 t)
  cMC : ∃ t, mg "MOST_COUNT" = some (.int 9 t)
  mS : mg "Schema" = some (.ref CS)
  mD : mg "Data" = some (.ref CD)
  iS : C8.InsC K CS
  iD : C8.InsC K CD
  nSs : NoAttr K CS "size"
  nSw : NoAttr K CS "widths"
  nDs : NoAttr K CD "schema"
  nDt : NoAttr K CD "tables"
  neS : PySem.W.findIn K (.ref CS) "__ne__" = some (some (.builtin "object.__ne__"))
  neD : PySem.W.findIn K (.ref CD) "__ne__" = some (some (.builtin "object.__ne__"))
  mkS : PySem.W.makesIn K CS = true
  kcS : PySem.W.keepIn K (.ref CS) = true
  mkD : PySem.W.makesIn K CD = true
  kcD : PySem.W.keepIn K (.ref CD) = true

section
variable {P : Program} {w : World} {K : PySem.W.Frag} {mg : Str → Option Value} {base : Heap} {CS CD : Addr}

/-! ### plain.py -/
def spIsInt : Sp := fun vs H Q _ => ∃ i : Int, vs = [.int i] ∧ RetV (.bl true) H Q
theorem c_isInt (T : Txt K mg CS CD) (D : Dn K mg "is_integer" (top 8)) : C8.Cal P w K mg base 1 "is_integer" spIsInt [] := by
  refine cal_of (N := ["value"]) (ps := ["value"]) D (by decide +kernel) (fun _ _ _ _ _ _ us hl => match us, hl with | [_], _ => rfl) (fun vs H Q E h => ?_) (fun qf cdv A outer s H vs Q E hr h => ?_)
  · obtain ⟨i, rfl, _⟩ := h
    rfl
  · obtain ⟨i, rfl, q⟩ := h
    refine ⟨_, pss_one (ps_ret (pe_and (pe_callB call_isi (by rfl) T.isi (by decide +kernel) (pa_cons (pv 0) (pa_cons (pe_bltn (v := .ty "int") (by rfl) T.int_ (by decide +kernel) rfl) pa_nil)))
      (pe_one (pe_not (pe_callB call_isi (by rfl) T.isi (by decide +kernel) (pa_cons (pv 0) (pa_cons (pe_bltn (v := .ty "bool") (by rfl) T.bool_ (by decide +kernel) rfl) pa_nil))))))), ?_⟩
    refine ⟨_, rfl, _, _, _, _, true, rfl, .ty _, .base (.int i), kit_ty (by decide +kernel), true, rfl, iteT ?_⟩
    exact ⟨_, rfl, _, _, _, _, false, rfl, .ty _, .base (.int i), kit_ty (by decide +kernel), false, rfl, q H (Ex.refl H)⟩

def spBetween : Sp := fun vs H Q _ => ∃ i lo hi : Int, vs = [.int i, .int lo, .int hi] ∧ RetV (.bl (decide (lo ≤ i ∧ i ≤ hi))) H Q
theorem c_between (D : Dn K mg "is_between" (top 9)) (c1 : C8.Cal P w K mg base 1 "is_integer" spIsInt []) : C8.Cal P w K mg base 2 "is_between" spBetween [] := by
  refine cal_of (N := ["value", "low", "high"]) (ps := ["value", "low", "high"]) D (by decide +kernel) (fun _ _ _ _ _ _ us hl => match us, hl with | [_, _, _], _ => rfl) (fun vs H Q E h => ?_) (fun qf cdv A outer s H vs Q E hr h => ?_)
  · obtain ⟨i, lo, hi, rfl, _⟩ := h
    rfl
  · obtain ⟨i, lo, hi, rfl, q⟩ := h
    refine ⟨_, pss_one (ps_ret (pe_and (C8.pe_c c1 hr (by decide) (by rfl) (pa_cons (pv 0) pa_nil)) (pe_one (pe_chain op_le op_le (pv 1) (pv 0) (pv 2))))), ?_⟩
    refine ⟨_, rfl, i, rfl, fun H1 e1 => ⟨true, rfl, iteT ?_⟩⟩
    refine ⟨_, rfl, _, rfl, _, _, rfl, rfl, _, rfl, ?_⟩
    refine ite2 (fun a => ?_) (fun a => ?_)
    · refine ⟨_, rfl, _, _, rfl, rfl, ?_⟩
      have e : decide (i ≤ hi) = decide (lo ≤ i ∧ i ≤ hi) := by
        have a' : lo ≤ i := of_decide_eq_true a
        simp [a']
      show Q (.bl (decide (i ≤ hi))) H1
      rw [e]
      exact q H1 e1
    · have e : false = decide (lo ≤ i ∧ i ≤ hi) := by
        have a' : ¬ lo ≤ i := fun z => a (decide_eq_true z)
        simp [a']
      show Q (.bl false) H1
      rw [e]
      exact q H1 e1

end
section
variable {P : Program} {w : World} {K : PySem.W.Frag} {mg : Str → Option Value} {base : Heap} {CS CD : Addr}
def spAre (K : PySem.W.Frag) : Sp := fun vs H Q _ => ∃ (k : Bool) (a : Addr) (ns : List Int) (lo hi : Int), vs = [.ref a, .int lo, .int hi] ∧ Sk k K H a (ns.map V.int) ∧ ns.length ≤ 1000 ∧ RetV (.bl (ns.all fun i => decide (lo ≤ i ∧ i ≤ hi))) H Q
theorem c_are (T : Txt K mg CS CD) (D : Dn K mg "are_between" (top 10)) (c2 : C8.Cal P w K mg base 2 "is_between" spBetween []) : C8.Cal P w K mg base 3 "are_between" (spAre K) [] := by
  refine cal_of (N := ["values", "low", "high", "value"]) (ps := ["values", "low", "high"]) D (by decide +kernel) (fun _ _ _ _ _ _ us hl => match us, hl with | [_, _, _], _ => rfl) (fun vs H Q E h => ?_) (fun qf cdv A outer s H vs Q E hr h => ?_)
  · obtain ⟨k, a, ns, lo, hi, rfl, _⟩ := h
    rfl
  · obtain ⟨k, a, ns, lo, hi, rfl, hS, hz, q⟩ := h
    have nd : (["values", "low", "high", "value"] : List Str).Nodup := by decide +kernel
    refine ⟨_, pss_one (ps_ret (pe_callB (cr_all rfl) (by rfl) T.all_ (by decide +kernel) (pa_cons (pe_lc (own := [("value", 3)]) (g := gName 3) (tt := tYes) rfl nd (pi_sk k (pv 0))
      (blkOk_by (N := ["values", "low", "high", "value"]) (sc := C8.fnScope (top 10)) (by decide +kernel)) (fun _ _ _ _ _ => pg_name (i := 3) nd rfl (Or.inl rfl)) (fun _ _ _ _ _ => pts_nil)
      (fun _ _ _ _ _ => C8.pe_c c2 hr (by decide) (by rfl) (pa_cons (pv 3) (pa_cons (pv 1) (pa_cons (pv 2) pa_nil))))) pa_nil))), ?_⟩
    refine ⟨_, rfl, a, rfl, ⟨_, hS⟩, fun D hD => ?_⟩
    refine lc_dp (K := K) (walk_sk (xs := ns.map V.int)) hD (fun i => (((ns.take i).map fun n => decide (lo ≤ n ∧ n ≤ hi)).map PyData.bool)) rfl (fun i hi => ?_) (fun H' e => sk_ex e hS) ?_ ?_
    · rw [List.length_map, List.length_map, List.length_take]
      exact Nat.lt_of_le_of_lt (Nat.le_trans (Nat.min_le_right _ _) hz) (by decide)
    · intro i x H1 H1' Q' Qn hi' e1 _ y k1 k2
      obtain ⟨rfl, hx⟩ := y
      obtain ⟨n, hn, rfl⟩ := get_map hx
      refine ⟨rfl, iteT (B := Qn H1') ⟨_, rfl, _, rfl, _, rfl, n, lo, hi, rfl, fun H4 e4 => k1 _ (.bool (decide (lo ≤ n ∧ n ≤ hi))) H4 e4 (.bl _) ?_⟩⟩
      show ((ns.take (i + 1)).map _).map _ = _
      rw [take_snoc hn, List.map_append, List.map_append]
      rfl
    · rintro H1 e1 _ ⟨xs, hx, hd⟩
      rw [List.length_map, take_all] at hd
      have e := dpAll_bools hd
      subst e
      refine ⟨D, _, rfl, SqL.of hx, ?_⟩
      show Q (.bl _) H1
      rw [List.all_map]
      exact q H1 e1

def spIsSeq (K : PySem.W.Frag) : Sp := fun vs H Q _ => ∃ (k : Bool) (a : Addr) (xs : List V), vs = [.ref a] ∧ Sk k K H a xs ∧ RetV (.bl true) H Q
theorem c_isSeq (T : Txt K mg CS CD) (D : Dn K mg "is_sequence" (top 11)) : C8.Cal P w K mg base 1 "is_sequence" (spIsSeq K) [] := by
  refine cal_of (N := ["value"]) (ps := ["value"]) D (by decide +kernel) (fun _ _ _ _ _ _ us hl => match us, hl with | [_], _ => rfl) (fun vs H Q E h => ?_) (fun qf cdv A outer s H vs Q E hr h => ?_)
  · obtain ⟨k, a, xs, rfl, _⟩ := h
    rfl
  · obtain ⟨k, a, xs, rfl, hS, q⟩ := h
    refine ⟨_, pss_one (ps_ret (pe_callB call_isiT (by rfl) T.isi (by decide +kernel) (pa_cons (pv 0) (pa_cons (pe_tup (pa_cons (pe_bltn (v := .ty "list") (by rfl) T.list_ (by decide +kernel) rfl)
      (pa_cons (pe_bltn (v := .ty "tuple") (by rfl) T.tuple_ (by decide +kernel) rfl) pa_nil))) pa_nil)))), ?_⟩
    refine ⟨_, rfl, by show 2 ≤ sizeLine; decide, fun p hp => ?_⟩
    have hS' := sk_ex (Ex.new (o := .tup [.ty "list", .ty "tuple"]) hp) hS
    cases k with
    | true => exact ⟨_, p, [.ty "list", .ty "tuple"], _, _, true, rfl, upd_same, .cons (.ty _) (.cons (.ty _) .nil), ty_list hS', kitAny_cons (kit_ty (b := "list") (r := true) (by decide +kernel)) (fun z => nomatch z) fun _ => rfl, q _ (Ex.new hp)⟩
    | false => exact ⟨_, p, [.ty "list", .ty "tuple"], _, _, true, rfl, upd_same, .cons (.ty _) (.cons (.ty _) .nil), ty_tup hS', kitAny_cons (kit_ty (b := "list") (r := false) (by decide +kernel)) (fun _ => kitAny_cons (kit_ty (b := "tuple") (r := true) (by decide +kernel)) (fun z => nomatch z) fun _ => rfl) (fun z => nomatch z), q _ (Ex.new hp)⟩

theorem dec_int (a b : Int) : decide (V.int a = V.int b) = decide (a = b) := by
  by_cases h : a = b <;> simp [h]
def spIsGroup (K : PySem.W.Frag) : Sp := fun vs H Q _ => ∃ (a : Addr) (xs : List V) (m : Int), vs = [.ref a, .int m] ∧ SqT K H a xs ∧ RetV (.bl (decide ((xs.length : Int) = m))) H Q
theorem c_isGroup (T : Txt K mg CS CD) (D : Dn K mg "is_group" (top 12)) : C8.Cal P w K mg base 1 "is_group" (spIsGroup K) [] := by
  refine cal_of (N := ["value", "many"]) (ps := ["value", "many"]) D (by decide +kernel) (fun _ _ _ _ _ _ us hl => match us, hl with | [_, _], _ => rfl) (fun vs H Q E h => ?_) (fun qf cdv A outer s H vs Q E hr h => ?_)
  · obtain ⟨a, xs, m, rfl, _⟩ := h
    rfl
  · obtain ⟨a, xs, m, rfl, hS, q⟩ := h
    refine ⟨_, pss_one (ps_ret (pe_and (pe_callB call_isi (by rfl) T.isi (by decide +kernel) (pa_cons (pv 0) (pa_cons (pe_bltn (v := .ty "tuple") (by rfl) T.tuple_ (by decide +kernel) rfl) pa_nil)))
      (pe_one (pe_cmpR op_eq (pe_callB call_len_seq (by rfl) T.len_ PySem.boot_len (pa_cons (pv 0) pa_nil)) (pv 1) (nomark _))))), ?_⟩
    refine ⟨_, rfl, _, _, _, _, true, rfl, .ty _, ty_tup hS, kit_ty (by decide +kernel), true, rfl, iteT ?_⟩
    refine ⟨_, rfl, a, _, rfl, .inr hS, _, rfl, rfl, ?_⟩
    show Q (.bl (decide (V.int xs.length = V.int m))) H
    rw [dec_int]
    exact q H (Ex.refl H)

/-! all_tuples -/
def allT : List (List Int) → List (List Int) := fun L => L.foldl (fun ts c => ts.flatMap fun f => c.map fun i => f ++ [i]) [[]]
abbrev TL (ts : List (List Int)) : PyData := .list (ts.map tI)
end
end SP

set_option Elab.async false
set_option maxRecDepth 100000
set_option maxHeartbeats 1000000
namespace SP
open PySem PySem.Spec PyProof.Rows L2 Evl
section
variable {P : Program} {w : World} {K : PySem.W.Frag} {mg : Str → Option Value} {base : Heap} {CS CD : Addr}
def ext1 (ts : List (List Int)) (c : List Int) : List (List Int) := ts.flatMap fun f => c.map fun i => f ++ [i]
theorem ext1_snoc (ts : List (List Int)) (f : List Int) (c : List Int) : ext1 (ts ++ [f]) c = ext1 ts c ++ c.map fun i => f ++ [i] := by
  unfold ext1
  rw [List.flatMap_append, List.flatMap_cons, List.flatMap_nil, List.append_nil]
theorem ext1_len (ts : List (List Int)) (c : List Int) : (ext1 ts c).length = ts.length * c.length := by
  induction ts with
  | nil => simp [ext1]
  | cons a r ih =>
    have e : ext1 (a :: r) c = (c.map fun i => a ++ [i]) ++ ext1 r c := by
      unfold ext1
      rw [List.flatMap_cons]
    rw [e, List.length_append, List.length_map, ih, List.length_cons, Nat.succ_mul]
    omega
theorem allT_snoc (L : List (List Int)) (c : List Int) : allT (L ++ [c]) = ext1 (allT L) c := by
  unfold allT
  rw [List.foldl_append]
  rfl
theorem allT_len1 {L : List (List Int)} (h : L.length ≤ 1) (h6 : ∀ c ∈ L, c.length ≤ 6) : (allT L).length ≤ 6 := by
  match L, h with
  | [], _ => show 1 ≤ 6; decide
  | [c], _ =>
    have e : allT [c] = ext1 [[]] c := rfl
    rw [e, ext1_len]
    have := h6 c List.mem_cons_self
    simp
    omega
theorem allT_mem1 {L : List (List Int)} (h : L.length ≤ 1) : ∀ f ∈ allT L, f.length ≤ 1 := by
  match L, h with
  | [], _ =>
    intro f hf
    have e : f = [] := by simpa [allT] using hf
    rw [e]
    exact Nat.zero_le _
  | [c], _ =>
    intro f hf
    obtain ⟨z, _, e⟩ : ∃ z ∈ c, [z] = f := by simpa [allT] using hf
    rw [← e]
    exact Nat.le_refl _
theorem ints_app (fs : List Int) (z : Int) : fs.map V.int ++ [.int z] = (fs ++ [z]).map V.int := by
  rw [List.map_append]
  rfl
theorem dp_tI {K : PySem.W.Frag} {H : Hp} {p : Addr} {ns : List Int} (h : SqT K H p (ns.map V.int)) : Dp K H (.ref p) (tI ns) := .tup h (dpAll_of_ints ns)
theorem dp_tI_inv {K : PySem.W.Frag} {H : Hp} {v : V} {ns : List Int} (h : Dp K H v (tI ns)) : ∃ a, v = .ref a ∧ SqT K H a (ns.map V.int) := by
  obtain ⟨a, xs, rfl, q, r⟩ := dp_tup h
  rw [dpAll_ints r] at q
  exact ⟨a, rfl, q⟩
theorem dp_lI_inv {K : PySem.W.Frag} {H : Hp} {v : V} {ns : List Int} (h : Dp K H v (lI ns)) : ∃ a, v = .ref a ∧ SqL K H a (ns.map V.int) := by
  obtain ⟨a, xs, rfl, q, r⟩ := dp_lst h
  rw [dpAll_ints r] at q
  exact ⟨a, rfl, q⟩
/-- the result is data of its own -/
def RetD (K : PySem.W.Frag) (d : PyData) (H : Hp) (Q : VK) : Prop := ∀ v H', Ex H H' → Dp K H' v d → Q v H'
def spAllT (K : PySem.W.Frag) : Sp := fun vs H Q _ => ∃ (v : V) (L : List (List Int)), vs = [v] ∧ Dp K H v (.list (L.map lI)) ∧ L.length ≤ 2 ∧ (∀ c ∈ L, c.length ≤ 6) ∧ RetD K (TL (allT L)) H Q
theorem c_allT (D : Dn K mg "all_tuples" (top 13)) : C8.Cal P w K mg base 1 "all_tuples" (spAllT K) [] := by
  refine cal_of (N := ["choices", "tuples", "choice", "front", "item"]) (ps := ["choices"]) D (by decide +kernel) (fun _ _ _ _ _ _ us hl => match us, hl with | [_], _ => rfl) (fun vs H Q E h => ?_) (fun qf cdv A outer s H vs Q E hr h => ?_)
  · obtain ⟨v, L, rfl, _⟩ := h
    rfl
  · obtain ⟨v, L, rfl, hd, hl, h6, q⟩ := h
    obtain ⟨a, cs, rfl, hS, hA⟩ := dp_lst hd
    have nd : (["choices", "tuples", "choice", "front", "item"] : List Str).Nodup := by decide +kernel
    refine ⟨_, pss_cons (ps_set (i := 1) nd rfl (Or.inl rfl) (pe_lst (pa_cons (pe_tup pa_nil) pa_nil)))
      (pss_cons (ps_for PassesOwn.never rfl (pi_list (pv 0)) (pg_name (i := 2) nd rfl (Or.inr rfl))
        (pss_one (ps_setLc2 (i := 1) (own := [("front", 3), ("item", 4)]) (g := gName 3) (g1 := gName 4) (tt := tYes) (tt1 := tYes) (vs1 := [4]) (wi1 := iList K (tVar 2)) (te := tOp (rCatA K) (tVar 3) (tTup (tCons (tVar 4) tNil))) rfl nd rfl rfl (sw_true rfl rfl rfl (by decide +kernel)) (pi_list (pv 1))
          (blkOk_by (N := ["choices", "tuples", "choice", "front", "item"]) (sc := C8.fnScope (top 13)) (by decide +kernel)) (by intro i hi; simp at hi; subst hi; simp)
          (fun _ _ _ _ _ => pg_name (i := 3) nd rfl (Or.inl rfl)) (fun _ _ _ _ _ => pts_nil) (fun _ _ _ _ _ => pi_list (pv 2)) (fun _ _ _ _ _ => pg_name (i := 4) nd rfl (Or.inl rfl)) (fun _ _ _ _ _ => pts_nil)
          (fun _ _ _ _ _ => pe_op op_catA (pv 3) (pe_tup (pa_cons (pv 4) pa_nil))))))
      (pss_one (ps_ret (pv 1)))), ?_⟩
    refine ⟨Nat.zero_le _, fun t0 ht0 => ?_⟩
    refine ⟨by show 1 ≤ sizeLine; decide, fun p0 hp0 => ?_⟩
    have e2 : Ex H (upd (upd H t0 (.tup [])) p0 (.lst [.ref t0])) := (Ex.new ht0).trans (Ex.new hp0)
    refine ⟨_, rfl, a, rfl, ⟨_, ex_l e2 hS⟩, for_list (K := K) (a := a) (xs := cs) (fun i σ H' => ∃ (u : V) (v2 v3 v4 : Option V), σ = [some (.ref a), some u, v2, v3, v4] ∧ Ex H H' ∧ Dp K H' u (TL (allT (L.take i))))
      ⟨.ref p0, none, none, none, rfl, e2, .lst (sq_of upd_same) (.cons (dp_tI (ns := []) (st_of ((Ex.new hp0) _ _ upd_same))) .nil)⟩ (fun i σ H' _ ⟨_, _, _, _, _, e, _⟩ => ex_l e hS) ?_ ?_⟩
    · rintro i y σ H' hi ⟨u, v2, v3, v4, rfl, e, du⟩
      obtain ⟨d, hd1, hd2⟩ := dpAll_get hA hi
      obtain ⟨c, hc, rfl⟩ := get_map hd1
      obtain ⟨ac, rfl, hac⟩ := dp_lI_inv hd2
      obtain ⟨au, us, rfl, hus, hua⟩ := dp_lst du
      have hi2 : i < L.length := (List.getElem?_eq_some_iff.mp hc).1
      have hcl : c.length ≤ 6 := h6 c (List.mem_of_getElem? hc)
      have htl : (allT (L.take i)).length ≤ 6 := allT_len1 (by rw [List.length_take]; omega) fun c hc => h6 c (List.mem_of_mem_take hc)
      have hfl : ∀ f ∈ allT (L.take i), f.length ≤ 1 := allT_mem1 (by rw [List.length_take]; omega)
      generalize hts : allT (L.take i) = ts at hua htl hfl
      have hul : us.length = ts.length := by rw [dpAll_len hua, List.length_map]
      refine ⟨_, rfl, au, rfl, ⟨_, hus⟩, fun Dl hDl => ?_⟩
      refine loop_it (walk_list (xs := us)) (fun j Hx => Ex H' (Kd Dl Hx) ∧ ∃ acc, Hx Dl = some (.lst acc) ∧ DpAll K (Kd Dl Hx) acc ((ext1 (ts.take j) c).map tI))
        ⟨by rw [kd_upd]; exact kd_of hDl (Ex.refl _), [], upd_same, .nil⟩ (fun j Hx _ p => ex_l (p.1.trans kd_ex) hus) ?_ ?_
      · rintro j f Hx Hx' hj ⟨ex, acc, ha, hac2⟩ ⟨rfl, hf⟩
        obtain ⟨df, hdf1, hdf2⟩ := dpAll_get hua hf
        obtain ⟨fs, hfs, rfl⟩ := get_map hdf1
        obtain ⟨af, rfl, haf⟩ := dp_tI_inv hdf2
        have hfs1 := hfl fs (List.mem_of_getElem? hfs)
        refine ⟨rfl, iteT (B := False) ?_⟩
        have haccl := dpAll_len hac2
        rw [List.length_map, ext1_len, List.length_take] at haccl
        have hj6 : min j ts.length * c.length ≤ 6 * 6 := Nat.mul_le_mul (by omega) hcl
        have hts2 : ts.take (j + 1) = ts.take j ++ [fs] := take_snoc hfs
        refine ⟨_, rfl, ac, rfl, ⟨_, ex_l (e.trans (ex.trans kd_ex)) hac⟩, ?_⟩
        refine loop_it (walk_list (xs := c.map V.int)) (fun k Hy => Ex H' (Kd Dl Hy) ∧ ∃ acc, Hy Dl = some (.lst acc) ∧ DpAll K (Kd Dl Hy) acc ((ext1 (ts.take j) c ++ (c.take k).map fun i => fs ++ [i]).map tI))
          ⟨ex, acc, ha, by rw [List.take_zero, List.map_nil, List.append_nil]; exact hac2⟩ (fun k Hy _ p => ex_l (e.trans (p.1.trans kd_ex)) hac) ?_ ?_
        · rintro k z Hy0 Hy hk ⟨ey, acc2, ha2, hac3⟩ ⟨rfl, hz⟩
          obtain ⟨zi, hzi, rfl⟩ := get_map hz
          refine ⟨rfl, iteT (B := False) ?_⟩
          have hl3 := dpAll_len hac3
          rw [List.length_map, List.length_append, List.length_map, List.length_take, ext1_len, List.length_take] at hl3
          have hlt : acc2.length < sizeLine := Nat.lt_of_le_of_lt (show acc2.length ≤ 1000 by omega) (by decide)
          have hafH : SqT K (Kd Dl Hy) af (fs.map V.int) := ex_t ey haf
          have next : ∀ (q : Addr) (H4 : Hp), Ex Hy H4 → SqT K (Kd Dl H4) q ((fs ++ [zi]).map V.int) → ∃ acc, H4 Dl = some (.lst acc) ∧ acc.length < sizeLine ∧ (Ex H' (Kd Dl (upd H4 Dl (.lst (acc ++ [.ref q])))) ∧ ∃ acc', (upd H4 Dl (.lst (acc ++ [.ref q]))) Dl = some (.lst acc') ∧
              DpAll K (Kd Dl (upd H4 Dl (.lst (acc ++ [.ref q])))) acc' ((ext1 (ts.take j) c ++ (c.take (k + 1)).map fun i => fs ++ [i]).map tI)) := by
            intro q H4 e4 hq
            refine ⟨acc2, e4 _ _ ha2, hlt, by rw [kd_upd]; exact ey.trans (kd_mono e4), acc2 ++ [.ref q], upd_same, ?_⟩
            have el : (ext1 (ts.take j) c ++ (c.take (k + 1)).map fun i => fs ++ [i]).map tI = (ext1 (ts.take j) c ++ (c.take k).map fun i => fs ++ [i]).map tI ++ [tI (fs ++ [zi])] := by
              rw [take_snoc hzi]
              simp only [List.map_append, List.append_assoc, List.map_cons, List.map_nil]
            rw [kd_upd, el]
            exact dpAll_snoc (dpAll_mono (kd_mono e4) _ _ hac3) (dp_tI hq)
          refine ⟨_, rfl, _, rfl, by show 1 ≤ sizeLine; decide, fun p hp => ?_⟩
          have npD : p ≠ Dl := (ne_of_none ha2 hp).symm
          refine ⟨af, p, fs.map V.int, [.int zi], rfl, rfl, ex_t ((Ex.trans kd_ex (Ex.new hp))) hafH, st_of upd_same, ?_, fun e0 => ?_, fun _ e0 => (List.cons_ne_nil _ _ e0).elim, fun _ _ p2 hp2 => ?_⟩
          · rw [List.length_map, List.length_singleton]
            exact Nat.le_trans (show fs.length + 1 ≤ 1000 by omega) (by decide)
          · have e0 : fs = [] := List.map_eq_nil_iff.mp e0
            subst e0
            exact next p _ (Ex.new hp) (st_of (by rw [kd_ne npD]; exact upd_same))
          · have np2 : p2 ≠ Dl := fun z => by
              rw [z, upd_ne npD.symm, ha2] at hp2
              cases hp2
            refine next p2 _ ((Ex.new hp).trans (Ex.new hp2)) (st_of ?_)
            rw [kd_ne np2, ← ints_app]
            exact upd_same
        · rintro Hy ⟨ey, acc2, ha2, hac3⟩
          refine ⟨ey, acc2, ha2, ?_⟩
          rw [List.length_map, take_all, ← ext1_snoc, ← hts2] at hac3
          exact hac3
      · rintro Hx ⟨ex, acc, ha, hac2⟩
        refine ⟨.ref Dl, _, _, _, rfl, e.trans (ex.trans kd_ex), ?_⟩
        rw [hul, take_all, ← hts, ← allT_snoc, ← take_snoc hc] at hac2
        exact .lst (sq_of ha) (dpAll_mono kd_ex _ _ hac2)
    · rintro σ H' ⟨u, v2, v3, v4, rfl, e, du⟩
      have hcl := dpAll_len hA
      rw [List.length_map] at hcl
      rw [hcl, take_all] at du
      exact ⟨_, rfl, q u H' e du⟩
end
end SP

set_option Elab.async false
set_option maxRecDepth 100000
set_option maxHeartbeats 1000000
namespace SP
open PySem PySem.Spec PyProof.Rows L2 Evl

/-! ### schemas: what they are -/
def rng (n : Int) : List Int := (List.range n.toNat).map fun i : Nat => (i : Int)
theorem rng_V (n : Int) : rgV 0 n = (rng n).map V.int := by
  unfold rgV rng
  rw [List.map_map, Int.sub_zero]
  refine List.map_congr_left fun i _ => ?_
  show V.int (0 + (i : Int)) = V.int (i : Int)
  rw [Int.zero_add]
theorem rng_len (n : Int) : (rng n).length = n.toNat := by
  unfold rng
  rw [List.length_map, List.length_range]
def cellsM (n w : Int) : List (List Int) := if w = 1 then (rng n).map (fun i => [i]) else ext1 ((rng n).map fun i => [i]) (rng n)
theorem allT_one (c : List Int) : allT [c] = c.map fun i => [i] := by
  show ext1 [[]] c = _
  unfold ext1
  rw [List.flatMap_cons, List.flatMap_nil, List.append_nil]
  rfl
theorem allT_rep {n w : Int} (h : w = 1 ∨ w = 2) : allT (List.replicate w.toNat (rng n)) = cellsM n w := by
  rcases h with h | h
  · subst h
    exact allT_one _
  · subst h
    show allT ([rng n] ++ [rng n]) = _
    rw [allT_snoc, allT_one]
    rfl
structure SchOk (n : Int) (ws : List Int) : Prop where
  n2 : 2 ≤ n
  n6 : n ≤ 6
  l1 : 1 ≤ ws.length
  l4 : ws.length ≤ 4
  w12 : ∀ w ∈ ws, w = 1 ∨ w = 2
def schF (n : Int) (w : V) : List (Str × V) := [("size", .int n), ("widths", w)]
theorem ne_sw : ¬ (("size" : Str) = "widths") := by decide +kernel
theorem schF_put (n : Int) (w : V) : putF "widths" w (putF "size" (.int n) []) = schF n w := by
  show (if ("size" : Str) = "widths" then _ else _) = _
  rw [if_neg ne_sw]
  rfl
theorem schF_size (n : Int) (w : V) : (schF n w).lookup ("size" : Str) = some (.int n) := by
  rw [← schF_put, lookup_putF, if_neg ne_sw, lookup_putF, if_pos rfl]
theorem schF_widths (n : Int) (w : V) : (schF n w).lookup ("widths" : Str) = some w := by
  rw [← schF_put, lookup_putF, if_pos rfl]
def IsSch (K : PySem.W.Frag) (CS : Addr) (H : Hp) (v : V) (n : Int) (ws : List Int) : Prop :=
  ∃ (s dx w : Addr), v = .ref s ∧ H s = some (.ins CS dx (schF n (.ref w))) ∧ SqT K H w (ws.map V.int) ∧ SchOk n ws
theorem sch_ex {K : PySem.W.Frag} {CS : Addr} {H H' : Hp} {v : V} {n : Int} {ws : List Int} (e : Ex H H') (h : IsSch K CS H v n ws) : IsSch K CS H' v n ws := by
  obtain ⟨s, dx, w, h1, h2, h3, h4⟩ := h
  exact ⟨s, dx, w, h1, e _ _ h2, ex_t e h3, h4⟩
theorem ty_ins {K : PySem.W.Frag} {H : Hp} {a C dx : Addr} {fs : List (Str × V)} (i : C8.InsC K C) (h : H a = some (.ins C dx fs)) : TyX K H (.ref a) (.ref C) := .base (.ins h i.cl i.ha i.hn i.htk i.hm)

section
variable {P : Program} {w : World} {K : PySem.W.Frag} {mg : Str → Option Value} {base : Heap} {CS CD : Addr}
def spAreW (K : PySem.W.Frag) : Sp := fun vs H Q _ => ∃ (a : Addr) (n : Int) (ws : List Int), vs = [.ref a] ∧ SqT K H a (ws.map V.int) ∧ SchOk n ws ∧ RetV (.bl true) H Q
theorem c_areW (T : Txt K mg CS CD) (D : Dn K mg "_are_widths" (top 26)) (c3 : C8.Cal P w K mg base 3 "are_between" (spAre K) []) : C8.Cal P w K mg base 4 "_are_widths" (spAreW K) [] := by
  refine cal_of (N := ["widths"]) (ps := ["widths"]) D (by decide +kernel) (fun _ _ _ _ _ _ us hl => match us, hl with | [_], _ => rfl) (fun vs H Q E h => ?_) (fun qf cdv A outer s H vs Q E hr h => ?_)
  · obtain ⟨a, n, ws, rfl, _⟩ := h
    rfl
  · obtain ⟨a, n, ws, rfl, hS, ok, q⟩ := h
    obtain ⟨t4, g4⟩ := T.cMT
    obtain ⟨t2, g2⟩ := T.cMW
    refine ⟨_, pss_one (ps_ret (pe_and (pe_callB call_isi (by rfl) T.isi (by decide +kernel) (pa_cons (pv 0) (pa_cons (pe_bltn (v := .ty "tuple") (by rfl) T.tuple_ (by decide +kernel) rfl) pa_nil)))
      (pe_and (pe_chain op_le op_le pe_int (pe_callB call_len_seq (by rfl) T.len_ PySem.boot_len (pa_cons (pv 0) pa_nil)) (pe_glob (v := .int 4) rfl g4 ⟨_, rfl⟩))
      (pe_one (C8.pe_c c3 hr (by decide) (by rfl) (pa_cons (pv 0) (pa_cons pe_int (pa_cons (pe_glob (v := .int 2) rfl g2 ⟨_, rfl⟩) pa_nil)))))))), ?_⟩
    refine ⟨_, rfl, _, _, _, _, true, rfl, .ty _, ty_tup hS, kit_ty (by decide +kernel), true, rfl, iteT ?_⟩
    have l1 := ok.l1
    have l4 := ok.l4
    refine ⟨_, rfl, a, _, rfl, .inr hS, _, _, rfl, rfl, true, ?_, iteT ⟨_, _, rfl, rfl, true, ?_, iteT ?_⟩⟩
    · show V.bl (decide ((1 : Int) ≤ ((ws.map V.int).length : Nat))) = V.bl true
      rw [List.length_map, decide_eq_true (by omega)]
    · show V.bl (decide ((((ws.map V.int).length : Nat) : Int) ≤ 4)) = V.bl true
      rw [List.length_map, decide_eq_true (by omega)]
    · refine ⟨_, rfl, false, a, ws, 1, 2, rfl, hS, by omega, fun H1 e1 => ?_⟩
      have e : (ws.all fun i => decide ((1 : Int) ≤ i ∧ i ≤ 2)) = true := by
        rw [List.all_eq_true]
        intro x hx
        have := ok.w12 x hx
        exact decide_eq_true (by omega)
      rw [e]
      exact q H1 e1

def spSchInit (K : PySem.W.Frag) (CS : Addr) : Sp := fun vs H Q _ => ∃ (H0 : Hp) (s dx a : Addr) (n : Int) (ws : List Int), vs = [.ref s, .int n, .ref a] ∧ Ex H0 H ∧ H0 s = none ∧ H s = some (.ins CS dx []) ∧ SqT K H0 a (ws.map V.int) ∧ SchOk n ws ∧
  ∀ H', Ex H0 H' → H' s = some (.ins CS dx (schF n (.ref a))) → Q .non H'
theorem c_schInit (T : Txt K mg CS CD) (D : Mn K CS "__init__" "Schema.__init__" (inClass (top 20) 0)) (c2 : C8.Cal P w K mg base 2 "is_between" spBetween []) (c4 : C8.Cal P w K mg base 4 "_are_widths" (spAreW K) []) : C8.Mak P w K mg base 5 "Schema" CS (spSchInit K CS) [] := by
  refine mak_of (N := ["self", "size", "widths"]) (ps := ["self", "size", "widths"]) T.mkS T.kcS T.mS D (by decide +kernel) (fun _ _ _ _ _ _ us hl => match us, hl with | [_, _, _], _ => rfl) (fun vs H Q E h => ?_) (fun qf cdv A outer s H vs Q E hr h => ?_)
  · obtain ⟨H0, s, dx, a, n, ws, rfl, _⟩ := h
    rfl
  · obtain ⟨H0, s, dx, a, n, ws, rfl, e0, s0, hs, hS, ok, q⟩ := h
    obtain ⟨t2, g2⟩ := T.cLS
    obtain ⟨t6, g6⟩ := T.cMS
    refine ⟨_, pss_cons (ps_if (pt_not (pt_val (C8.pe_c c2 hr (by decide) (by rfl) (pa_cons (pv 1) (pa_cons (pe_glob (v := .int 2) rfl g2 ⟨_, rfl⟩) (pa_cons (pe_glob (v := .int 6) rfl g6 ⟨_, rfl⟩) pa_nil)))))) pss_never pss_nil)
      (pss_cons (ps_if (pt_not (pt_val (C8.pe_c c4 hr (by decide) (by rfl) (pa_cons (pv 2) pa_nil)))) pss_never pss_nil)
      (pss_cons (ps_fld (pv 0) (pv 1) rfl) (pss_one (ps_fld (pv 0) (pv 2) rfl)))), ?_⟩
    have n2 := ok.n2
    have n6 := ok.n6
    refine ⟨_, rfl, n, 2, 6, rfl, fun H1 e1 => ⟨true, ?_, ?_⟩⟩
    · rw [decide_eq_true ⟨n2, n6⟩]
    · refine iteF ?_
      refine ⟨_, rfl, a, n, ws, rfl, ex_t (e0.trans e1) hS, ok, fun H2 e2 => ⟨true, rfl, iteF ?_⟩⟩
      have hs2 : H2 s = some (.ins CS dx []) := e2 _ _ (e1 _ _ hs)
      refine ⟨_, rfl, _, rfl, s, CS, dx, [], rfl, hs2, T.iS.cl, T.nSs, by show 0 < 1000; decide, ?_⟩
      refine ⟨_, rfl, _, rfl, s, CS, dx, _, rfl, upd_same, T.iS.cl, T.nSw, by show 1 < 1000; decide, ?_⟩
      refine q _ (((e0.trans e1).trans e2).mut s0 |>.mut s0) ?_
      rw [upd_same, schF_put]

def spSchEq (K : PySem.W.Frag) (CS : Addr) : Sp := fun vs H Q _ => ∃ (x y : V) (n m : Int) (ws us : List Int), vs = [x, y] ∧ IsSch K CS H x n ws ∧ IsSch K CS H y m us ∧ RetV (.bl (decide (n = m ∧ ws = us))) H Q
theorem c_schEq (T : Txt K mg CS CD) (D : Mn K CS "__eq__" "Schema.__eq__" (inClass (top 20) 1)) : C8.Met P w K mg base 1 CS "__eq__" (spSchEq K CS) [] := by
  refine met_of (N := ["self", "other"]) (ps := ["self", "other"]) T.iS.cl D (by decide +kernel) (fun _ _ _ _ _ _ us hl => match us, hl with | [_, _], _ => rfl) (fun vs H Q E h => ?_) (fun qf cdv A outer s H vs Q E hr h => ?_)
  · obtain ⟨x, y, n, m, ws, us, rfl, _⟩ := h
    rfl
  · obtain ⟨x, y, n, m, ws, us, rfl, ⟨s1, dx1, w1, rfl, hs1, hw1, ok1⟩, ⟨s2, dx2, w2, rfl, hs2, hw2, ok2⟩, q⟩ := h
    refine ⟨_, pss_one (ps_ret (pe_and (pe_callB call_isi (by rfl) T.isi (by decide +kernel) (pa_cons (pv 1) (pa_cons (pe_glob (v := .ref CS) rfl T.mS rfl) pa_nil)))
      (pe_and (pe_cmpR op_eq (pe_fld (pv 0) rfl) (pe_fld (pv 1) rfl) (nomark _)) (pe_one (pe_cmpR (op_eqD hr.units) (pe_fld (pv 0) rfl) (pe_fld (pv 1) rfl) (nomark _)))))), ?_⟩
    refine ⟨_, rfl, _, _, _, _, true, rfl, .own CS, ty_ins T.iS hs2, T.iS.me, true, rfl, iteT ?_⟩
    refine ⟨_, rfl, s1, CS, dx1, _, _, rfl, hs1, T.iS.cl, T.nSs, schF_size _ _, _, rfl, s2, CS, dx2, _, _, rfl, hs2, T.iS.cl, T.nSs, schF_size _ _, rfl, decide (n = m), by rw [dec_int], ?_⟩
    refine ite2 (fun a => ?_) (fun a => ?_)
    · have a := of_decide_eq_true a
      refine ⟨_, rfl, s1, CS, dx1, _, _, rfl, hs1, T.iS.cl, T.nSw, schF_widths _ _, _, rfl, s2, CS, dx2, _, _, rfl, hs2, T.iS.cl, T.nSw, schF_widths _ _, ?_⟩
      refine eqD_of (Cod.tup Cod.int) (by decide) (dp_tI hw1) (dp_tI hw2) ?_
      have e : decide (ws = us) = decide (n = m ∧ ws = us) := by simp [a]
      show Q (.bl (decide (ws = us))) H
      rw [e]
      exact q H (Ex.refl H)
    · have a : ¬ n = m := fun z => a (decide_eq_true z)
      have e : false = decide (n = m ∧ ws = us) := by simp [a]
      show Q (.bl false) H
      rw [e]
      exact q H (Ex.refl H)

def spSchLen (K : PySem.W.Frag) (CS : Addr) : Sp := fun vs H Q _ => ∃ (x : V) (n : Int) (ws : List Int), vs = [x] ∧ IsSch K CS H x n ws ∧ RetV (.int ws.length) H Q
theorem c_schLen (T : Txt K mg CS CD) (D : Mn K CS "__len__" "Schema.__len__" (inClass (top 20) 2)) : C8.Met P w K mg base 1 CS "__len__" (spSchLen K CS) [] := by
  refine met_of (N := ["self"]) (ps := ["self"]) T.iS.cl D (by decide +kernel) (fun _ _ _ _ _ _ us hl => match us, hl with | [_], _ => rfl) (fun vs H Q E h => ?_) (fun qf cdv A outer s H vs Q E hr h => ?_)
  · obtain ⟨x, n, ws, rfl, _⟩ := h
    rfl
  · obtain ⟨x, n, ws, rfl, ⟨s1, dx1, w1, rfl, hs1, hw1, ok1⟩, q⟩ := h
    refine ⟨_, pss_one (ps_ret (pe_callB call_len_seq (by rfl) T.len_ PySem.boot_len (pa_cons (pe_fld (pv 0) rfl) pa_nil))), ?_⟩
    refine ⟨_, rfl, s1, CS, dx1, _, _, rfl, hs1, T.iS.cl, T.nSw, schF_widths _ _, w1, _, rfl, .inr hw1, ?_⟩
    show Q (.int ((ws.map V.int).length : Nat)) H
    rw [List.length_map]
    exact q H (Ex.refl H)

def spNeedT (K : PySem.W.Frag) (CS : Addr) : Sp := fun vs H Q _ => ∃ (x : V) (t n : Int) (ws : List Int), vs = [x, .int t] ∧ IsSch K CS H x n ws ∧ 0 ≤ t ∧ t < ws.length ∧ RetV .non H Q
theorem c_needT (T : Txt K mg CS CD) (D : Dn K mg "need_table" (top 23)) (c2 : C8.Cal P w K mg base 2 "is_between" spBetween []) (cl : C8.Met P w K mg base 1 CS "__len__" (spSchLen K CS) []) : C8.Cal P w K mg base 3 "need_table" (spNeedT K CS) [] := by
  refine cal_of (N := ["schema", "table"]) (ps := ["schema", "table"]) D (by decide +kernel) (fun _ _ _ _ _ _ us hl => match us, hl with | [_, _], _ => rfl) (fun vs H Q E h => ?_) (fun qf cdv A outer s H vs Q E hr h => ?_)
  · obtain ⟨x, t, n, ws, rfl, _⟩ := h
    rfl
  · obtain ⟨x, t, n, ws, rfl, hS, ht, ht2, q⟩ := h
    refine ⟨_, pss_one (ps_if (pt_not (pt_val (C8.pe_c c2 hr (by decide) (by rfl) (pa_cons (pv 1) (pa_cons pe_int (pa_cons (pe_op op_sub (pe_callB (call_lenM cl hr (by decide)) (by rfl) T.len_ PySem.boot_len (pa_cons (pv 0) pa_nil)) pe_int) pa_nil)))))) pss_never pss_nil), ?_⟩
    obtain ⟨s1, dx1, w1, rfl, hs1, hw1, ok1⟩ := id hS
    have l4 := ok1.l4
    refine ⟨_, rfl, _, rfl, s1, dx1, _, rfl, hs1, _, n, ws, rfl, hS, fun H1 e1 => ⟨_, rfl, ⟨by omega, by omega⟩, ?_⟩⟩
    refine ⟨_, _, rfl, rfl, t, 0, _, rfl, fun H2 e2 => ⟨true, ?_, iteF ?_⟩⟩
    · rw [decide_eq_true ⟨ht, by omega⟩]
    · exact q H2 (e1.trans e2)

def spCells (K : PySem.W.Frag) (CS : Addr) : Sp := fun vs H Q _ => ∃ (x : V) (t n z : Int) (ws : List Int), vs = [x, .int t] ∧ IsSch K CS H x n ws ∧ 0 ≤ t ∧ ws[t.toNat]? = some z ∧ RetD K (TL (cellsM n z)) H Q
theorem c_cells (T : Txt K mg CS CD) (D : Mn K CS "cells" "Schema.cells" (inClass (top 20) 3)) (cn : C8.Cal P w K mg base 3 "need_table" (spNeedT K CS) []) (ca : C8.Cal P w K mg base 1 "all_tuples" (spAllT K) []) : C8.Met P w K mg base 4 CS "cells" (spCells K CS) [] := by
  refine met_of (N := ["self", "table"]) (ps := ["self", "table"]) T.iS.cl D (by decide +kernel) (fun _ _ _ _ _ _ us hl => match us, hl with | [_, _], _ => rfl) (fun vs H Q E h => ?_) (fun qf cdv A outer s H vs Q E hr h => ?_)
  · obtain ⟨x, t, n, z, ws, rfl, _⟩ := h
    rfl
  · obtain ⟨x, t, n, z, ws, rfl, hS, ht, hz, q⟩ := h
    refine ⟨_, pss_cons (ps_expr (C8.pe_c cn hr (by decide) (by rfl) (pa_cons (pv 0) (pa_cons (pv 1) pa_nil))))
      (pss_one (ps_ret (C8.pe_c ca hr (by decide) (by rfl) (pa_cons (pe_op op_rep (pe_lst (pa_cons (pe_listRg rfl (by rfl) T.list_ (prg_1 (by rfl) T.range_ (pe_fld (pv 0) rfl))) pa_nil))
        (pe_ix ix_tup (pe_fld (pv 0) rfl) (pv 1) (fun _ _ => rfl))) pa_nil)))), ?_⟩
    have hlt := (List.getElem?_eq_some_iff.mp hz).1
    refine ⟨_, rfl, _, rfl, _, t, n, ws, rfl, hS, ht, by omega, fun H1 e1 => ?_⟩
    obtain ⟨s1, dx1, w1, rfl, hs1, hw1, ok1⟩ := sch_ex e1 hS
    have n2 := ok1.n2
    have n6 := ok1.n6
    have z12 := ok1.w12 z (List.mem_of_getElem? hz)
    refine ⟨_, rfl, s1, CS, dx1, _, _, rfl, hs1, T.iS.cl, T.nSs, schF_size _ _, n, rfl, RgOk.of_le (by decide) (by omega) (by decide) (by omega), fun p hp => ?_⟩
    refine ⟨by show 1 ≤ sizeLine; decide, fun p2 hp2 => ?_⟩
    have e3 := (Ex.new (o := .lst (rgV 0 n)) hp).trans (Ex.new (o := .lst [.ref p]) hp2)
    refine ⟨_, rfl, s1, CS, dx1, _, _, rfl, e3 _ _ hs1, T.iS.cl, T.nSw, schF_widths _ _, _, rfl, w1, _, _, _, rfl, rfl, ex_t e3 hw1, at_of (j := t.toNat) (by omega) (by rw [List.getElem?_map, hz]; rfl), ?_⟩
    refine ⟨p2, z, [.ref p], rfl, rfl, upd_same, by omega, by omega, ?_, fun p3 hp3 => ?_⟩
    · show 1 * z.toNat ≤ sizeLine
      exact Nat.le_trans (show 1 * z.toNat ≤ 2 by omega) (by decide)
    · have e4 := e3.trans (Ex.new (o := .lst (List.replicate z.toNat [V.ref p]).flatten) hp3)
      refine ⟨_, List.replicate z.toNat (rng n), rfl, ?_, by rw [List.length_replicate]; omega, fun c hc => ?_, ?_⟩
      · have ef : (List.replicate z.toNat [V.ref p]).flatten = List.replicate z.toNat (V.ref p) := by
          rcases z12 with z1 | z2
          · subst z1
            rfl
          · subst z2
            rfl
        rw [ef, List.map_replicate]
        refine .lst (sq_of upd_same) (dpAll_rep (.lst (xs := rgV 0 n) (sq_of ?_) ?_) _)
        · exact (Ex.new hp3) _ _ ((Ex.new hp2) _ _ upd_same)
        · rw [rng_V]
          exact dpAll_of_ints _
      · rw [(List.mem_replicate.mp hc).2, rng_len]
        omega
      · rw [allT_rep z12]
        exact fun v H5 e5 d5 => q v H5 ((e1.trans e4).trans e5) d5
end
end SP

set_option Elab.async false
set_option maxRecDepth 100000
set_option maxHeartbeats 1000000
namespace SP
open PySem PySem.Spec PyProof.Rows L2 Evl

/-! ### data: what they are -/
abbrev TT (tss : List (List Int)) : PyData := .tuple (tss.map tI)
def datF (s t : V) : List (Str × V) := [("schema", s), ("tables", t)]
theorem ne_st : ¬ (("schema" : Str) = "tables") := by decide +kernel
theorem datF_put (s t : V) : putF "tables" t (putF "schema" s []) = datF s t := by
  show (if ("schema" : Str) = "tables" then _ else _) = _
  rw [if_neg ne_st]
  rfl
theorem datF_schema (s t : V) : (datF s t).lookup ("schema" : Str) = some s := by
  rw [← datF_put, lookup_putF, if_neg ne_st, lookup_putF, if_pos rfl]
theorem datF_tables (s t : V) : (datF s t).lookup ("tables" : Str) = some t := by
  rw [← datF_put, lookup_putF, if_pos rfl]
theorem datF_no (s t : V) {m : Str} (h1 : ¬ m = "schema") (h2 : ¬ m = "tables") : (datF s t).lookup m = none := by
  rw [← datF_put, lookup_putF, if_neg h2, lookup_putF, if_neg h1]
  rfl
theorem schF_no (n : Int) (t : V) {m : Str} (h1 : ¬ m = "size") (h2 : ¬ m = "widths") : (schF n t).lookup m = none := by
  rw [← schF_put, lookup_putF, if_neg h2, lookup_putF, if_neg h1]
  rfl
structure DatOk (n : Int) (ws : List Int) (tss : List (List Int)) : Prop where
  len : tss.length = ws.length
  cnt : ∀ (i : Nat) (z : Int) (ns : List Int), ws[i]? = some z → tss[i]? = some ns → ns.length = (cellsM n z).length ∧ ∀ x ∈ ns, 0 ≤ x ∧ x ≤ 9
def IsDat (K : PySem.W.Frag) (CS CD : Addr) (H : Hp) (v : V) (n : Int) (ws : List Int) (tss : List (List Int)) : Prop :=
  ∃ (d dx t : Addr) (sv : V), v = .ref d ∧ H d = some (.ins CD dx (datF sv (.ref t))) ∧ IsSch K CS H sv n ws ∧ Dp K H (.ref t) (TT tss) ∧ DatOk n ws tss
theorem dat_ex {K : PySem.W.Frag} {CS CD : Addr} {H H' : Hp} {v : V} {n : Int} {ws : List Int} {tss : List (List Int)} (e : Ex H H') (h : IsDat K CS CD H v n ws tss) : IsDat K CS CD H' v n ws tss := by
  obtain ⟨d, dx, t, sv, h1, h2, h3, h4, h5⟩ := h
  exact ⟨d, dx, t, sv, h1, e _ _ h2, sch_ex e h3, dp_mono e _ _ h4, h5⟩
/-- an instance stands in no data -/
theorem ex_ins {K : PySem.W.Frag} {H : Hp} {d C dx : Addr} {fs : List (Str × V)} {o : HO} (h : H d = some (.ins C dx fs)) : ∀ (x : PyData) (v : V), Dp K H v x → Dp K (upd H d o) v x := by
  have e : Ex (Kd d H) (upd H d o) := fun a u q => by
    by_cases r : a = d
    · rw [r, kd_self] at q
      cases q
    · rw [upd_ne r]
      rw [kd_ne r] at q
      exact q
  have l : ∀ a xs, SqL K H a xs → SqL K (Kd d H) a xs := fun a xs q => by
    rcases q with (q | ⟨u, q⟩) | q
    · refine .inl (.inl ?_)
      rw [kd_ne (ne_of q h (by intro z; cases z))]
      exact q
    · refine .inl (.inr ⟨u, ?_⟩)
      rw [kd_ne (ne_of q h (by intro z; cases z))]
      exact q
    · exact .inr q
  have t : ∀ a xs, SqT K H a xs → SqT K (Kd d H) a xs := fun a xs q => by
    rcases q with (q | ⟨u, q⟩) | q
    · refine .inl (.inl ?_)
      rw [kd_ne (ne_of q h (by intro z; cases z))]
      exact q
    · refine .inl (.inr ⟨u, ?_⟩)
      rw [kd_ne (ne_of q h (by intro z; cases z))]
      exact q
    · exact .inr q
  intro x v q
  refine dp_mono e x v ?_
  exact Dp.rec (motive_1 := fun v x _ => Dp K (Kd d H) v x) (motive_2 := fun vs ds _ => DpAll K (Kd d H) vs ds) .non .bl .int .str
    (fun q _ r => .lst (l _ _ q) r) (fun q _ r => .tup (t _ _ q) r) .nil (fun _ _ a b => .cons a b) q
/-- a list or tuple of lists or tuples of ints -/
def SeqD (K : PySem.W.Frag) (H : Hp) (v : V) (tss : List (List Int)) : Prop :=
  ∃ (a : Addr) (k : Bool) (us : List V), v = .ref a ∧ Sk k K H a us ∧ us.length = tss.length ∧ ∀ (i : Nat) u ns, us[i]? = some u → tss[i]? = some ns → ∃ (b : Addr) (k' : Bool), u = .ref b ∧ Sk k' K H b (ns.map V.int)
theorem seqD_ex {K : PySem.W.Frag} {H H' : Hp} {v : V} {tss : List (List Int)} (e : Ex H H') (h : SeqD K H v tss) : SeqD K H' v tss := by
  obtain ⟨a, k, us, h1, h2, h3, h4⟩ := h
  exact ⟨a, k, us, h1, sk_ex e h2, h3, fun i u ns a1 a2 => let ⟨b, k', b1, b2⟩ := h4 i u ns a1 a2; ⟨b, k', b1, sk_ex e b2⟩⟩
theorem cellsM_len {n z : Int} (n6 : n ≤ 6) (z12 : z = 1 ∨ z = 2) : (cellsM n z).length ≤ 36 := by
  have h := rng_len n
  rcases z12 with e | e
  · subst e
    show ((rng n).map _).length ≤ 36
    rw [List.length_map, h]
    omega
  · subst e
    show (ext1 _ _).length ≤ 36
    rw [ext1_len, List.length_map, h]
    have : n.toNat ≤ 6 := by omega
    exact Nat.mul_le_mul this this

section
variable {P : Program} {w : World} {K : PySem.W.Frag} {mg : Str → Option Value} {base : Heap} {CS CD : Addr}
def spNeedS (K : PySem.W.Frag) (CS : Addr) : Sp := fun vs H Q _ => ∃ (x : V) (n : Int) (ws : List Int), vs = [x] ∧ IsSch K CS H x n ws ∧ RetV .non H Q
theorem c_needS (T : Txt K mg CS CD) (D : Dn K mg "need_schema" (top 22)) : C8.Cal P w K mg base 1 "need_schema" (spNeedS K CS) [] := by
  refine cal_of (N := ["schema"]) (ps := ["schema"]) D (by decide +kernel) (fun _ _ _ _ _ _ us hl => match us, hl with | [_], _ => rfl) (fun vs H Q E h => ?_) (fun qf cdv A outer s H vs Q E hr h => ?_)
  · obtain ⟨x, n, ws, rfl, _⟩ := h
    rfl
  · obtain ⟨x, n, ws, rfl, ⟨s1, dx1, w1, rfl, hs1, hw1, ok1⟩, q⟩ := h
    refine ⟨_, pss_one (ps_if (pt_not (pt_val (pe_callB call_isi (by rfl) T.isi (by decide +kernel) (pa_cons (pv 0) (pa_cons (pe_glob (v := .ref CS) rfl T.mS rfl) pa_nil))))) pss_never pss_nil), ?_⟩
    exact ⟨_, rfl, _, _, _, _, true, rfl, .own CS, ty_ins T.iS hs1, T.iS.me, true, rfl, iteF (q H (Ex.refl H))⟩

def spAreC (K : PySem.W.Frag) (CS : Addr) : Sp := fun vs H Q _ => ∃ (x : V) (t n z : Int) (ws ns : List Int) (a : Addr) (k : Bool), vs = [x, .int t, .ref a] ∧ IsSch K CS H x n ws ∧ 0 ≤ t ∧ ws[t.toNat]? = some z ∧ Sk k K H a (ns.map V.int) ∧ ns.length = (cellsM n z).length ∧ (∀ x ∈ ns, 0 ≤ x ∧ x ≤ 9) ∧ RetV (.bl true) H Q
theorem c_areC (T : Txt K mg CS CD) (D : Dn K mg "_are_counts" (top 27)) (c1 : C8.Cal P w K mg base 1 "is_sequence" (spIsSeq K) []) (c3 : C8.Cal P w K mg base 3 "are_between" (spAre K) []) (cc : C8.Met P w K mg base 4 CS "cells" (spCells K CS) []) :
    C8.Cal P w K mg base 5 "_are_counts" (spAreC K CS) [] := by
  refine cal_of (N := ["schema", "table", "counts", "many"]) (ps := ["schema", "table", "counts"]) D (by decide +kernel) (fun _ _ _ _ _ _ us hl => match us, hl with | [_, _, _], _ => rfl) (fun vs H Q E h => ?_) (fun qf cdv A outer s H vs Q E hr h => ?_)
  · obtain ⟨x, t, n, z, ws, ns, a, k, rfl, _⟩ := h
    rfl
  · obtain ⟨x, t, n, z, ws, ns, a, k, rfl, hS, ht, hz, hk, hl, h9, q⟩ := h
    have nd : (["schema", "table", "counts", "many"] : List Str).Nodup := by decide +kernel
    obtain ⟨t9, g9⟩ := T.cMC
    refine ⟨_, pss_cons (ps_set (i := 3) nd rfl (Or.inl rfl) (pe_callB call_len_seq (by rfl) T.len_ PySem.boot_len (pa_cons (C8.pe_mt cc hr (by decide) (pv 0) (pa_cons (pv 1) pa_nil)) pa_nil)))
      (pss_one (ps_ret (pe_and (C8.pe_c c1 hr (by decide) (by rfl) (pa_cons (pv 2) pa_nil)) (pe_and (pe_cmpR op_eq (pe_callB call_len_seq (by rfl) T.len_ PySem.boot_len (pa_cons (pv 2) pa_nil)) (pv 3) (nomark _))
        (pe_one (C8.pe_c c3 hr (by decide) (by rfl) (pa_cons (pv 2) (pa_cons pe_int (pa_cons (pe_glob (v := .int 9) rfl g9 ⟨_, rfl⟩) pa_nil))))))))), ?_⟩
    obtain ⟨s1, dx1, w1, rfl, hs1, hw1, ok1⟩ := id hS
    refine ⟨_, rfl, s1, dx1, _, rfl, hs1, schF_no _ _ (by decide +kernel) (by decide +kernel), _, rfl, _, t, n, z, ws, rfl, hS, ht, hz, fun v H1 e1 d1 => ?_⟩
    obtain ⟨b, xs, rfl, hb, hbA⟩ := dp_lst d1
    have hbl := dpAll_len hbA
    rw [List.length_map] at hbl
    refine ⟨b, xs, rfl, .inl hb, ?_⟩
    refine ⟨_, rfl, k, a, _, rfl, sk_ex e1 hk, fun H2 e2 => ⟨true, rfl, iteT ?_⟩⟩
    have hk2 := sk_ex (e1.trans e2) hk
    refine ⟨_, rfl, a, ns.map V.int, rfl, ?_, _, rfl, rfl, true, ?_, iteT ?_⟩
    · cases k with
      | true => exact .inl hk2
      | false => exact .inr hk2
    · rw [dec_int, List.length_map, decide_eq_true (by omega)]
    · have z12 := ok1.w12 z (List.mem_of_getElem? hz)
      refine ⟨_, rfl, k, a, ns, 0, 9, rfl, hk2, Nat.le_trans (by rw [hl]; exact cellsM_len ok1.n6 z12) (by decide), fun H3 e3 => ?_⟩
      have e : (ns.all fun i => decide ((0 : Int) ≤ i ∧ i ≤ 9)) = true := by
        rw [List.all_eq_true]
        exact fun x hx => decide_eq_true (h9 x hx)
      rw [e]
      exact q H3 ((e1.trans e2).trans e3)
end
end SP

set_option Elab.async false
set_option maxRecDepth 100000
set_option maxHeartbeats 1000000
namespace SP
open PySem PySem.Spec PyProof.Rows L2 Evl
def rTupO (K : PySem.W.Frag) : List V → Hp → VK → Prop := fun xs H Q => ∃ p ys, xs = [V.ref p] ∧ ((SqL K H p ys ∧ ∀ l, H l = none → Q (.ref l) (upd H l (.tup ys))) ∨ (SqT K H p ys ∧ Q (.ref p) H))
theorem call_tupO {X : Cx} : CallR X (.type "tuple") (rTupO X.K) := call_tuple_of
section
variable {P : Program} {w : World} {K : PySem.W.Frag} {mg : Str → Option Value} {base : Heap} {CS CD : Addr}
def spDatInit (K : PySem.W.Frag) (CS CD : Addr) : Sp := fun vs H Q _ => ∃ (H0 : Hp) (d dx : Addr) (sv tv : V) (n : Int) (ws : List Int) (tss : List (List Int)), vs = [.ref d, sv, tv] ∧ Ex H0 H ∧ H0 d = none ∧ H d = some (.ins CD dx []) ∧ IsSch K CS H0 sv n ws ∧ SeqD K H0 tv tss ∧ DatOk n ws tss ∧
  ∀ H', Ex H0 H' → IsDat K CS CD H' (.ref d) n ws tss → Q .non H'
theorem c_datInit (T : Txt K mg CS CD) (D : Mn K CD "__init__" "Data.__init__" (inClass (top 21) 0)) (cS : C8.Cal P w K mg base 1 "need_schema" (spNeedS K CS) []) (c1 : C8.Cal P w K mg base 1 "is_sequence" (spIsSeq K) [])
    (c5 : C8.Cal P w K mg base 5 "_are_counts" (spAreC K CS) []) (cl : C8.Met P w K mg base 1 CS "__len__" (spSchLen K CS) []) : C8.Mak P w K mg base 6 "Data" CD (spDatInit K CS CD) [] := by
  refine mak_of (N := ["self", "schema", "tables", "table", "counts"]) (ps := ["self", "schema", "tables"]) T.mkD T.kcD T.mD D (by decide +kernel) (fun _ _ _ _ _ _ us hl => match us, hl with | [_, _, _], _ => rfl) (fun vs H Q E h => ?_) (fun qf cdv A outer s H vs Q E hr h => ?_)
  · obtain ⟨H0, d, dx, sv, tv, n, ws, tss, rfl, _⟩ := h
    rfl
  · obtain ⟨H0, d, dx, sv, tv, n, ws, tss, rfl, e0, d0, hd, hS, hT, ok, q⟩ := h
    have nd : (["self", "schema", "tables", "table", "counts"] : List Str).Nodup := by decide +kernel
    obtain ⟨a, k, us, rfl, hk, hul, hin⟩ := id hT
    obtain ⟨s1, dx1, w1, rfl, hs1, hw1, ok1⟩ := id hS
    refine ⟨_, pss_cons (ps_expr (C8.pe_c cS hr (by decide) (by rfl) (pa_cons (pv 1) pa_nil)))
      (pss_cons (ps_if (PW.pt (pw_or (pt_not (pt_val (C8.pe_c c1 hr (by decide) (by rfl) (pa_cons (pv 2) pa_nil)))) (pw_or1 (pt_cmpR op_ne (pe_callB call_len_seq (by rfl) T.len_ PySem.boot_len (pa_cons (pv 2) pa_nil))
        (pe_callB (call_lenM cl hr (by decide)) (by rfl) T.len_ PySem.boot_len (pa_cons (pv 1) pa_nil)) (nomark _))))) pss_never pss_nil)
      (pss_cons (ps_for PassesOwn.never rfl (pi_enumK (by rfl) T.enum_ (pa_cons (pv 2) pa_nil)) (pg_tup rfl (pgs_cons (pg_name (i := 3) nd rfl (Or.inl rfl)) (pgs_cons (pg_name (i := 4) nd rfl (Or.inl rfl)) pgs_nil)))
        (pss_one (ps_if (pt_not (pt_val (C8.pe_c c5 hr (by decide) (by rfl) (pa_cons (pv 1) (pa_cons (pv 3) (pa_cons (pv 4) pa_nil)))))) pss_never pss_nil)))
      (pss_cons (ps_fld (pv 0) (pv 1) rfl)
      (pss_one (ps_fld (pv 0) (pe_callTy call_tuple_of (by rfl) T.tuple_ (by decide +kernel) (pa_cons (pe_lc (own := [("counts", 4)]) (g := gName 4) (tt := tYes) (te := tCB (rTupO K) (tCons (tVar 4) tNil)) rfl nd (pi_sk k (pv 2))
        (blkOk_by (N := ["self", "schema", "tables", "table", "counts"]) (sc := C8.fnScope (inClass (top 21) 0)) (by decide +kernel)) (fun _ _ _ _ _ => pg_name (i := 4) nd rfl (Or.inl rfl)) (fun _ _ _ _ _ => pts_nil)
        (fun _ _ _ _ _ => pe_callTy (T := "tuple") call_tupO (by rfl) T.tuple_ (by decide +kernel) (pa_cons (pv 4) pa_nil))) pa_nil)) rfl))))), ?_⟩
    refine ⟨_, rfl, _, n, ws, rfl, sch_ex e0 hS, fun H1 e1 => ?_⟩
    have l4 := ok1.l4
    refine ⟨_, rfl, k, a, us, rfl, sk_ex (e0.trans e1) hk, fun H2 e2 => ⟨true, rfl, iteF ?_⟩⟩
    have e02 := (e0.trans e1).trans e2
    have hk2 := sk_ex e02 hk
    refine ⟨_, rfl, a, us, rfl, ?_, ?_⟩
    · cases k with
      | true => exact .inl hk2
      | false => exact .inr hk2
    · refine ⟨_, rfl, s1, dx1, _, rfl, e02 _ _ hs1, _, n, ws, rfl, sch_ex e02 hS, fun H3 e3 => ⟨_, rfl, ⟨by omega, by omega⟩, ?_⟩⟩
      have e03 := e02.trans e3
      refine ⟨rfl, false, ?_, iteF ?_⟩
      · show V.bl (!decide (V.int (us.length : Nat) = V.int (ws.length : Nat))) = V.bl false
        rw [dec_int, decide_eq_true (by rw [hul, ok.len])]
        rfl
      · have hd3 : H3 d = some (.ins CD dx []) := e3 _ _ (e2 _ _ (e1 _ _ hd))
        refine ⟨_, rfl, k, a, us, rfl, sk_ex e03 hk, ?_⟩
        refine for_it walk_enumK (fun i σ H' => (∃ v3 v4, σ = [some (.ref d), some (.ref s1), some (.ref a), v3, v4]) ∧ Ex H3 H') ⟨⟨none, none, rfl⟩, Ex.refl _⟩ (fun i σ H' _ p => sk_ex (e03.trans p.2) hk) ?_ ?_
        · rintro i x σ H4 H4' hi ⟨⟨v3, v4, rfl⟩, e4⟩ ⟨Tp, x1, x2, rfl, hTp, rfl, h1, h2⟩
          cases h1
          obtain ⟨z, hz⟩ : ∃ z, ws[i]? = some z := ⟨ws[i]'(by rw [← ok.len, ← hul]; exact hi), List.getElem?_eq_getElem _⟩
          obtain ⟨ns, hns⟩ : ∃ ns, tss[i]? = some ns := ⟨tss[i]'(by rw [← hul]; exact hi), List.getElem?_eq_getElem _⟩
          obtain ⟨b, k', rfl, hb⟩ := hin i x2 ns h2 hns
          have e5 := e4.trans (Ex.new (o := .tup [.int (i : Nat), .ref b]) hTp)
          refine ⟨Tp, [.int (i : Nat), .ref b], rfl, st_of upd_same, rfl, _, _, rfl, _, _, rfl, rfl, ?_⟩
          obtain ⟨c1', c2'⟩ := ok.cnt i z ns hz hns
          refine ⟨_, rfl, _, rfl, _, rfl, _, (i : Int), n, z, ws, ns, b, k', rfl, sch_ex (e03.trans e5) hS, by omega, by rw [Int.toNat_natCast]; exact hz, sk_ex (e03.trans e5) hb, c1', c2', fun H6 e6 => ⟨true, rfl, iteF ?_⟩⟩
          exact ⟨⟨_, _, rfl⟩, e5.trans e6⟩
        · rintro σ H4 ⟨⟨v3, v4, rfl⟩, e4⟩
          have hd4 := e4 _ _ hd3
          have e04 := e03.trans e4
          refine ⟨_, rfl, _, rfl, d, CD, dx, [], rfl, hd4, T.iD.cl, T.nDs, by show 0 < 1000; decide, ?_⟩
          have e05 : Ex H0 (upd H4 d (.ins CD dx (putF "schema" (.ref s1) []))) := e04.mut d0
          refine ⟨_, rfl, a, rfl, ⟨_, sk_ex e05 hk⟩, fun D hD => ?_⟩
          refine lc_dp (K := K) (walk_sk (xs := us)) hD (fun i => (tss.take i).map tI) rfl (fun i hi => ?_) (fun H' e => sk_ex (e05.trans e) hk) ?_ ?_
          · rw [List.length_map, List.length_take]
            exact Nat.lt_of_le_of_lt (show min i tss.length ≤ 1000 by have := ok.len; omega) (by decide)
          · rintro i x H6 H6' Q' Qn hi' e6 ⟨acc, ha⟩ ⟨rfl, hx⟩ k1 k2
            obtain ⟨ns, hns⟩ : ∃ ns, tss[i]? = some ns := ⟨tss[i]'(by rw [← hul]; exact hi'), List.getElem?_eq_getElem _⟩
            obtain ⟨b, k', rfl, hb⟩ := hin i x ns hx hns
            have hbK : Sk k' K (Kd D H6') b (ns.map V.int) := sk_ex (e05.trans e6) hb
            have et : (tss.take (i + 1)).map tI = (tss.take i).map tI ++ [tI ns] := by rw [take_snoc hns, List.map_append]; rfl
            refine ⟨rfl, iteT (B := False) ⟨_, rfl, b, ns.map V.int, rfl, ?_⟩⟩
            cases k' with
            | true =>
              refine .inl ⟨ex_l kd_ex hbK, fun l hl => k1 _ _ _ (Ex.new hl) (dp_tI (st_of ?_)) et⟩
              rw [kd_ne (ne_of_none ha hl).symm]
              exact upd_same
            | false => exact .inr ⟨ex_t kd_ex hbK, k1 _ _ _ (Ex.refl _) (dp_tI hbK) et⟩
          · rintro H6 e6 _ ⟨xs, hx, hdA⟩
            rw [hul, take_all] at hdA
            refine ⟨D, xs, rfl, .inl ⟨SqL.of hx, fun l hl => ?_⟩⟩
            have hd6 : H6 d = some (.ins CD dx (putF "schema" (.ref s1) [])) := e6 _ _ upd_same
            have hd7 : (upd H6 l (.tup xs)) d = some (.ins CD dx (putF "schema" (.ref s1) [])) := (Ex.new hl) _ _ hd6
            refine ⟨_, rfl, d, CD, dx, _, rfl, hd7, T.iD.cl, T.nDt, by show 1 < 1000; decide, ?_⟩
            have e07 : Ex H0 (upd H6 l (.tup xs)) := (e05.trans e6).trans (Ex.new hl)
            have hl7 : Dp K (upd H6 l (.tup xs)) (.ref l) (TT tss) := .tup (st_of upd_same) (dpAll_mono (kd_ex.trans (Ex.new hl)) _ _ hdA)
            refine q _ (e07.mut d0) ⟨d, dx, l, .ref s1, rfl, by rw [upd_same, datF_put], sch_ex (e07.mut d0) hS, ex_ins hd7 _ _ hl7, ok⟩
end
end SP

set_option Elab.async false
set_option maxRecDepth 100000
set_option maxHeartbeats 1000000
namespace SP
open PySem PySem.Spec PyProof.Rows L2 Evl
section
variable {P : Program} {w : World} {K : PySem.W.Frag} {mg : Str → Option Value} {base : Heap} {CS CD : Addr}
def spDatEq (K : PySem.W.Frag) (CS CD : Addr) : Sp := fun vs H Q _ => ∃ (x y : V) (n m : Int) (ws us : List Int) (tss uss : List (List Int)), vs = [x, y] ∧ IsDat K CS CD H x n ws tss ∧ IsDat K CS CD H y m us uss ∧ RetV (.bl (decide ((n = m ∧ ws = us) ∧ tss = uss))) H Q
theorem c_datEq (T : Txt K mg CS CD) (D : Mn K CD "__eq__" "Data.__eq__" (inClass (top 21) 1)) (ce : C8.Met P w K mg base 1 CS "__eq__" (spSchEq K CS) []) : C8.Met P w K mg base 2 CD "__eq__" (spDatEq K CS CD) [] := by
  refine met_of (N := ["self", "other"]) (ps := ["self", "other"]) T.iD.cl D (by decide +kernel) (fun _ _ _ _ _ _ us hl => match us, hl with | [_, _], _ => rfl) (fun vs H Q E h => ?_) (fun qf cdv A outer s H vs Q E hr h => ?_)
  · obtain ⟨x, y, n, m, ws, us, tss, uss, rfl, _⟩ := h
    rfl
  · obtain ⟨x, y, n, m, ws, us, tss, uss, rfl, ⟨d1, dx1, t1, sv1, rfl, hd1, hS1, hT1, ok1⟩, ⟨d2, dx2, t2, sv2, rfl, hd2, hS2, hT2, ok2⟩, q⟩ := h
    refine ⟨_, pss_one (ps_ret (pe_and (pe_callB call_isi (by rfl) T.isi (by decide +kernel) (pa_cons (pv 1) (pa_cons (pe_glob (v := .ref CD) rfl T.mD rfl) pa_nil)))
      (pe_and (pe_cmpR (op_eqM ce hr (by decide)) (pe_fld (pv 0) rfl) (pe_fld (pv 1) rfl) (nomark _)) (pe_one (pe_cmpR (op_eqD hr.units) (pe_fld (pv 0) rfl) (pe_fld (pv 1) rfl) (nomark _)))))), ?_⟩
    refine ⟨_, rfl, _, _, _, _, true, rfl, .own CD, ty_ins T.iD hd2, T.iD.me, true, rfl, iteT ?_⟩
    obtain ⟨s1, dz1, w1, rfl, hs1, hw1, _⟩ := id hS1
    obtain ⟨s2, dz2, w2, rfl, hs2, hw2, _⟩ := id hS2
    refine ⟨_, rfl, d1, CD, dx1, _, _, rfl, hd1, T.iD.cl, T.nDs, datF_schema _ _, _, rfl, d2, CD, dx2, _, _, rfl, hd2, T.iD.cl, T.nDs, datF_schema _ _, ?_⟩
    refine ⟨s1, s2, dz1, _, dz2, _, rfl, rfl, hs1, hs2, _, _, n, m, ws, us, rfl, hS1, hS2, fun H1 e1 => ⟨_, rfl, _, rfl, ?_⟩⟩
    refine ite2 (fun a => ?_) (fun a => ?_)
    · have a := of_decide_eq_true a
      refine ⟨_, rfl, d1, CD, dx1, _, _, rfl, e1 _ _ hd1, T.iD.cl, T.nDt, datF_tables _ _, _, rfl, d2, CD, dx2, _, _, rfl, e1 _ _ hd2, T.iD.cl, T.nDt, datF_tables _ _, ?_⟩
      refine eqD_of (Cod.tup (Cod.tup Cod.int)) (by decide) (dp_mono e1 _ _ hT1) (dp_mono e1 _ _ hT2) ?_
      have e : decide (tss = uss) = decide ((n = m ∧ ws = us) ∧ tss = uss) := by simp [a]
      show Q (.bl (decide (tss = uss))) H1
      rw [e]
      exact q H1 e1
    · have a : ¬ (n = m ∧ ws = us) := fun z => a (decide_eq_true z)
      have e : false = decide ((n = m ∧ ws = us) ∧ tss = uss) := by simp [a]
      show Q (.bl false) H1
      rw [e]
      exact q H1 e1

def spDatLen (K : PySem.W.Frag) (CS CD : Addr) : Sp := fun vs H Q _ => ∃ (x : V) (n : Int) (ws : List Int) (tss : List (List Int)), vs = [x] ∧ IsDat K CS CD H x n ws tss ∧ RetV (.int ws.length) H Q
theorem c_datLen (T : Txt K mg CS CD) (D : Mn K CD "__len__" "Data.__len__" (inClass (top 21) 2)) : C8.Met P w K mg base 1 CD "__len__" (spDatLen K CS CD) [] := by
  refine met_of (N := ["self"]) (ps := ["self"]) T.iD.cl D (by decide +kernel) (fun _ _ _ _ _ _ us hl => match us, hl with | [_], _ => rfl) (fun vs H Q E h => ?_) (fun qf cdv A outer s H vs Q E hr h => ?_)
  · obtain ⟨x, n, ws, tss, rfl, _⟩ := h
    rfl
  · obtain ⟨x, n, ws, tss, rfl, ⟨d1, dx1, t1, sv1, rfl, hd1, hS1, hT1, ok1⟩, q⟩ := h
    refine ⟨_, pss_one (ps_ret (pe_callB call_len_seq (by rfl) T.len_ PySem.boot_len (pa_cons (pe_fld (pv 0) rfl) pa_nil))), ?_⟩
    obtain ⟨a, xs, ea, hx, hA⟩ := dp_tup hT1
    cases ea
    have hl := dpAll_len hA
    rw [List.length_map] at hl
    refine ⟨_, rfl, d1, CD, dx1, _, _, rfl, hd1, T.iD.cl, T.nDt, datF_tables _ _, t1, _, rfl, .inr hx, ?_⟩
    show Q (.int (xs.length : Nat)) H
    rw [hl, ok1.len]
    exact q H (Ex.refl H)

/-- the table of a number -/
theorem tab_at {H : Hp} {t1 : Addr} {tss : List (List Int)} {t : Int} {ns : List Int} (hT : Dp K H (.ref t1) (TT tss)) (ht : 0 ≤ t) (hn : tss[t.toNat]? = some ns) :
    ∃ (xs : List V) (b : Addr), SqT K H t1 xs ∧ atI xs t = some (.ref b) ∧ SqT K H b (ns.map V.int) := by
  obtain ⟨a, xs, ea, hx, hA⟩ := dp_tup hT
  cases ea
  obtain ⟨v, hv, hd⟩ := dpAll_at hA (d := tI ns) (by rw [List.getElem?_map, hn]; rfl)
  obtain ⟨b, rfl, hb⟩ := dp_tI_inv hd
  exact ⟨xs, b, hx, at_of (j := t.toNat) (by omega) hv, hb⟩

def spRows (K : PySem.W.Frag) (CS CD : Addr) : Sp := fun vs H Q _ => ∃ (x : V) (t n : Int) (ws ns : List Int) (tss : List (List Int)), vs = [x, .int t] ∧ IsDat K CS CD H x n ws tss ∧ 0 ≤ t ∧ tss[t.toNat]? = some ns ∧ RetV (.int ns.sum) H Q
theorem c_rows (T : Txt K mg CS CD) (D : Mn K CD "rows" "Data.rows" (inClass (top 21) 3)) (cn : C8.Cal P w K mg base 3 "need_table" (spNeedT K CS) []) : C8.Met P w K mg base 4 CD "rows" (spRows K CS CD) [] := by
  refine met_of (N := ["self", "table"]) (ps := ["self", "table"]) T.iD.cl D (by decide +kernel) (fun _ _ _ _ _ _ us hl => match us, hl with | [_, _], _ => rfl) (fun vs H Q E h => ?_) (fun qf cdv A outer s H vs Q E hr h => ?_)
  · obtain ⟨x, t, n, ws, ns, tss, rfl, _⟩ := h
    rfl
  · obtain ⟨x, t, n, ws, ns, tss, rfl, ⟨d1, dx1, t1, sv1, rfl, hd1, hS1, hT1, ok1⟩, ht, hn, q⟩ := h
    refine ⟨_, pss_cons (ps_expr (C8.pe_c cn hr (by decide) (by rfl) (pa_cons (pe_fld (pv 0) rfl) (pa_cons (pv 1) pa_nil))))
      (pss_one (ps_ret (pe_callB (cr_sumK rfl) (by rfl) T.sum_ (by decide +kernel) (pa_cons (pe_ix ix_tup (pe_fld (pv 0) rfl) (pv 1) (fun _ _ => rfl)) pa_nil)))), ?_⟩
    have hlt := (List.getElem?_eq_some_iff.mp hn).1
    have hl := ok1.len
    refine ⟨_, rfl, d1, CD, dx1, _, _, rfl, hd1, T.iD.cl, T.nDs, datF_schema _ _, _, rfl, _, t, n, ws, rfl, hS1, ht, by omega, fun H1 e1 => ?_⟩
    obtain ⟨xs, b, hx, hat, hb⟩ := tab_at (dp_mono e1 _ _ hT1) ht hn
    refine ⟨_, rfl, d1, CD, dx1, _, _, rfl, e1 _ _ hd1, T.iD.cl, T.nDt, datF_tables _ _, _, rfl, t1, xs, _, _, rfl, rfl, hx, hat, ?_⟩
    exact ⟨false, b, ns, rfl, hb, q H1 e1⟩

/-! cells -/
def placeM (n : Int) (cs : List Int) : Int := cs.foldl (fun p v => p * n + v) 0
def spPlace (K : PySem.W.Frag) : Sp := fun vs H Q _ => ∃ (a : Addr) (n : Int) (cs : List Int), vs = [.int n, .ref a] ∧ SqT K H a (cs.map V.int) ∧ 2 ≤ n ∧ n ≤ 6 ∧ RetV (.int (placeM n cs)) H Q
theorem c_place (D : Dn K mg "cell_place" (top 25)) : C8.Cal P w K mg base 1 "cell_place" (spPlace K) [] := by
  refine cal_of (N := ["size", "cell", "place", "value"]) (ps := ["size", "cell"]) D (by decide +kernel) (fun _ _ _ _ _ _ us hl => match us, hl with | [_, _], _ => rfl) (fun vs H Q E h => ?_) (fun qf cdv A outer s H vs Q E hr h => ?_)
  · obtain ⟨a, n, cs, rfl, _⟩ := h
    rfl
  · obtain ⟨a, n, cs, rfl, hS, n2, n6, q⟩ := h
    have nd : (["size", "cell", "place", "value"] : List Str).Nodup := by decide +kernel
    refine ⟨_, pss_cons (ps_set (i := 2) nd rfl (Or.inl rfl) pe_int) (pss_cons (ps_for PassesOwn.never rfl (pi_tup (pv 1)) (pg_name (i := 3) nd rfl (Or.inl rfl))
      (pss_one (ps_set (i := 2) nd rfl (Or.inl rfl) (pe_op op_add (pe_op op_mul (pv 2) (pv 0)) (pv 3))))) (pss_one (ps_ret (pv 2)))), ?_⟩
    refine ⟨_, rfl, a, rfl, ⟨_, hS⟩, ?_⟩
    refine for_it (walk_tup (xs := cs.map V.int)) (fun i σ H' => (∃ v3, σ = [some (.int n), some (.ref a), some (.int (placeM n (cs.take i))), v3]) ∧ H' = H) ⟨⟨none, rfl⟩, rfl⟩ (fun i σ H' _ p => by rw [p.2]; exact hS) ?_ ?_
    · rintro i x σ H1 H2 hi ⟨⟨v3, rfl⟩, rfl⟩ ⟨rfl, hx⟩
      obtain ⟨c, hc, rfl⟩ := get_map hx
      refine ⟨_, rfl, _, rfl, _, _, rfl, rfl, .inr ⟨by omega, by omega⟩, _, rfl, _, _, rfl, rfl, ⟨some (.int c), ?_⟩, rfl⟩
      rw [take_snoc hc]
      unfold placeM
      rw [List.foldl_append]
      rfl
    · rintro σ H1 ⟨⟨v3, rfl⟩, rfl⟩
      rw [List.length_map, take_all]
      exact ⟨_, rfl, q _ (Ex.refl _)⟩

def spIsCell (K : PySem.W.Frag) (CS : Addr) : Sp := fun vs H Q _ => ∃ (x : V) (t n z : Int) (ws cs : List Int) (a : Addr), vs = [x, .int t, .ref a] ∧ IsSch K CS H x n ws ∧ 0 ≤ t ∧ ws[t.toNat]? = some z ∧ SqT K H a (cs.map V.int) ∧ (cs.length : Int) = z ∧ (∀ c ∈ cs, 0 ≤ c ∧ c < n) ∧ RetV (.bl true) H Q
theorem c_isCell (T : Txt K mg CS CD) (D : Dn K mg "is_cell" (top 24)) (cg : C8.Cal P w K mg base 1 "is_group" (spIsGroup K) []) (c3 : C8.Cal P w K mg base 3 "are_between" (spAre K) []) : C8.Cal P w K mg base 4 "is_cell" (spIsCell K CS) [] := by
  refine cal_of (N := ["schema", "table", "cell"]) (ps := ["schema", "table", "cell"]) D (by decide +kernel) (fun _ _ _ _ _ _ us hl => match us, hl with | [_, _, _], _ => rfl) (fun vs H Q E h => ?_) (fun qf cdv A outer s H vs Q E hr h => ?_)
  · obtain ⟨x, t, n, z, ws, cs, a, rfl, _⟩ := h
    rfl
  · obtain ⟨x, t, n, z, ws, cs, a, rfl, hS, ht, hz, hc, hl, hn, q⟩ := h
    refine ⟨_, pss_one (ps_ret (pe_and (C8.pe_c cg hr (by decide) (by rfl) (pa_cons (pv 2) (pa_cons (pe_ix ix_tup (pe_fld (pv 0) rfl) (pv 1) (fun _ _ => rfl)) pa_nil)))
      (pe_one (C8.pe_c c3 hr (by decide) (by rfl) (pa_cons (pv 2) (pa_cons pe_int (pa_cons (pe_op op_sub (pe_fld (pv 0) rfl) pe_int) pa_nil))))))), ?_⟩
    obtain ⟨s1, dx1, w1, rfl, hs1, hw1, ok1⟩ := id hS
    have z12 := ok1.w12 z (List.mem_of_getElem? hz)
    refine ⟨_, rfl, _, rfl, s1, CS, dx1, _, _, rfl, hs1, T.iS.cl, T.nSw, schF_widths _ _, _, rfl, w1, _, _, _, rfl, rfl, hw1, at_of (j := t.toNat) (by omega) (by rw [List.getElem?_map, hz]; rfl), ?_⟩
    refine ⟨a, cs.map V.int, z, rfl, hc, fun H1 e1 => ⟨true, by rw [List.length_map, decide_eq_true hl], iteT ?_⟩⟩
    refine ⟨_, rfl, _, rfl, s1, CS, dx1, _, _, rfl, e1 _ _ hs1, T.iS.cl, T.nSs, schF_size _ _, _, _, rfl, rfl, ?_⟩
    refine ⟨false, a, cs, 0, _, rfl, ex_t e1 hc, by omega, fun H2 e2 => ?_⟩
    have e : (cs.all fun i => decide ((0 : Int) ≤ i ∧ i ≤ n - 1)) = true := by
      rw [List.all_eq_true]
      intro c hc
      have := hn c hc
      exact decide_eq_true (by omega)
    rw [e]
    exact q H2 (e1.trans e2)
end
end SP

set_option Elab.async false
set_option maxRecDepth 100000
set_option maxHeartbeats 1000000
namespace SP
open PySem PySem.Spec PyProof.Rows L2 Evl

theorem ext1_get {c : List Int} : ∀ {ts : List (List Int)} {j : Nat} {cs : List Int}, (ext1 ts c)[j]? = some cs → 0 < c.length ∧ ∃ f i, ts[j / c.length]? = some f ∧ c[j % c.length]? = some i ∧ cs = f ++ [i]
  | [], j, cs, h => by simp [ext1] at h
  | a :: r, j, cs, h => by
    have e : ext1 (a :: r) c = (c.map fun i => a ++ [i]) ++ ext1 r c := by
      unfold ext1
      rw [List.flatMap_cons]
    rw [e] at h
    by_cases hj : j < c.length
    · rw [List.getElem?_append_left (by rw [List.length_map]; exact hj)] at h
      obtain ⟨i, hi, rfl⟩ := get_map h
      refine ⟨by omega, a, i, ?_, ?_, rfl⟩
      · rw [Nat.div_eq_of_lt hj]
        rfl
      · rw [Nat.mod_eq_of_lt hj]
        exact hi
    · rw [List.getElem?_append_right (by rw [List.length_map]; omega), List.length_map] at h
      obtain ⟨h0, f, i, h1, h2, h3⟩ := ext1_get h
      refine ⟨h0, f, i, ?_, ?_, h3⟩
      · rw [Nat.div_eq_sub_div h0 (by omega)]
        simpa using h1
      · rw [Nat.mod_eq_sub_mod (by omega)]
        exact h2
theorem rng_get {n : Int} {j : Nat} {i : Int} (h : (rng n)[j]? = some i) : i = j ∧ (j : Int) < n := by
  unfold rng at h
  obtain ⟨m, hm, rfl⟩ := get_map h
  have hj := (List.getElem?_eq_some_iff.mp hm).1
  rw [List.length_range] at hj
  rw [List.getElem?_range hj] at hm
  exact ⟨by rw [Option.some.inj hm], by omega⟩
theorem cellsM_at {n z : Int} {j : Nat} {cs : List Int} (z12 : z = 1 ∨ z = 2) (h : (cellsM n z)[j]? = some cs) : (cs.length : Int) = z ∧ (∀ c ∈ cs, 0 ≤ c ∧ c < n) ∧ placeM n cs = j := by
  rcases z12 with e | e
  · subst e
    have h : ((rng n).map fun i => [i])[j]? = some cs := h
    obtain ⟨i, hi, rfl⟩ := get_map h
    obtain ⟨rfl, hn⟩ := rng_get hi
    refine ⟨rfl, fun c hc => ?_, ?_⟩
    · rw [List.mem_singleton.mp hc]
      omega
    · show 0 * n + (j : Int) = j
      omega
  · subst e
    have h : (ext1 ((rng n).map fun i => [i]) (rng n))[j]? = some cs := h
    obtain ⟨h0, f, i, h1, h2, rfl⟩ := ext1_get h
    obtain ⟨a, ha, rfl⟩ := get_map h1
    obtain ⟨rfl, hn1⟩ := rng_get ha
    obtain ⟨rfl, hn2⟩ := rng_get h2
    rw [rng_len] at hn1 hn2 h0 ⊢
    refine ⟨rfl, fun c hc => ?_, ?_⟩
    · have : c = ((j / n.toNat : Nat) : Int) ∨ c = ((j % n.toNat : Nat) : Int) := by simpa using hc
      rcases this with e | e <;> rw [e]
      · exact ⟨Int.natCast_nonneg _, hn1⟩
      · exact ⟨Int.natCast_nonneg _, hn2⟩
    · show (0 * n + ((j / n.toNat : Nat) : Int)) * n + ((j % n.toNat : Nat) : Int) = j
      have hd := Nat.div_add_mod j n.toNat
      have hn : n = (n.toNat : Int) := by omega
      rw [Int.zero_mul, Int.zero_add]
      generalize n.toNat = m at *
      subst hn
      rw [← Int.natCast_mul, ← Int.natCast_add, Nat.mul_comm]
      rw [hd]
abbrev pI (p : List Int × Int) : PyData := .tuple [tI p.1, .int p.2]
def fillM (cs : List (List Int)) (ns : List Int) : List (List Int × Int) := (cs.zip ns).filter fun p => decide (0 < p.2)

section
variable {P : Program} {w : World} {K : PySem.W.Frag} {mg : Str → Option Value} {base : Heap} {CS CD : Addr}
def spCountOf (K : PySem.W.Frag) (CS CD : Addr) : Sp := fun vs H Q _ => ∃ (x : V) (t n z y : Int) (ws ns cs : List Int) (tss : List (List Int)) (a : Addr) (j : Nat), vs = [x, .int t, .ref a] ∧ IsDat K CS CD H x n ws tss ∧ 0 ≤ t ∧ ws[t.toNat]? = some z ∧ tss[t.toNat]? = some ns ∧
  SqT K H a (cs.map V.int) ∧ (cellsM n z)[j]? = some cs ∧ ns[j]? = some y ∧ RetV (.int y) H Q
theorem c_countOf (T : Txt K mg CS CD) (D : Mn K CD "count_of" "Data.count_of" (inClass (top 21) 5)) (cn : C8.Cal P w K mg base 3 "need_table" (spNeedT K CS) []) (ci : C8.Cal P w K mg base 4 "is_cell" (spIsCell K CS) []) (cp : C8.Cal P w K mg base 1 "cell_place" (spPlace K) []) :
    C8.Met P w K mg base 5 CD "count_of" (spCountOf K CS CD) [] := by
  refine met_of (N := ["self", "table", "cell"]) (ps := ["self", "table", "cell"]) T.iD.cl D (by decide +kernel) (fun _ _ _ _ _ _ us hl => match us, hl with | [_, _, _], _ => rfl) (fun vs H Q E h => ?_) (fun qf cdv A outer s H vs Q E hr h => ?_)
  · obtain ⟨x, t, n, z, y, ws, ns, cs, tss, a, j, rfl, _⟩ := h
    rfl
  · obtain ⟨x, t, n, z, y, ws, ns, cs, tss, a, j, rfl, ⟨d1, dx1, t1, sv1, rfl, hd1, hS1, hT1, ok1⟩, ht, hz, hn, hc, hj, hy, q⟩ := h
    refine ⟨_, pss_cons (ps_expr (C8.pe_c cn hr (by decide) (by rfl) (pa_cons (pe_fld (pv 0) rfl) (pa_cons (pv 1) pa_nil))))
      (pss_cons (ps_if (pt_not (pt_val (C8.pe_c ci hr (by decide) (by rfl) (pa_cons (pe_fld (pv 0) rfl) (pa_cons (pv 1) (pa_cons (pv 2) pa_nil)))))) pss_never pss_nil)
      (pss_one (ps_ret (pe_ix ix_tup (pe_ix ix_tup (pe_fld (pv 0) rfl) (pv 1) (fun _ _ => rfl)) (C8.pe_c cp hr (by decide) (by rfl) (pa_cons (pe_fld (pe_fld (pv 0) rfl) rfl) (pa_cons (pv 2) pa_nil))) (fun _ _ => rfl))))), ?_⟩
    have hlt := (List.getElem?_eq_some_iff.mp hn).1
    have hl := ok1.len
    refine ⟨_, rfl, d1, CD, dx1, _, _, rfl, hd1, T.iD.cl, T.nDs, datF_schema _ _, _, rfl, _, t, n, ws, rfl, hS1, ht, by omega, fun H1 e1 => ?_⟩
    obtain ⟨s1, dz1, w1, rfl, hs1, hw1, ok2⟩ := id hS1
    obtain ⟨k1, k2, k3⟩ := cellsM_at (ok2.w12 z (List.mem_of_getElem? hz)) hj
    refine ⟨_, rfl, d1, CD, dx1, _, _, rfl, e1 _ _ hd1, T.iD.cl, T.nDs, datF_schema _ _, _, rfl, _, rfl, _, t, n, z, ws, cs, a, rfl, sch_ex e1 hS1, ht, hz, ex_t e1 hc, k1, k2, fun H2 e2 => ⟨true, rfl, iteF ?_⟩⟩
    have e12 := e1.trans e2
    obtain ⟨xs, b, hx, hat, hb⟩ := tab_at (dp_mono e12 _ _ hT1) ht hn
    refine ⟨_, rfl, d1, CD, dx1, _, _, rfl, e12 _ _ hd1, T.iD.cl, T.nDt, datF_tables _ _, _, rfl, t1, xs, _, _, rfl, rfl, hx, hat, ?_⟩
    refine ⟨_, rfl, d1, CD, dx1, _, _, rfl, e12 _ _ hd1, T.iD.cl, T.nDs, datF_schema _ _, s1, CS, dz1, _, _, rfl, e12 _ _ hs1, T.iS.cl, T.nSs, schF_size _ _, _, rfl, a, n, cs, rfl, ex_t e12 hc, ok2.n2, ok2.n6, fun H3 e3 => ?_⟩
    refine ⟨b, _, _, _, rfl, rfl, ex_t e3 hb, at_of (j := j) k3 (by rw [List.getElem?_map, hy]; rfl), ?_⟩
    exact q H3 (e12.trans e3)

def spFilled (K : PySem.W.Frag) (CS CD : Addr) : Sp := fun vs H Q _ => ∃ (x : V) (t n z : Int) (ws ns : List Int) (tss : List (List Int)), vs = [x, .int t] ∧ IsDat K CS CD H x n ws tss ∧ 0 ≤ t ∧ ws[t.toNat]? = some z ∧ tss[t.toNat]? = some ns ∧ RetD K (.list ((fillM (cellsM n z) ns).map pI)) H Q
theorem c_filled (T : Txt K mg CS CD) (D : Mn K CD "filled" "Data.filled" (inClass (top 21) 6)) (cn : C8.Cal P w K mg base 3 "need_table" (spNeedT K CS) []) (cc : C8.Met P w K mg base 4 CS "cells" (spCells K CS) []) : C8.Met P w K mg base 5 CD "filled" (spFilled K CS CD) [] := by
  refine met_of (N := ["self", "table", "cell", "count"]) (ps := ["self", "table"]) T.iD.cl D (by decide +kernel) (fun _ _ _ _ _ _ us hl => match us, hl with | [_, _], _ => rfl) (fun vs H Q E h => ?_) (fun qf cdv A outer s H vs Q E hr h => ?_)
  · obtain ⟨x, t, n, z, ws, ns, tss, rfl, _⟩ := h
    rfl
  · obtain ⟨x, t, n, z, ws, ns, tss, rfl, ⟨d1, dx1, t1, sv1, rfl, hd1, hS1, hT1, ok1⟩, ht, hz, hn, q⟩ := h
    have nd : (["self", "table", "cell", "count"] : List Str).Nodup := by decide +kernel
    refine ⟨_, pss_cons (ps_expr (C8.pe_c cn hr (by decide) (by rfl) (pa_cons (pe_fld (pv 0) rfl) (pa_cons (pv 1) pa_nil))))
      (pss_one (ps_ret (pe_lc (own := [("cell", 2), ("count", 3)]) (g := gTup K 2 (gCons (gName 2) (gCons (gName 3) gNil))) (tt := tTest (tOp (rI0 fun i j => .bl (decide (j < i))) (tVar 3) (tC (.int 0)))) (te := tTup (tCons (tVar 2) (tCons (tVar 3) tNil))) rfl nd
        (pi_zipK (by rfl) T.zip_ (pa_cons (C8.pe_mt cc hr (by decide) (pe_fld (pv 0) rfl) (pa_cons (pv 1) pa_nil)) (pa_cons (pe_ix ix_tup (pe_fld (pv 0) rfl) (pv 1) (fun _ _ => rfl)) pa_nil)))
        (blkOk_by (N := ["self", "table", "cell", "count"]) (sc := C8.fnScope (inClass (top 21) 6)) (by decide +kernel)) (fun _ _ _ _ _ => pg_tup rfl (pgs_cons (pg_name (i := 2) nd rfl (Or.inl rfl)) (pgs_cons (pg_name (i := 3) nd rfl (Or.inl rfl)) pgs_nil)))
        (fun _ _ _ _ _ => pts_one (pt_cmpR op_gt (pv 3) pe_int (nomark _))) (fun _ _ _ _ _ => pe_tup (pa_cons (pv 2) (pa_cons (pv 3) pa_nil)))))), ?_⟩
    have hlt := (List.getElem?_eq_some_iff.mp hn).1
    have hl := ok1.len
    refine ⟨_, rfl, d1, CD, dx1, _, _, rfl, hd1, T.iD.cl, T.nDs, datF_schema _ _, _, rfl, _, t, n, ws, rfl, hS1, ht, by omega, fun H1 e1 => ?_⟩
    obtain ⟨s1, dz1, w1, rfl, hs1, hw1, ok2⟩ := id hS1
    refine ⟨_, rfl, d1, CD, dx1, _, _, rfl, e1 _ _ hd1, T.iD.cl, T.nDs, datF_schema _ _, s1, dz1, _, rfl, e1 _ _ hs1, schF_no _ _ (by decide +kernel) (by decide +kernel), _, rfl, _, t, n, z, ws, rfl, sch_ex e1 hS1, ht, hz, fun v H2 e2 d2 => ?_⟩
    have e12 := e1.trans e2
    obtain ⟨xs, b, hx, hat, hb⟩ := tab_at (dp_mono e12 _ _ hT1) ht hn
    obtain ⟨ca, cs, rfl, hca, hcA⟩ := dp_lst d2
    have hcl := dpAll_len hcA
    rw [List.length_map] at hcl
    have hnl := (ok1.cnt _ z ns hz hn).1
    have z12 := ok2.w12 z (List.mem_of_getElem? hz)
    refine ⟨_, rfl, d1, CD, dx1, _, _, rfl, e12 _ _ hd1, T.iD.cl, T.nDt, datF_tables _ _, _, rfl, t1, xs, _, _, rfl, rfl, hx, hat, ?_⟩
    refine ⟨true, false, ca, b, cs, _, rfl, hca, hb, fun D hD => ?_⟩
    refine lc_dp (K := K) (walk_zipK (xs := cs) (ys := ns.map V.int) (by rw [List.length_map, hcl, hnl])) hD (fun i => ((((cellsM n z).zip ns).take i).filter fun p => decide (0 < p.2)).map pI) rfl (fun i hi => ?_) (fun H' e => ⟨ex_l e hca, ex_t e hb⟩) ?_ ?_
    · rw [List.length_map]
      refine Nat.lt_of_le_of_lt (Nat.le_trans (List.length_filter_le _ _) ?_) (show 1000 < sizeLine by decide)
      rw [List.length_take, List.length_zip]
      have := cellsM_len ok2.n6 z12
      omega
    · rintro i x H3 H3' Q' Qn hi' e3 ⟨acc, ha⟩ ⟨Tp, x1, x2, rfl, hTp, rfl, h1, h2⟩ k1 k2
      obtain ⟨dc, hdc, hdx⟩ := dpAll_get hcA h1
      obtain ⟨c, hc, rfl⟩ := get_map hdc
      obtain ⟨y, hy, rfl⟩ := get_map h2
      have hp : ((cellsM n z).zip ns)[i]? = some (c, y) := by rw [List.getElem?_zip_eq_some]; exact ⟨hc, hy⟩
      have eT := Ex.new (o := .tup [x1, .int y]) hTp
      refine ⟨Tp, [x1, .int y], rfl, st_of upd_same, rfl, _, _, rfl, _, _, rfl, rfl, rfl, ?_⟩
      refine ⟨_, rfl, _, _, rfl, rfl, decide (0 < y), rfl, ?_⟩
      refine ite2 (fun a => ?_) (fun a => ?_)
      · refine ⟨_, rfl, _, rfl, by show 2 ≤ sizeLine; decide, fun p hp2 => ?_⟩
        have nTD : Tp ≠ D := (ne_of_none ha hTp).symm
        have npD : p ≠ D := (ne_of_none (eT _ _ ha) hp2).symm
        refine k1 _ (pI (c, y)) _ (eT.trans (Ex.new hp2)) (.tup (st_of ?_) (.cons (dp_mono ?_ _ _ hdx) (.cons (.int y) .nil))) ?_
        · rw [kd_ne npD]
          exact upd_same
        · exact e3.trans (kd_mono (eT.trans (Ex.new hp2)))
        · rw [take_snoc hp, List.filter_append, List.map_append, List.filter_cons, if_pos (by exact a)]
          rfl
      · refine k2 _ eT ?_
        rw [take_snoc hp, List.filter_append, List.map_append, List.filter_cons, if_neg (by exact a)]
        exact List.append_nil _
    · rintro H3 e3 d3 _
      rw [List.take_of_length_le (by rw [List.length_zip]; omega)] at d3
      exact q _ _ (e12.trans e3) d3

def withM (fs : List (List Int × Int)) (c : Nat) (v : Int) : Int := ((fs.filter fun p => decide (p.1[c]? = some v)).map (·.2)).sum
theorem fillM_mem {cs : List (List Int)} {ns : List Int} {p : List Int × Int} (h : p ∈ fillM cs ns) : p.1 ∈ cs := by
  obtain ⟨c, y⟩ := p
  exact (List.of_mem_zip (List.mem_filter.mp h).1).1
def spWithV (K : PySem.W.Frag) (CS CD : Addr) : Sp := fun vs H Q _ => ∃ (x : V) (t n z col val : Int) (ws ns : List Int) (tss : List (List Int)), vs = [x, .int t, .int col, .int val] ∧ IsDat K CS CD H x n ws tss ∧ 0 ≤ t ∧ ws[t.toNat]? = some z ∧ tss[t.toNat]? = some ns ∧
  0 ≤ col ∧ col < z ∧ 0 ≤ val ∧ val < n ∧ RetV (.int (withM (fillM (cellsM n z) ns) col.toNat val)) H Q
theorem c_withV (T : Txt K mg CS CD) (D : Mn K CD "with_value" "Data.with_value" (inClass (top 21) 4)) (cn : C8.Cal P w K mg base 3 "need_table" (spNeedT K CS) []) (c2 : C8.Cal P w K mg base 2 "is_between" spBetween []) (cf : C8.Met P w K mg base 5 CD "filled" (spFilled K CS CD) []) :
    C8.Met P w K mg base 6 CD "with_value" (spWithV K CS CD) [] := by
  refine met_of (N := ["self", "table", "column", "value", "cell", "count"]) (ps := ["self", "table", "column", "value"]) T.iD.cl D (by decide +kernel) (fun _ _ _ _ _ _ us hl => match us, hl with | [_, _, _, _], _ => rfl) (fun vs H Q E h => ?_) (fun qf cdv A outer s H vs Q E hr h => ?_)
  · obtain ⟨x, t, n, z, col, val, ws, ns, tss, rfl, _⟩ := h
    rfl
  · obtain ⟨x, t, n, z, col, val, ws, ns, tss, rfl, hDat, ht, hz, hn, hc0, hcz, hv0, hvn, q⟩ := h
    obtain ⟨d1, dx1, t1, sv1, rfl, hd1, hS1, hT1, ok1⟩ := id hDat
    have nd : (["self", "table", "column", "value", "cell", "count"] : List Str).Nodup := by decide +kernel
    refine ⟨_, pss_cons (ps_expr (C8.pe_c cn hr (by decide) (by rfl) (pa_cons (pe_fld (pv 0) rfl) (pa_cons (pv 1) pa_nil))))
      (pss_cons (ps_if (pt_not (pt_val (C8.pe_c c2 hr (by decide) (by rfl) (pa_cons (pv 2) (pa_cons pe_int (pa_cons (pe_op op_sub (pe_ix ix_tup (pe_fld (pe_fld (pv 0) rfl) rfl) (pv 1) (fun _ _ => rfl)) pe_int) pa_nil)))))) pss_never pss_nil)
      (pss_cons (ps_if (pt_not (pt_val (C8.pe_c c2 hr (by decide) (by rfl) (pa_cons (pv 3) (pa_cons pe_int (pa_cons (pe_op op_sub (pe_fld (pe_fld (pv 0) rfl) rfl) pe_int) pa_nil)))))) pss_never pss_nil)
      (pss_one (ps_ret (pe_callB (cr_sumK rfl) (by rfl) T.sum_ (by decide +kernel) (pa_cons (pe_lc (own := [("cell", 4), ("count", 5)]) (g := gTup K 2 (gCons (gName 4) (gCons (gName 5) gNil))) (tt := tTest (tOp rEq (tOp (rIxT K) (tVar 4) (tVar 2)) (tVar 3))) (te := tVar 5) rfl nd
        (pi_list (C8.pe_mt cf hr (by decide) (pv 0) (pa_cons (pv 1) pa_nil)))
        (blkOk_by (N := ["self", "table", "column", "value", "cell", "count"]) (sc := C8.fnScope (inClass (top 21) 4)) (by decide +kernel)) (fun _ _ _ _ _ => pg_tup rfl (pgs_cons (pg_name (i := 4) nd rfl (Or.inl rfl)) (pgs_cons (pg_name (i := 5) nd rfl (Or.inl rfl)) pgs_nil)))
        (fun _ _ _ _ _ => pts_one (pt_cmpR op_eq (pe_ix ix_tup (pv 4) (pv 2) (fun _ _ => rfl)) (pv 3) (nomark _))) (fun _ _ _ _ _ => pv 5)) pa_nil)))))), ?_⟩
    have hlt := (List.getElem?_eq_some_iff.mp hn).1
    have hl := ok1.len
    refine ⟨_, rfl, d1, CD, dx1, _, _, rfl, hd1, T.iD.cl, T.nDs, datF_schema _ _, _, rfl, _, t, n, ws, rfl, hS1, ht, by omega, fun H1 e1 => ?_⟩
    obtain ⟨s1, dz1, w1, rfl, hs1, hw1, ok2⟩ := id hS1
    have z12 := ok2.w12 z (List.mem_of_getElem? hz)
    refine ⟨_, rfl, _, rfl, d1, CD, dx1, _, _, rfl, e1 _ _ hd1, T.iD.cl, T.nDs, datF_schema _ _, s1, CS, dz1, _, _, rfl, e1 _ _ hs1, T.iS.cl, T.nSw, schF_widths _ _, _, rfl, w1, _, _, _, rfl, rfl, ex_t e1 hw1, at_of (j := t.toNat) (by omega) (by rw [List.getElem?_map, hz]; rfl), _, _, rfl, rfl, ?_⟩
    refine ⟨col, 0, _, rfl, fun H2 e2 => ⟨true, by rw [decide_eq_true ⟨hc0, by omega⟩], iteF ?_⟩⟩
    have e12 := e1.trans e2
    refine ⟨_, rfl, _, rfl, d1, CD, dx1, _, _, rfl, e12 _ _ hd1, T.iD.cl, T.nDs, datF_schema _ _, s1, CS, dz1, _, _, rfl, e12 _ _ hs1, T.iS.cl, T.nSs, schF_size _ _, _, _, rfl, rfl, ?_⟩
    refine ⟨val, 0, _, rfl, fun H3 e3 => ⟨true, by rw [decide_eq_true ⟨hv0, by omega⟩], iteF ?_⟩⟩
    have e13 := e12.trans e3
    refine ⟨_, rfl, d1, dx1, _, rfl, e13 _ _ hd1, datF_no _ _ (by decide +kernel) (by decide +kernel), _, rfl, _, t, n, z, ws, ns, tss, rfl, dat_ex e13 hDat, ht, hz, hn, fun v H4 e4 d4 => ?_⟩
    obtain ⟨fa, fv, rfl, hfa, hfA⟩ := dp_lst d4
    have hfl := dpAll_len hfA
    rw [List.length_map] at hfl
    have hmem : ∀ p ∈ fillM (cellsM n z) ns, (p.1.length : Int) = z := fun p hp => by
      obtain ⟨j, hj⟩ := List.mem_iff_getElem?.mp (fillM_mem hp)
      exact (cellsM_at z12 hj).1
    have hfz : (fillM (cellsM n z) ns).length ≤ 36 := by
      refine Nat.le_trans (List.length_filter_le _ _) ?_
      rw [List.length_zip]
      have := cellsM_len ok2.n6 z12
      omega
    generalize hF : fillM (cellsM n z) ns = F at hfA hfl hmem hfz q
    refine ⟨fa, rfl, ⟨_, hfa⟩, fun D hD => ?_⟩
    refine lc_dp (K := K) (walk_list (xs := fv)) hD (fun i => (((F.take i).filter fun p => decide (p.1[col.toNat]? = some val)).map (·.2)).map PyData.int) rfl (fun i hi => ?_) (fun H' e => ex_l e hfa) ?_ ?_
    · rw [List.length_map, List.length_map]
      refine Nat.lt_of_le_of_lt (Nat.le_trans (List.length_filter_le _ _) ?_) (show 1000 < sizeLine by decide)
      rw [List.length_take]
      omega
    · rintro i x H5 H5' Q' Qn hi' e5 ⟨acc, ha⟩ ⟨rfl, hx⟩ k1 k2
      obtain ⟨dp, hdp, hdx⟩ := dpAll_get hfA hx
      obtain ⟨p, hp, rfl⟩ := get_map hdp
      obtain ⟨pa, px, rfl, hpa, hpA⟩ := dp_tup hdx
      cases hpA with
      | cons y1 r1 =>
        cases r1 with
        | cons y2 r2 =>
          cases r2
          cases y2
          obtain ⟨pc, rfl, hpc⟩ := dp_tI_inv y1
          have hlen := hmem p (List.mem_of_getElem? hp)
          obtain ⟨u, hu⟩ : ∃ u, p.1[col.toNat]? = some u := ⟨p.1[col.toNat]'(by omega), List.getElem?_eq_getElem _⟩
          have e5' := e5.trans kd_ex
          refine ⟨pa, _, rfl, ex_t e5' hpa, rfl, _, _, rfl, _, _, rfl, rfl, rfl, ?_⟩
          refine ⟨_, rfl, _, rfl, pc, _, col, _, rfl, rfl, ex_t e5' hpc, at_of (j := col.toNat) (by omega) (by rw [List.getElem?_map, hu]; rfl), _, rfl, rfl, decide (u = val), by rw [dec_int], ?_⟩
          refine ite2 (fun a => ?_) (fun a => ?_)
          · have a := of_decide_eq_true a
            refine ⟨_, rfl, k1 _ _ _ (Ex.refl _) (.int p.2) ?_⟩
            rw [take_snoc hp, List.filter_append, List.map_append, List.map_append, List.filter_cons, if_pos (by rw [hu, a]; exact decide_eq_true rfl)]
            rfl
          · have a : ¬ u = val := fun z => a (decide_eq_true z)
            refine k2 _ (Ex.refl _) ?_
            rw [take_snoc hp, List.filter_append, List.map_append, List.map_append, List.filter_cons, if_neg (by rw [hu]; simpa using a)]
            exact List.append_nil _
    · rintro H5 e5 _ ⟨xs, hxs, hxA⟩
      rw [hfl, take_all] at hxA
      have e := dpAll_ints hxA
      subst e
      exact ⟨true, D, _, rfl, SqL.of hxs, q _ ((e13.trans e4).trans e5)⟩
end
end SP

set_option Elab.async false
set_option maxRecDepth 100000
set_option maxHeartbeats 1000000
namespace SP
open PySem PySem.Spec PyProof.Rows L2 Evl

theorem cut63 {ns : List Int} (h : ns.length ≤ 63) : cutV (ns.map V.int) none (some 63) = ns.map V.int := by
  show ((ns.map V.int).drop (HT.sIx (ns.map V.int).length 0 none)).take (HT.sIx (ns.map V.int).length (ns.map V.int).length (some ((63 : Nat) : Int)) - HT.sIx (ns.map V.int).length 0 none) = ns.map V.int
  rw [HT.sIx_none, HT.sIx_nat, List.drop_zero, List.length_map, Nat.sub_zero, Nat.min_eq_right h]
  exact List.take_of_length_le (by rw [List.length_map]; exact Nat.le_refl _)
theorem fmod_at {i : Int} {ms : List Int} (h : ms ≠ []) : ∃ z, atI (ms.map V.int) (i.fmod (ms.length : Nat)) = some (.int z) := by
  have hl : 0 < ms.length := List.length_pos_iff.mpr h
  have h0 : 0 ≤ i.fmod (ms.length : Nat) := Int.fmod_nonneg_of_pos i (by omega)
  have h1 : i.fmod (ms.length : Nat) < (ms.length : Nat) := Int.fmod_lt_of_pos i (by omega)
  have hj : (i.fmod (ms.length : Nat)).toNat < ms.length := by omega
  exact ⟨_, at_of (j := (i.fmod (ms.length : Nat)).toNat) (by omega) (by rw [List.getElem?_map, List.getElem?_eq_getElem hj]; rfl)⟩

section
variable {P : Program} {w : World} {K : PySem.W.Frag} {mg : Str → Option Value} {base : Heap} {CS CD : Addr}
def spNum (K : PySem.W.Frag) : Sp := fun vs H Q _ => ∃ (a : Addr) (i : Int) (ns : List Int), vs = [.ref a, .int i] ∧ SqL K H a (ns.map V.int) ∧ ns.length ≤ 63 ∧ ∀ (r : Int) H', Ex H H' → Q (.int r) H'
theorem c_num (T : Txt K mg CS CD) (D : Dn K mg "_law_number" (top 29)) : C8.Cal P w K mg base 1 "_law_number" (spNum K) [] := by
  refine cal_of (N := ["script", "index", "cells", "cell", "low", "high", "total", "blend"]) (ps := ["script", "index"]) D (by decide +kernel) (fun _ _ _ _ _ _ us hl => match us, hl with | [_, _], _ => rfl) (fun vs H Q E h => ?_) (fun qf cdv A outer s H vs Q E hr h => ?_)
  · obtain ⟨a, i, ns, rfl, _⟩ := h
    rfl
  · obtain ⟨a, i, ns, rfl, hS, h63, q⟩ := h
    have nd : (["script", "index", "cells", "cell", "low", "high", "total", "blend"] : List Str).Nodup := by decide +kernel
    refine ⟨_, Evl.pss_cut (ps_set (i := 2) nd rfl (Or.inl rfl) (pe_ifExp (pt_cmpR (op_neD hr.units) (pv 0) (pe_lst pa_nil) (nomark _)) (pe_slice sl_list (pv 0) po_none (po_some pe_int)) (pe_lst (pa_cons pe_int pa_nil))))
      (pss_cons (ps_set (i := 3) nd rfl (Or.inl rfl) (pe_op op_add (pe_ix ix_list (pv 2) (pe_op op_modN (pe_callTy call_int1 (by rfl) T.int_ (by decide +kernel) (pa_cons (pv 1) pa_nil)) (pe_callB call_len_seq (by rfl) T.len_ PySem.boot_len (pa_cons (pv 2) pa_nil))) (fun _ _ => rfl))
        (pe_op op_mul pe_int (pe_op op_fdivN (pv 1) (pe_callB call_len_seq (by rfl) T.len_ PySem.boot_len (pa_cons (pv 2) pa_nil))))))
      (pss_cons (ps_par (i := 4) (j := 5) (by rfl) nd rfl rfl (by decide) rfl rfl (pa_cons (pe_op op_mod (pe_callTy call_int1 (by rfl) T.int_ (by decide +kernel) (pa_cons (pv 3) pa_nil)) pe_int)
        (pa_cons (pe_op op_mod (pe_callTy call_int1 (by rfl) T.int_ (by decide +kernel) (pa_cons (pe_op op_fdiv (pv 3) pe_int) pa_nil)) pe_int) pa_nil)) (by rfl))
      (pss_cons (ps_set (i := 6) nd rfl (Or.inl rfl) (pe_op op_mod (pe_callTy call_int1 (by rfl) T.int_ (by decide +kernel) (pa_cons (pe_callB (cr_sumK rfl) (by rfl) T.sum_ (by decide +kernel) (pa_cons (pv 2) pa_nil)) pa_nil)) pe_int))
      (pss_cons (ps_set (i := 7) nd rfl (Or.inl rfl) (pe_op op_mod (pe_callTy call_int1 (by rfl) T.int_ (by decide +kernel) (pa_cons (pe_op op_add (pe_op op_add (pe_op op_mul (pe_op op_add (pv 4) (pe_op op_mul pe_int (pv 1))) pe_int) (pe_op op_mul pe_int (pv 5))) (pv 6)) pa_nil)) pe_int))
      (pss_one (ps_ret (pe_op op_add (pe_op op_mul (pe_op op_mod (pe_callTy call_int1 (by rfl) T.int_ (by decide +kernel) (pa_cons (pe_op op_mul (pv 7) (pe_op op_add (pe_op op_add (pv 7) (pe_op op_mul pe_int (pv 1))) pe_int)) pa_nil)) pe_int) pe_int) (pv 5)))))))), ?_⟩
    refine ⟨fun σ' H' => ∃ (p : Addr) (ms : List Int), σ' = [some (.ref a), some (.int i), some (.ref p), none, none, none, none, none] ∧ ms ≠ [] ∧ ms.length ≤ 63 ∧ Ex H H' ∧ SqL K H' p (ms.map V.int), ?_, ?_⟩
    · refine ⟨_, rfl, Nat.zero_le _, fun p0 hp0 => ?_⟩
      have e0 := Ex.new (o := .lst []) hp0
      refine neD_of (α := List Int) (a := ns) (b := []) (Cod.lst Cod.int) (by decide) (.lst (ex_l e0 hS) (dpAll_of_ints ns)) (.lst (sq_of upd_same) .nil) ?_
      refine ⟨!decide (ns = []), rfl, ?_⟩
      by_cases hn : ns = []
      · rw [decide_eq_true hn]
        refine iteF ⟨by show 1 ≤ sizeLine; decide, fun p1 hp1 => ⟨p1, [5], rfl, by decide, by decide, e0.trans (Ex.new hp1), sq_of upd_same⟩⟩
      · rw [decide_eq_false hn]
        refine iteT ⟨_, rfl, 63, rfl, a, _, rfl, ex_l e0 hS, fun p1 hp1 => ⟨p1, ns, rfl, hn, h63, e0.trans (Ex.new hp1), ?_⟩⟩
        rw [cut63 h63]
        exact sq_of upd_same
    · rintro σ' H1 ⟨p, ms, rfl, hms, hm63, e1, hp⟩
      obtain ⟨z, hz⟩ := fmod_at (i := i) hms
      have hl0 : 0 < ms.length := List.length_pos_iff.mpr hms
      have hlz : (ms.map V.int).length = ms.length := List.length_map ..
      refine ⟨_, rfl, _, rfl, .inl ⟨i, rfl, _, rfl, p, _, rfl, .inl hp, ?_⟩⟩
      rw [hlz]
      refine ⟨_, _, rfl, rfl, by omega, p, _, _, _, rfl, rfl, hp, hz, ?_⟩
      refine ⟨_, rfl, _, rfl, p, _, rfl, .inl hp, ?_⟩
      rw [hlz]
      refine ⟨_, _, rfl, rfl, ⟨by omega, by omega⟩, _, _, rfl, rfl, .inl ⟨by decide, by decide⟩, _, _, rfl, rfl, ?_⟩
      refine ⟨_, rfl, .inl ⟨_, rfl, _, _, rfl, rfl, (by show (0 : Int) < 1000003; decide), ?_⟩⟩
      refine ⟨_, rfl, _, _, rfl, rfl, ⟨by decide, by decide⟩, .inl ⟨_, rfl, _, _, rfl, rfl, (by show (0 : Int) < 999983; decide), _, _, rfl, ?_⟩⟩
      refine ⟨_, rfl, true, p, ms, rfl, hp, .inl ⟨_, rfl, _, _, rfl, rfl, (by show (0 : Int) < 65521; decide), ?_⟩⟩
      refine ⟨_, rfl, _, rfl, _, _, rfl, rfl, .inl ⟨by decide, by decide⟩, _, _, rfl, rfl, _, _, rfl, rfl, .inr ⟨by decide, by decide⟩, ?_⟩
      refine ⟨_, rfl, _, _, rfl, rfl, .inl ⟨by decide, by decide⟩, _, _, rfl, rfl, _, rfl, _, _, rfl, rfl, .inl ⟨_, rfl, _, _, rfl, rfl, (by show (0 : Int) < 2147483647; decide), ?_⟩⟩
      generalize hB : (((z + 13 * i.fdiv ↑ms.length) % 1000003 + 977 * i) * 48271 + 31 * ((z + 13 * i.fdiv ↑ms.length) / 1000003 % 999983) + ms.sum % 65521) % 2147483647 = B
      have hB0 : 0 ≤ B := by rw [← hB]; exact Int.emod_nonneg _ (by decide)
      have hB1 : B < 2147483647 := by rw [← hB]; exact Int.emod_lt_of_pos _ (by decide)
      refine ⟨_, rfl, _, rfl, _, rfl, _, _, rfl, rfl, .inl ⟨by decide, by decide⟩, _, _, rfl, rfl, _, _, rfl, rfl, _, _, rfl, rfl, .inl ⟨by omega, by omega⟩, .inl ⟨_, rfl, _, _, rfl, rfl, (by show (0 : Int) < 2147483629; decide), ?_⟩⟩
      exact ⟨_, _, rfl, rfl, .inr ⟨by decide, by decide⟩, _, rfl, _, _, rfl, rfl, q _ _ e1⟩

/-! the draws: a list of the script and a number -/
def Drw (K : PySem.W.Frag) (d a : Addr) (ns : List Int) (H : Hp) : Prop := (∃ c : Int, H d = some (.lst [.ref a, .int c])) ∧ SqL K H a (ns.map V.int) ∧ ns.length ≤ 63
def ExD (d : Addr) (H H' : Hp) : Prop := ∀ b o, b ≠ d → H b = some o → H' b = some o
theorem ExD.refl (d : Addr) (H : Hp) : ExD d H H := fun _ _ _ h => h
theorem ExD.trans {d : Addr} {H H1 H2 : Hp} (a : ExD d H H1) (b : ExD d H1 H2) : ExD d H H2 := fun x o n h => b x o n (a x o n h)
theorem ExD.of {d : Addr} {H H' : Hp} (e : Ex H H') : ExD d H H' := fun x o _ h => e x o h
theorem ExD.upd {d : Addr} {H H' : Hp} {o : HO} (e : ExD d H H') : ExD d H (upd H' d o) := fun x u n h => by
  rw [upd_ne n]
  exact e x u n h
theorem ExD.kd {d : Addr} {H H' : Hp} (e : ExD d H H') : Ex (Kd d H) H' := fun x o h => by
  by_cases q : x = d
  · rw [q, kd_self] at h
    cases h
  · rw [kd_ne q] at h
    exact e x o q h
/-- a list or tuple of ints that stands beside the draws -/
theorem sk_kd {k : Bool} {H : Hp} {d a b : Addr} {c : Int} {ms : List Int} (hd : H d = some (.lst [.ref a, .int c])) (h : Sk k K H b (ms.map V.int)) : Sk k K (Kd d H) b (ms.map V.int) := by
  have no : ms.map V.int ≠ [.ref a, .int c] := fun e => by
    cases ms with
    | nil => cases e
    | cons m r => cases e
  cases k with
  | true =>
    rcases h with (h | ⟨o, h⟩) | h
    · refine .inl (.inl ?_)
      rw [kd_ne (ne_of h hd fun e => no (HO.lst.inj e))]
      exact h
    · refine .inl (.inr ⟨o, ?_⟩)
      rw [kd_ne (ne_of h hd (by intro z; cases z))]
      exact h
    · exact .inr h
  | false =>
    rcases h with (h | ⟨o, h⟩) | h
    · refine .inl (.inl ?_)
      rw [kd_ne (ne_of h hd (by intro z; cases z))]
      exact h
    · refine .inl (.inr ⟨o, ?_⟩)
      rw [kd_ne (ne_of h hd (by intro z; cases z))]
      exact h
    · exact .inr h
theorem sk_D {k : Bool} {H H' : Hp} {d a b : Addr} {c : Int} {ms : List Int} (hd : H d = some (.lst [.ref a, .int c])) (e : ExD d H H') (h : Sk k K H b (ms.map V.int)) : Sk k K H' b (ms.map V.int) := sk_ex e.kd (sk_kd hd h)
theorem drw_ex {H H' : Hp} {d a : Addr} {ns : List Int} (e : Ex H H') (h : Drw K d a ns H) : Drw K d a ns H' := by
  obtain ⟨⟨c, h1⟩, h2, h3⟩ := h
  exact ⟨⟨c, e _ _ h1⟩, ex_l e h2, h3⟩
def spTake (K : PySem.W.Frag) : Sp := fun vs H Q _ => ∃ (d a : Addr) (m : Int) (ns : List Int), vs = [.ref d, .int m] ∧ Drw K d a ns H ∧ 0 < m ∧ ∀ (r : Int) H', 0 ≤ r → r < m → ExD d H H' → Drw K d a ns H' → Q (.int r) H'
theorem c_take (T : Txt K mg CS CD) (D : Dn K mg "_law_take" (top 30)) (cn : C8.Cal P w K mg base 1 "_law_number" (spNum K) []) : C8.Cal P w K mg base 2 "_law_take" (spTake K) [] := by
  refine cal_of (N := ["draw", "many"]) (ps := ["draw", "many"]) D (by decide +kernel) (fun _ _ _ _ _ _ us hl => match us, hl with | [_, _], _ => rfl) (fun vs H Q E h => ?_) (fun qf cdv A outer s H vs Q E hr h => ?_)
  · obtain ⟨d, a, m, ns, rfl, _⟩ := h
    rfl
  · obtain ⟨d, a, m, ns, rfl, ⟨⟨c, hd⟩, hS, h63⟩, hm, q⟩ := h
    refine ⟨_, pss_cons (ps_asg (pe_op op_add (pe_ix ix_list (pv 0) pe_int (fun _ _ => rfl)) pe_int) (pg_sub (pv 0) pe_int set_list))
      (pss_one (ps_ret (pe_op op_modN (pe_callTy call_int1 (by rfl) T.int_ (by decide +kernel) (pa_cons (C8.pe_c cn hr (by decide) (by rfl) (pa_cons (pe_ix ix_list (pv 0) pe_int (fun _ _ => rfl))
        (pa_cons (pe_callTy call_int1 (by rfl) T.int_ (by decide +kernel) (pa_cons (pe_ix ix_list (pv 0) pe_int (fun _ _ => rfl)) pa_nil)) pa_nil))) pa_nil)) (pv 1)))), ?_⟩
    refine ⟨_, rfl, d, _, 1, _, rfl, rfl, sq_of hd, rfl, _, _, rfl, rfl, ?_⟩
    refine ⟨_, rfl, d, _, 1, 1, rfl, rfl, hd, rfl, ?_⟩
    have e1 : ExD d H (upd H d (.lst [.ref a, .int (c + 1)])) := (ExD.refl d H).upd
    have hS1 : SqL K (upd H d (.lst [.ref a, .int (c + 1)])) a (ns.map V.int) := sk_D (k := true) hd e1 hS
    refine ⟨_, rfl, d, _, 0, _, rfl, rfl, sq_of upd_same, rfl, ?_⟩
    refine ⟨_, rfl, d, _, 1, _, rfl, rfl, sq_of upd_same, rfl, .inl ⟨_, rfl, a, _, ns, rfl, hS1, h63, fun r H2 e2 => .inl ⟨_, rfl, _, rfl, _, _, rfl, rfl, by omega, ?_⟩⟩⟩
    exact q _ _ (Int.fmod_nonneg_of_pos r hm) (Int.fmod_lt_of_pos r hm) (e1.trans (ExD.of e2)) ⟨⟨_, e2 _ _ upd_same⟩, ex_l e2 hS1, h63⟩
end
end SP

set_option Elab.async false
set_option maxRecDepth 100000
set_option maxHeartbeats 1000000
namespace SP
open PySem PySem.Spec PyProof.Rows L2 Evl

section
variable {P : Program} {w : World} {K : PySem.W.Frag} {mg : Str → Option Value} {base : Heap} {CS CD : Addr}
/-- values that can't be the draws' own list -/
def NoDr (xs : List V) : Prop := ∀ a c, xs ≠ [.ref a, .int c]
theorem sk_kd' {k : Bool} {H : Hp} {d a b : Addr} {c : Int} {xs : List V} (hd : H d = some (.lst [.ref a, .int c])) (no : NoDr xs) (h : Sk k K H b xs) : Sk k K (Kd d H) b xs := by
  cases k with
  | true =>
    rcases h with (h | ⟨o, h⟩) | h
    · refine .inl (.inl ?_)
      rw [kd_ne (ne_of h hd fun e => no _ _ (HO.lst.inj e))]
      exact h
    · refine .inl (.inr ⟨o, ?_⟩)
      rw [kd_ne (ne_of h hd (by intro z; cases z))]
      exact h
    · exact .inr h
  | false =>
    rcases h with (h | ⟨o, h⟩) | h
    · refine .inl (.inl ?_)
      rw [kd_ne (ne_of h hd (by intro z; cases z))]
      exact h
    · refine .inl (.inr ⟨o, ?_⟩)
      rw [kd_ne (ne_of h hd (by intro z; cases z))]
      exact h
    · exact .inr h
theorem sk_D' {k : Bool} {H H' : Hp} {d a b : Addr} {ns : List Int} {xs : List V} (hd : Drw K d a ns H) (e : ExD d H H') (no : NoDr xs) (h : Sk k K H b xs) : Sk k K H' b xs :=
  let ⟨⟨_, hd⟩, _⟩ := hd; sk_ex e.kd (sk_kd' hd no h)
theorem st_D {H H' : Hp} {d a b : Addr} {ns : List Int} {xs : List V} (hd : Drw K d a ns H) (e : ExD d H H') (h : SqT K H b xs) : SqT K H' b xs := by
  obtain ⟨⟨c, hd⟩, _⟩ := hd
  rcases h with (h | ⟨o, h⟩) | h
  · exact .inl (.inl (e _ _ (ne_of h hd (by intro z; cases z)) h))
  · exact .inl (.inr ⟨o, e _ _ (ne_of h hd (by intro z; cases z)) h⟩)
  · exact .inr h
theorem noDr_ints (ms : List Int) : NoDr (ms.map V.int) := fun a c e => by
  cases ms with
  | nil => cases e
  | cons m r => cases e
theorem noDr_tI {H : Hp} {cs : List V} {ts : List (List Int)} (h : DpAll K H cs (ts.map tI)) : NoDr cs := fun a c e => by
  subst e
  match ts, h with
  | t1 :: t2 :: r, .cons _ (.cons b _) => cases b
theorem noDr_lI {H : Hp} {cs : List V} {ts : List (List Int)} (h : DpAll K H cs (ts.map lI)) : NoDr cs := fun a c e => by
  subst e
  match ts, h with
  | t1 :: t2 :: r, .cons _ (.cons b _) => cases b
theorem dpAll_lI_D {H H' : Hp} {d a : Addr} {ns : List Int} (hd : Drw K d a ns H) (e : ExD d H H') : ∀ {ts : List (List Int)} {cs : List V}, DpAll K H cs (ts.map lI) → DpAll K H' cs (ts.map lI)
  | [], _, .nil => .nil
  | t :: r, _, .cons x y => by
    obtain ⟨b, rfl, hb⟩ := dp_lI_inv x
    exact .cons (.lst (sk_D' (k := true) hd e (noDr_ints t) hb) (dpAll_of_ints t)) (dpAll_lI_D hd e y)

def spGiven (K : PySem.W.Frag) : Sp := fun vs H Q _ => ∃ (d a b : Addr) (ns : List Int) (xs : List V), vs = [.ref d, .ref b] ∧ Drw K d a ns H ∧ SqL K H b xs ∧ xs.length ≤ 1000 ∧ NoDr xs ∧ ∀ (k : Bool) (p : Addr) H', ExD d H H' → Drw K d a ns H' → Sk k K H' p xs → Q (.ref p) H'
theorem c_given (T : Txt K mg CS CD) (D : Dn K mg "_law_given" (top 31)) (ct : C8.Cal P w K mg base 2 "_law_take" (spTake K) []) : C8.Cal P w K mg base 3 "_law_given" (spGiven K) [] := by
  refine cal_of (N := ["draw", "rows"]) (ps := ["draw", "rows"]) D (by decide +kernel) (fun _ _ _ _ _ _ us hl => match us, hl with | [_, _], _ => rfl) (fun vs H Q E h => ?_) (fun qf cdv A outer s H vs Q E hr h => ?_)
  · obtain ⟨d, a, b, ns, xs, rfl, _⟩ := h
    rfl
  · obtain ⟨d, a, b, ns, xs, rfl, hd, hb, hz, no, q⟩ := h
    refine ⟨_, pss_one (ps_ret (pe_ifExp (pt_cmpR op_eq (C8.pe_c ct hr (by decide) (by rfl) (pa_cons (pv 0) (pa_cons pe_int pa_nil))) pe_int (nomark _)) (pe_callTy call_list_of (by rfl) T.list_ (by decide +kernel) (pa_cons (pv 1) pa_nil))
      (pe_callTy call_tupO (by rfl) T.tuple_ (by decide +kernel) (pa_cons (pv 1) pa_nil)))), ?_⟩
    refine ⟨_, rfl, d, a, 2, ns, rfl, hd, by decide, fun r H1 r0 r1 e1 d1 => ?_⟩
    have hb1 : SqL K H1 b xs := sk_D' (k := true) hd e1 no hb
    refine ⟨rfl, _, rfl, ite2 (fun _ => ?_) (fun _ => ?_)⟩
    · exact ⟨_, rfl, b, xs, rfl, .inl hb1, fun l hl => q true l _ (e1.trans (ExD.of (Ex.new hl))) (drw_ex (Ex.new hl) d1) (sq_of upd_same)⟩
    · exact ⟨_, rfl, b, xs, rfl, .inl ⟨hb1, fun l hl => q false l _ (e1.trans (ExD.of (Ex.new hl))) (drw_ex (Ex.new hl) d1) (st_of upd_same)⟩⟩

def spSchema (K : PySem.W.Frag) : Sp := fun vs H Q _ => ∃ (d a : Addr) (ns : List Int), vs = [.ref d, .int 6] ∧ Drw K d a ns H ∧ ∀ (p b : Addr) (n : Int) (ws : List Int) H', SchOk n ws → ws.length ≤ 3 → ExD d H H' → Drw K d a ns H' → SqT K H' p [.int n, .ref b] → SqT K H' b (ws.map V.int) → Q (.ref p) H'
theorem c_schema (T : Txt K mg CS CD) (D : Dn K mg "_law_schema" (top 32)) (ct : C8.Cal P w K mg base 2 "_law_take" (spTake K) []) : C8.Cal P w K mg base 3 "_law_schema" (spSchema K) [] := by
  refine cal_of (N := ["draw", "most", "size", "table"]) (ps := ["draw", "most"]) D (by decide +kernel) (fun _ _ _ _ _ _ us hl => match us, hl with | [_, _], _ => rfl) (fun vs H Q E h => ?_) (fun qf cdv A outer s H vs Q E hr h => ?_)
  · obtain ⟨d, a, ns, rfl, _⟩ := h
    rfl
  · obtain ⟨d, a, ns, rfl, hd, q⟩ := h
    have nd : (["draw", "most", "size", "table"] : List Str).Nodup := by decide +kernel
    refine ⟨_, pss_cons (ps_set (i := 2) nd rfl (Or.inl rfl) (pe_op op_add pe_int (C8.pe_c ct hr (by decide) (by rfl) (pa_cons (pv 0) (pa_cons (pe_op op_sub (pv 1) pe_int) pa_nil)))))
      (pss_one (ps_ret (pe_tup (pa_cons (pv 2) (pa_cons (pe_callTy call_tupO (by rfl) T.tuple_ (by decide +kernel) (pa_cons (pe_lc (own := [("table", 3)]) (g := gName 3) (tt := tYes) (te := tOp (rI0 fun i j => .int (i + j)) (tC (.int 1)) (tCall (spTake K) [] C8.E0 (tCons (tVar 0) (tCons (tC (.int 2)) tNil)))) rfl nd
        (pi_range1 (by rfl) T.range_ (pa_cons (pe_op op_add pe_int (C8.pe_c ct hr (by decide) (by rfl) (pa_cons (pv 0) (pa_cons pe_int pa_nil)))) pa_nil))
        (blkOk_by (N := ["draw", "most", "size", "table"]) (sc := C8.fnScope (top 32)) (by decide +kernel)) (fun _ _ _ _ _ => pg_name (i := 3) nd rfl (Or.inl rfl)) (fun _ _ _ _ _ => pts_nil)
        (fun _ _ _ _ _ => pe_op op_add pe_int (C8.pe_c ct hr (by decide) (by rfl) (pa_cons (pv 0) (pa_cons pe_int pa_nil))))) pa_nil)) pa_nil))))), ?_⟩
    refine ⟨_, rfl, _, rfl, _, _, rfl, rfl, d, a, _, ns, rfl, hd, by decide, fun r H1 r0 r1 e1 d1 => ⟨_, _, rfl, rfl, ?_⟩⟩
    refine ⟨_, rfl, _, rfl, d, a, 3, ns, rfl, d1, by decide, fun m H2 m0 m1 e2 d2 => ⟨_, _, rfl, rfl, ?_⟩⟩
    have e12 := e1.trans e2
    refine ⟨_, rfl, by omega, by omega, fun D hD => ?_⟩
    have hl1 : ((1 : Int) + m).toNat ≤ 3 := by omega
    have hl2 : 1 ≤ ((1 : Int) + m).toNat := by omega
    obtain ⟨⟨c2, hd2⟩, hs2, h63⟩ := id d2
    have ndD : d ≠ D := fun z => by
      rw [← z, hd2] at hD
      cases hD
    refine lc_it walk_range (fun i Hx => ∃ us : List Int, us.length = i ∧ (∀ u ∈ us, u = 1 ∨ u = 2) ∧ Hx D = some (.lst (us.map V.int)) ∧ ExD d H2 Hx ∧ Drw K d a ns Hx) ⟨[], rfl, fun u hu => absurd hu List.not_mem_nil, upd_same, ExD.of (Ex.new hD), drw_ex (Ex.new hD) d2⟩ (fun _ _ _ _ => trivial) ?_ ?_
    · rintro i x Hx Hx' hi ⟨us, hul, hu12, hus, ex, dx⟩ ⟨rfl, rfl⟩
      refine ⟨rfl, iteT (B := False) ⟨_, rfl, d, a, 2, ns, rfl, dx, by decide, fun y H4 y0 y1 e4 d4 => ⟨_, _, rfl, rfl, ?_⟩⟩⟩
      have hus4 : H4 D = some (.lst (us.map V.int)) := e4 _ _ ndD.symm hus
      refine ⟨_, hus4, by rw [List.length_map, hul]; exact Nat.lt_of_le_of_lt (show i ≤ 1000 by omega) (by decide), us ++ [1 + y], ?_, ?_, ?_, ?_, ?_⟩
      · rw [List.length_append, List.length_singleton, hul]
      · intro u hu
        rcases List.mem_append.mp hu with h | h
        · exact hu12 u h
        · rw [List.mem_singleton.mp h]
          omega
      · rw [List.map_append]
        exact upd_same
      · intro b o nb hb
        rw [upd_ne (ne_of_none hb hD)]
        exact (ex.trans e4) b o nb hb
      · obtain ⟨⟨c4, h4⟩, k4, _⟩ := d4
        obtain ⟨⟨cx, hx⟩, kx, _⟩ := dx
        refine ⟨⟨c4, by rw [upd_ne ndD]; exact h4⟩, ?_, h63⟩
        have hk2 := sk_kd (k := true) hd2 hs2
        refine ex_l ?_ hk2
        intro b o hb
        by_cases q1 : b = d
        · rw [q1, kd_self] at hb
          cases hb
        · rw [kd_ne q1] at hb
          rw [upd_ne (ne_of_none hb hD)]
          exact (ex.trans e4) b o q1 hb
    · rintro Hx ⟨us, hul, hu12, hus, ex, dx⟩
      refine ⟨D, _, rfl, .inl ⟨SqL.of hus, fun b hb => ?_⟩⟩
      refine ⟨by show 2 ≤ sizeLine; decide, fun p hp => ?_⟩
      have e3 := (Ex.new (o := .tup (us.map V.int)) hb).trans (Ex.new (o := .tup [.int (2 + r), .ref b]) hp)
      refine q p b _ us _ ⟨by omega, by omega, by omega, by omega, hu12⟩ (by omega) ((e12.trans ex).trans (ExD.of e3)) (drw_ex e3 dx) (st_of upd_same) (st_of ?_)
      exact (Ex.new hp) _ _ upd_same
end
end SP

set_option Elab.async false
set_option maxRecDepth 100000
set_option maxHeartbeats 1000000
namespace SP
open PySem PySem.Spec PyProof.Rows L2 Evl

theorem rng_at {n : Int} {i : Nat} (h : i < n.toNat) : (rng n)[i]? = some (i : Int) := by
  unfold rng
  rw [List.getElem?_map, List.getElem?_range h]
  rfl
section
variable {P : Program} {w : World} {K : PySem.W.Frag} {mg : Str → Option Value} {base : Heap} {CS CD : Addr}
def spLCells (K : PySem.W.Frag) : Sp := fun vs H Q _ => ∃ (n z : Int), vs = [.int n, .int z] ∧ 2 ≤ n ∧ n ≤ 6 ∧ (z = 1 ∨ z = 2) ∧ RetD K (TL (cellsM n z)) H Q
theorem c_lcells (T : Txt K mg CS CD) (D : Dn K mg "_law_cells" (top 33)) : C8.Cal P w K mg base 1 "_law_cells" (spLCells K) [] := by
  refine cal_of (N := ["size", "width", "value", "found", "late"]) (ps := ["size", "width"]) D (by decide +kernel) (fun _ _ _ _ _ _ us hl => match us, hl with | [_, _], _ => rfl) (fun vs H Q E h => ?_) (fun qf cdv A outer s H vs Q E hr h => ?_)
  · obtain ⟨n, z, rfl, _⟩ := h
    rfl
  · obtain ⟨n, z, rfl, n2, n6, z12, q⟩ := h
    have nd : (["size", "width", "value", "found", "late"] : List Str).Nodup := by decide +kernel
    refine ⟨_, pss_cons (ps_if (pt_cmpR op_eq (pv 1) pe_int (nomark _)) (pss_one (ps_ret (pe_lc (own := [("value", 2)]) (g := gName 2) (tt := tYes) (te := tTup (tCons (tVar 2) tNil)) rfl nd (pi_range1 (by rfl) T.range_ (pa_cons (pv 0) pa_nil))
        (blkOk_by (N := ["size", "width", "value", "found", "late"]) (sc := C8.fnScope (top 33)) (by decide +kernel)) (fun _ _ _ _ _ => pg_name (i := 2) nd rfl (Or.inl rfl)) (fun _ _ _ _ _ => pts_nil) (fun _ _ _ _ _ => pe_tup (pa_cons (pv 2) pa_nil))))) pss_nil)
      (pss_cons (ps_set (i := 3) nd rfl (Or.inl rfl) (pe_lst pa_nil))
      (pss_cons (ps_for PassesOwn.never rfl (pi_range1 (by rfl) T.range_ (pa_cons (pv 0) pa_nil)) (pg_name (i := 2) nd rfl (Or.inr rfl))
        (pss_one (ps_set (i := 3) nd rfl (Or.inl rfl) (pe_op op_cat (pv 3) (pe_lc (own := [("late", 4)]) (g := gName 4) (tt := tYes) (te := tTup (tCons (tVar 2) (tCons (tVar 4) tNil))) rfl nd (pi_range1 (by rfl) T.range_ (pa_cons (pv 0) pa_nil))
          (blkOk_by (N := ["size", "width", "value", "found", "late"]) (sc := C8.fnScope (top 33)) (by decide +kernel)) (fun _ _ _ _ _ => pg_name (i := 4) nd rfl (Or.inl rfl)) (fun _ _ _ _ _ => pts_nil) (fun _ _ _ _ _ => pe_tup (pa_cons (pv 2) (pa_cons (pv 4) pa_nil))))))))
      (pss_one (ps_ret (pv 3))))), ?_⟩
    refine ⟨_, rfl, rfl, decide (z = 1), by rw [dec_int], ite2 (fun hz => ?_) (fun hz => ?_)⟩
    · have hz := of_decide_eq_true hz
      subst hz
      refine ⟨_, rfl, n, rfl, by omega, by omega, fun D hD => ?_⟩
      refine lc_dp (K := K) walk_range hD (fun i => (((rng n).take i).map fun i => [i]).map tI) rfl (fun i hi => ?_) (fun _ _ => trivial) ?_ ?_
      · rw [List.length_map, List.length_map, List.length_take]
        exact Nat.lt_of_le_of_lt (show min i (rng n).length ≤ 1000 by omega) (by decide)
      · rintro i x H1 H1' Q' Qn hi e1 ⟨acc, ha⟩ ⟨rfl, rfl⟩ k1 k2
        refine ⟨rfl, iteT (B := False) ⟨_, rfl, by show 1 ≤ sizeLine; decide, fun p hp => k1 _ (tI [(i : Int)]) _ (Ex.new hp) (dp_tI (st_of ?_)) ?_⟩⟩
        · rw [kd_ne (ne_of_none ha hp).symm, upd_same]
          show some (HO.tup [.int (0 + (i : Int))]) = some (HO.tup [.int (i : Int)])
          rw [Int.zero_add]
        · rw [take_snoc (rng_at hi), List.map_append, List.map_append]
          rfl
      · rintro H1 e1 d1 _
        rw [← rng_len, take_all] at d1
        exact q _ _ e1 d1
    · have hz : ¬ z = 1 := fun e => hz (decide_eq_true e)
      have hz2 : z = 2 := by omega
      subst hz2
      refine ⟨Nat.zero_le _, fun f0 hf0 => ?_⟩
      refine ⟨_, rfl, n, rfl, by omega, by omega, ?_⟩
      have hn : (rng n).length ≤ 6 := by rw [rng_len]; omega
      refine for_it walk_range (fun i σ H' => (∃ v2 v4 u, σ = [some (.int n), some (.int 2), v2, some (.ref u), v4] ∧ ∃ us, H' u = some (.lst us) ∧ DpAll K H' us ((ext1 (((rng n).take i).map fun i => [i]) (rng n)).map tI)) ∧ Ex H H')
        ⟨⟨none, none, f0, rfl, [], upd_same, .nil⟩, Ex.new hf0⟩ (fun _ _ _ _ _ => trivial) ?_ ?_
      · rintro i x σ H1 H1' hi ⟨⟨v2, v4, u, rfl, us, hus, hua⟩, e1⟩ ⟨rfl, rfl⟩
        have hul := dpAll_len hua
        rw [List.length_map, ext1_len, List.length_map, List.length_take] at hul
        refine ⟨_, rfl, _, rfl, n, rfl, by omega, by omega, fun D hD => ?_⟩
        refine lc_dp (K := K) walk_range hD (fun j => (((rng n).take j).map fun j => [(i : Int), j]).map tI) rfl (fun j hj => ?_) (fun _ _ => trivial) ?_ ?_
        · rw [List.length_map, List.length_map, List.length_take]
          exact Nat.lt_of_le_of_lt (show min j (rng n).length ≤ 1000 by omega) (by decide)
        · rintro j x H2 H2' Q' Qn hj e2 ⟨acc, ha⟩ ⟨rfl, rfl⟩ k1 k2
          refine ⟨rfl, iteT (B := False) ⟨_, rfl, _, rfl, by show 2 ≤ sizeLine; decide, fun p hp => k1 _ (tI [(i : Int), (j : Int)]) _ (Ex.new hp) (dp_tI (st_of ?_)) ?_⟩⟩
          · rw [kd_ne (ne_of_none ha hp).symm, upd_same]
            show some (HO.tup [.int (0 + (i : Int)), .int (0 + (j : Int))]) = some (HO.tup [.int (i : Int), .int (j : Int)])
            rw [Int.zero_add, Int.zero_add]
          · rw [take_snoc (rng_at hj), List.map_append, List.map_append]
            rfl
        · rintro H2 e2 _ ⟨xs, hxs, hxA⟩
          rw [← rng_len, take_all] at hxA
          have hxl := dpAll_len hxA
          rw [List.length_map, List.length_map] at hxl
          have hm6 : min i (rng n).length * (rng n).length ≤ 6 * 6 := Nat.mul_le_mul (by omega) hn
          refine ⟨u, D, us, xs, rfl, rfl, e2 _ _ hus, hxs, Nat.le_trans (show us.length + xs.length ≤ 1000 by omega) (by decide), fun p hp => ?_⟩
          · refine ⟨⟨_, _, p, rfl, us ++ xs, upd_same, ?_⟩, (e1.trans e2).trans (Ex.new hp)⟩
            have e : (ext1 (((rng n).take (i + 1)).map fun i => [i]) (rng n)).map tI = (ext1 (((rng n).take i).map fun i => [i]) (rng n)).map tI ++ ((rng n).map fun j => [(i : Int), j]).map tI := by
              have e0 : ext1 (((rng n).take (i + 1)).map fun i => [i]) (rng n) = ext1 (((rng n).take i).map fun i => [i]) (rng n) ++ ((rng n).map fun j => [(i : Int), j]) := by
                rw [take_snoc (rng_at hi), List.map_append]
                exact ext1_snoc _ [(i : Int)] _
              rw [e0, List.map_append]
            rw [e]
            exact dpAll_app (dpAll_mono (e2.trans (Ex.new hp)) _ _ hua) (dpAll_mono (kd_ex.trans (Ex.new hp)) _ _ hxA)
      · rintro σ H1 ⟨⟨v2, v4, u, rfl, us, hus, hua⟩, e1⟩
        rw [← rng_len, take_all] at hua
        exact ⟨_, rfl, q _ _ e1 (.lst (sq_of hus) hua)⟩
end
end SP

set_option Elab.async false
set_option maxRecDepth 100000
set_option maxHeartbeats 1000000
namespace SP
open PySem PySem.Spec PyProof.Rows L2 Evl

section
variable {P : Program} {w : World} {K : PySem.W.Frag} {mg : Str → Option Value} {base : Heap} {CS CD : Addr}
theorem exD_upd {d f : Addr} {H H' : Hp} {o : HO} (hf : H f = none) (e : ExD d H H') : ExD d H (upd H' f o) := fun x u n h => by
  rw [upd_ne (ne_of_none h hf)]
  exact e x u n h
theorem exD_kd {d f : Addr} {H H' : Hp} (e : ExD d H H') : ExD d (Kd f H) (Kd f H') := fun x u n h => by
  by_cases q : x = f
  · rw [q, kd_self] at h
    cases h
  · rw [kd_ne q] at h ⊢
    exact e x u n h
theorem drw_kd {d f a : Addr} {ns : List Int} {H H' : Hp} (h : Drw K d a ns H) (hf : H f = none) (e : ExD d H H') (h' : Drw K d a ns H') : Drw K d a ns (Kd f H') := by
  obtain ⟨⟨c, hd⟩, hs, h63⟩ := h
  obtain ⟨⟨c', hd'⟩, _, _⟩ := h'
  refine ⟨⟨c', by rw [kd_ne (ne_of_none hd hf)]; exact hd'⟩, ?_, h63⟩
  refine ex_l ?_ (sk_kd (k := true) hd hs)
  intro b o hb
  by_cases q1 : b = d
  · rw [q1, kd_self] at hb
    cases hb
  · rw [kd_ne q1] at hb
    rw [kd_ne (ne_of_none hb hf)]
    exact e b o q1 hb
theorem drw_upd {d f a : Addr} {ns : List Int} {H H' : Hp} {o : HO} (h : Drw K d a ns H) (hf : H f = none) (e : ExD d H H') (h' : Drw K d a ns H') : Drw K d a ns (upd H' f o) := by
  have e2 : Ex (Kd f H') (upd H' f o) := fun x u q => by
    by_cases r : x = f
    · rw [r, kd_self] at q
      cases q
    · rw [kd_ne r] at q
      rw [upd_ne r]
      exact q
  exact drw_ex e2 (drw_kd h hf e h')
def spTables (K : PySem.W.Frag) : Sp := fun vs H Q _ => ∃ (d a b : Addr) (n : Int) (ws ns : List Int), vs = [.ref d, .int n, .ref b, .int 9] ∧ Drw K d a ns H ∧ SqT K H b (ws.map V.int) ∧ SchOk n ws ∧
  ∀ (v : V) (tss : List (List Int)) H', ExD d H H' → Drw K d a ns H' → DatOk n ws tss → Dp K H' v (.list (tss.map lI)) → Q v H'
theorem c_tables (T : Txt K mg CS CD) (D : Dn K mg "_law_tables" (top 34)) (ct : C8.Cal P w K mg base 2 "_law_take" (spTake K) []) (cl : C8.Cal P w K mg base 1 "_law_cells" (spLCells K) []) : C8.Cal P w K mg base 3 "_law_tables" (spTables K) [] := by
  refine cal_of (N := ["draw", "size", "widths", "most", "found", "width", "cell"]) (ps := ["draw", "size", "widths", "most"]) D (by decide +kernel) (fun _ _ _ _ _ _ us hl => match us, hl with | [_, _, _, _], _ => rfl) (fun vs H Q E h => ?_) (fun qf cdv A outer s H vs Q E hr h => ?_)
  · obtain ⟨d, a, b, n, ws, ns, rfl, _⟩ := h
    rfl
  · obtain ⟨d, a, b, n, ws, ns, rfl, hd, hb, ok, q⟩ := h
    have nd : (["draw", "size", "widths", "most", "found", "width", "cell"] : List Str).Nodup := by decide +kernel
    refine ⟨_, pss_cons (ps_set (i := 4) nd rfl (Or.inl rfl) (pe_lst pa_nil))
      (pss_cons (ps_for PassesOwn.never rfl (pi_tup (pv 2)) (pg_name (i := 5) nd rfl (Or.inl rfl))
        (pss_one (ps_expr (pe_bm PySem.F.plainAttrs_list PySem.F.slot_list_append PySem.F.type_list_append mt_append (pv 4) (pa_cons
          (pe_lc (own := [("cell", 6)]) (g := gName 6) (tt := tYes) (te := tIf (tTest (tOp rEq (tCall (spTake K) [] C8.E0 (tCons (tVar 0) (tCons (tC (.int 2)) tNil))) (tC (.int 0))))
              (tCall (spTake K) [] C8.E0 (tCons (tVar 0) (tCons (tOp (rI0 fun i j => .int (i + j)) (tVar 3) (tC (.int 1))) tNil))) (tC (.int 0))) rfl nd
            (pi_list (C8.pe_c cl hr (by decide) (by rfl) (pa_cons (pv 1) (pa_cons (pv 5) pa_nil))))
            (blkOk_by (N := ["draw", "size", "widths", "most", "found", "width", "cell"]) (sc := C8.fnScope (top 34)) (by decide +kernel)) (fun _ _ _ _ _ => pg_name (i := 6) nd rfl (Or.inl rfl)) (fun _ _ _ _ _ => pts_nil)
            (fun _ _ _ _ _ => pe_ifExp (pt_cmpR op_eq (C8.pe_c ct hr (by decide) (by rfl) (pa_cons (pv 0) (pa_cons pe_int pa_nil))) pe_int (nomark _)) (C8.pe_c ct hr (by decide) (by rfl) (pa_cons (pv 0) (pa_cons (pe_op op_add (pv 3) pe_int) pa_nil))) pe_int))
          pa_nil)))))
      (pss_one (ps_ret (pv 4)))), ?_⟩
    refine ⟨Nat.zero_le _, fun f hf => ?_⟩
    have nfd : f ≠ d := by
      obtain ⟨⟨c, h⟩, _⟩ := hd
      exact (ne_of_none h hf).symm
    refine ⟨_, rfl, b, rfl, ⟨_, ex_t (Ex.new hf) hb⟩, ?_⟩
    have l4 := ok.l4
    refine for_it (walk_tup (xs := ws.map V.int)) (fun i σ H' => (∃ v5 v6, σ = [some (.ref d), some (.int n), some (.ref b), some (.int 9), some (.ref f), v5, v6]) ∧ ExD d H H' ∧ Drw K d a ns H' ∧
        ∃ (us : List V) (ts : List (List Int)), H' f = some (.lst us) ∧ ts.length = i ∧ DpAll K (Kd f H') us (ts.map lI) ∧ ∀ (j : Nat) (z : Int) (ms : List Int), ws[j]? = some z → ts[j]? = some ms → ms.length = (cellsM n z).length ∧ ∀ x ∈ ms, 0 ≤ x ∧ x ≤ 9)
      ⟨⟨none, none, rfl⟩, ExD.of (Ex.new hf), drw_ex (Ex.new hf) hd, [], [], upd_same, rfl, .nil, fun j z ms _ h => by simp at h⟩ (fun i σ H' _ p => st_D hd p.2.1 hb) ?_ ?_
    · rintro i x σ H1 H1' hi ⟨⟨v5, v6, rfl⟩, e1, d1, us, ts, hus, htl, huA, hcn⟩ ⟨rfl, hx⟩
      obtain ⟨z, hz, rfl⟩ := get_map hx
      have hi4 : i < ws.length := (List.getElem?_eq_some_iff.mp hz).1
      have z12 := ok.w12 z (List.mem_of_getElem? hz)
      refine ⟨_, rfl, .inl ⟨rfl, _, SqL.of hus⟩, ?_⟩
      refine ⟨_, rfl, _, rfl, n, z, rfl, ok.n2, ok.n6, z12, fun v H2 e2 dv => ?_⟩
      obtain ⟨cl, cs, rfl, hcl, hcA⟩ := dp_lst dv
      have hcsl := dpAll_len hcA
      rw [List.length_map] at hcsl
      have hc36 := cellsM_len ok.n6 z12
      have e12 := e1.trans (ExD.of e2)
      have d2 := drw_ex e2 d1
      refine ⟨cl, rfl, ⟨_, hcl⟩, fun D hD => ?_⟩
      have ndD : D ≠ d := by
        obtain ⟨⟨c, h⟩, _⟩ := d2
        exact (ne_of_none h hD).symm
      refine lc_it (walk_list (xs := cs)) (fun j Hx => ∃ ms : List Int, ms.length = j ∧ (∀ u ∈ ms, 0 ≤ u ∧ u ≤ 9) ∧ Hx D = some (.lst (ms.map V.int)) ∧ ExD d H2 Hx ∧ Drw K d a ns Hx) ⟨[], rfl, fun u hu => absurd hu List.not_mem_nil, upd_same, ExD.of (Ex.new hD), drw_ex (Ex.new hD) d2⟩
        (fun j Hx _ ⟨_, _, _, _, ex, _⟩ => sk_D' (k := true) d2 ex (noDr_tI hcA) hcl) ?_ ?_
      · rintro j y Hx Hx' hj ⟨ms, hml, hm9, hms, ex, dx⟩ ⟨rfl, hy⟩
        have step : ∀ (r : Int) H4, 0 ≤ r → r ≤ 9 → ExD d Hx' H4 → Drw K d a ns H4 → ∃ acc, H4 D = some (.lst acc) ∧ acc.length < sizeLine ∧ ∃ ms : List Int, ms.length = j + 1 ∧ (∀ u ∈ ms, 0 ≤ u ∧ u ≤ 9) ∧ (upd H4 D (.lst (acc ++ [.int r]))) D = some (.lst (ms.map V.int)) ∧ ExD d H2 (upd H4 D (.lst (acc ++ [.int r]))) ∧ Drw K d a ns (upd H4 D (.lst (acc ++ [.int r]))) := by
          intro r H4 r0 r9 e4 d4
          refine ⟨_, e4 _ _ ndD hms, by rw [List.length_map, hml]; exact Nat.lt_of_le_of_lt (show j ≤ 1000 by omega) (by decide), ms ++ [r], ?_, ?_, ?_, exD_upd hD (ex.trans e4), drw_upd d2 hD (ex.trans e4) d4⟩
          · rw [List.length_append, List.length_singleton, hml]
          · intro u hu
            rcases List.mem_append.mp hu with h | h
            · exact hm9 u h
            · rw [List.mem_singleton.mp h]
              exact ⟨r0, r9⟩
          · rw [List.map_append]
            exact upd_same
        refine ⟨rfl, iteT (B := False) ⟨_, rfl, d, a, 2, ns, rfl, dx, by decide, fun y H4 y0 y1 e4 d4 => ⟨rfl, _, rfl, ite2 (fun _ => ?_) (fun _ => ?_)⟩⟩⟩
        · refine ⟨_, rfl, _, rfl, _, _, rfl, rfl, d, a, _, ns, rfl, d4, by decide, fun r H5 r0 r1 e5 d5 => step r H5 r0 (by omega) (e4.trans e5) d5⟩
        · exact step 0 H4 (by decide) (by decide) e4 d4
      · rintro Hx ⟨ms, hml, hm9, hms, ex, dx⟩
        have husx : Hx f = some (.lst us) := ex _ _ nfd (e2 _ _ hus)
        have hul := dpAll_len huA
        rw [List.length_map] at hul
        refine ⟨f, us, _, rfl, rfl, husx, Nat.lt_of_le_of_lt (show us.length ≤ 1000 by omega) (by decide), ?_⟩
        have eH : ExD d H Hx := e12.trans ex
        refine ⟨⟨_, _, rfl⟩, exD_upd (H := H) ?_ eH, drw_upd hd ?_ eH dx, us ++ [.ref D], ts ++ [ms], upd_same, ?_, ?_, ?_⟩
        · exact hf
        · exact hf
        · rw [List.length_append, List.length_singleton, htl]
        · rw [kd_upd, List.map_append]
          have hfD : D ≠ f := fun z => by
            rw [z, e2 _ _ hus] at hD
            cases hD
          refine dpAll_snoc ?_ (.lst (sq_of ?_) (dpAll_of_ints ms))
          · exact dpAll_lI_D (drw_kd hd hf e12 d2) (exD_kd ex) (dpAll_mono (kd_mono e2) _ _ huA)
          · rw [kd_ne hfD]
            exact hms
        · intro j z' ms' h1 h2
          by_cases hj : j < ts.length
          · rw [List.getElem?_append_left hj] at h2
            exact hcn j z' ms' h1 h2
          · rw [List.getElem?_append_right (by omega)] at h2
            have hj0 : j - ts.length = 0 := by
              have := (List.getElem?_eq_some_iff.mp h2).1
              rw [List.length_singleton] at this
              omega
            rw [hj0] at h2
            have e1 : ms = ms' := by simpa using h2
            have e2 : j = i := by omega
            subst e1 e2
            rw [hz] at h1
            cases h1
            exact ⟨by rw [hml, hcsl], hm9⟩
    · rintro σ H1 ⟨⟨v5, v6, rfl⟩, e1, d1, us, ts, hus, htl, huA, hcn⟩
      rw [List.length_map] at htl
      exact ⟨_, rfl, q _ ts _ e1 d1 ⟨htl, hcn⟩ (.lst (sq_of hus) (dpAll_mono kd_ex _ _ huA))⟩
end
end SP

set_option Elab.async false
set_option maxRecDepth 100000
set_option maxHeartbeats 1000000
namespace SP
open PySem PySem.Spec PyProof.Rows L2 Evl

section
variable {P : Program} {w : World} {K : PySem.W.Frag} {mg : Str → Option Value} {base : Heap} {CS CD : Addr}
theorem sch_D {H H' : Hp} {d a : Addr} {ms : List Int} {v : V} {n : Int} {ws : List Int} (hd : Drw K d a ms H) (e : ExD d H H') (h : IsSch K CS H v n ws) : IsSch K CS H' v n ws := by
  obtain ⟨s, dx, w, h1, h2, h3, h4⟩ := h
  obtain ⟨⟨c, hc⟩, _⟩ := id hd
  exact ⟨s, dx, w, h1, e _ _ (ne_of h2 hc (by intro z; cases z)) h2, st_D hd e h3, h4⟩
theorem dpAll_tI_D {H H' : Hp} {d a : Addr} {ns : List Int} (hd : Drw K d a ns H) (e : ExD d H H') : ∀ {ts : List (List Int)} {cs : List V}, DpAll K H cs (ts.map tI) → DpAll K H' cs (ts.map tI)
  | [], _, .nil => .nil
  | t :: r, _, .cons x y => by
    obtain ⟨b, rfl, hb⟩ := dp_tI_inv x
    exact .cons (dp_tI (st_D hd e hb)) (dpAll_tI_D hd e y)
theorem dat_D {H H' : Hp} {d a : Addr} {ms : List Int} {v : V} {n : Int} {ws : List Int} {tss : List (List Int)} (hd : Drw K d a ms H) (e : ExD d H H') (h : IsDat K CS CD H v n ws tss) : IsDat K CS CD H' v n ws tss := by
  obtain ⟨b, dx, t, sv, h1, h2, h3, h4, h5⟩ := h
  obtain ⟨⟨c, hc⟩, _⟩ := id hd
  obtain ⟨ta, xs, et, hx, hA⟩ := dp_tup h4
  cases et
  exact ⟨b, dx, t, sv, h1, e _ _ (ne_of h2 hc (by intro z; cases z)) h2, sch_D hd e h3, .tup (st_D hd e hx) (dpAll_tI_D hd e hA), h5⟩
theorem tl_D {H H' : Hp} {d a : Addr} {ns : List Int} {v : V} {tss : List (List Int)} (hd : Drw K d a ns H) (e : ExD d H H') (h : Dp K H v (.list (tss.map lI))) : Dp K H' v (.list (tss.map lI)) := by
  obtain ⟨b, us, rfl, hb, hA⟩ := dp_lst h
  exact .lst (sk_D' (k := true) hd e (noDr_lI hA) hb) (dpAll_lI_D hd e hA)
theorem seqD_of {H : Hp} {v : V} {tss : List (List Int)} (h : Dp K H v (.list (tss.map lI))) : SeqD K H v tss := by
  obtain ⟨b, us, rfl, hb, hA⟩ := dp_lst h
  have hl := dpAll_len hA
  rw [List.length_map] at hl
  refine ⟨b, true, us, rfl, hb, hl, fun i u ns h1 h2 => ?_⟩
  obtain ⟨d, h3, h4⟩ := dpAll_get hA h1
  rw [List.getElem?_map, h2] at h3
  cases h3
  obtain ⟨p, rfl, hp⟩ := dp_lI_inv h4
  exact ⟨p, true, rfl, hp⟩
theorem cellsM_pos {n z : Int} (n2 : 2 ≤ n) (z12 : z = 1 ∨ z = 2) : 0 < (cellsM n z).length := by
  have h := rng_len n
  rcases z12 with e | e
  · subst e
    show 0 < ((rng n).map _).length
    rw [List.length_map, h]
    omega
  · subst e
    show 0 < (ext1 _ _).length
    rw [ext1_len, List.length_map, h]
    exact Nat.mul_pos (by omega) (by omega)
theorem ixN0 {n : Nat} (h : 0 < n) : ixN n 0 = some 0 := by
  unfold ixN
  rw [if_pos (by decide), if_pos (by omega)]
  rfl
theorem made_ex {H : Hp} {x dx C : Addr} (nx : H x = none) (nd : H dx = none) (ne : dx ≠ x) : Ex H (upd (upd H dx (.own x)) x (.ins C dx [])) := (Ex.new nd).trans (Ex.new (by rw [upd_ne ne.symm]; exact nx))
abbrev pS (p : Int × List Int) : PyData := .tuple [.int p.1, tI p.2]
theorem codS : Cod pS 2 := Cod.pair Cod.int (Cod.tup Cod.int)
theorem call_lstO {X : Cx} : CallR X (.type "list") (rListS X.K) := call_list_of

def spEqR (K : PySem.W.Frag) (CS CD : Addr) : Sp := fun vs H Q _ => ∃ (d a wv : Addr) (n : Int) (ws ns : List Int) (tss : List (List Int)) (tv sv dv : V), vs = [.ref d, .int n, .ref wv, tv, sv, dv] ∧ Drw K d a ns H ∧ SqT K H wv (ws.map V.int) ∧ SchOk n ws ∧ ws.length ≤ 3 ∧
  Dp K H tv (.list (tss.map lI)) ∧ DatOk n ws tss ∧ IsSch K CS H sv n ws ∧ IsDat K CS CD H dv n ws tss ∧ ∀ H', ExD d H H' → Drw K d a ns H' → Q (.bl true) H'
theorem c_eqR (T : Txt K mg CS CD) (D : Dn K mg "_law_equal_right" (top 35)) (ct : C8.Cal P w K mg base 2 "_law_take" (spTake K) []) (cD : C8.Mak P w K mg base 6 "Data" CD (spDatInit K CS CD) []) (cS : C8.Mak P w K mg base 5 "Schema" CS (spSchInit K CS) [])
    (cDE : C8.Met P w K mg base 2 CD "__eq__" (spDatEq K CS CD) []) (cSE : C8.Met P w K mg base 1 CS "__eq__" (spSchEq K CS) []) : C8.Cal P w K mg base 8 "_law_equal_right" (spEqR K CS CD) [] := by
  refine cal_of (N := ["draw", "size", "widths", "tables", "schema", "data", "at", "bent", "others", "late", "counts"]) (ps := ["draw", "size", "widths", "tables", "schema", "data"]) D (by decide +kernel) (fun _ _ _ _ _ _ us hl => match us, hl with | [_, _, _, _, _, _], _ => rfl) (fun vs H Q E h => ?_) (fun qf cdv A outer s H vs Q E hr h => ?_)
  · obtain ⟨d, a, wv, n, ws, ns, tss, tv, sv, dv, rfl, _⟩ := h
    rfl
  · obtain ⟨d, a, wv, n, ws, ns, tss, tv, sv, dv, rfl, hd, hw, ok, w3, ht, dok, hS, hDt, q⟩ := h
    have nd : (["draw", "size", "widths", "tables", "schema", "data", "at", "bent", "others", "late", "counts"] : List Str).Nodup := by decide +kernel
    refine ⟨_, pss_cons (ps_set (i := 6) nd rfl (Or.inl rfl) (C8.pe_c ct hr (by decide) (by rfl) (pa_cons (pv 0) (pa_cons (pe_callB call_len_seq (by rfl) T.len_ PySem.boot_len (pa_cons (pv 3) pa_nil)) pa_nil))))
      (pss_cons (ps_setLc (i := 7) (own := [("counts", 10)]) (g := gName 10) (tt := tYes) (te := tCB (rListS K) (tCons (tVar 10) tNil)) rfl nd rfl rfl (sw_true rfl rfl rfl (by decide +kernel)) (pi_list (pv 3))
        (blkOk_by (N := ["draw", "size", "widths", "tables", "schema", "data", "at", "bent", "others", "late", "counts"]) (sc := C8.fnScope (top 35)) (by decide +kernel)) (fun _ _ _ _ _ => pg_name (i := 10) nd rfl (Or.inl rfl)) (fun _ _ _ _ _ => pts_nil)
        (fun _ _ _ _ _ => pe_callTy (T := "list") call_lstO (by rfl) T.list_ (by decide +kernel) (pa_cons (pv 10) pa_nil)))
      (Evl.pss_cut (ps_asg (pe_ifExp (pt_cmpR op_eq (pe_ix ix_list (pe_ix ix_list (pv 7) (pv 6) (fun _ _ => rfl)) pe_int (fun _ _ => rfl)) pe_int (nomark _)) pe_int pe_int) (pg_sub (pe_ix ix_list (pv 7) (pv 6) (fun _ _ => rfl)) pe_int set_list))
      (pss_cons (ps_if (PW.pt (pw_or (pt_cmpR (op_eqM cDE hr (by decide)) (pv 5) (C8.pe_mk cD hr (by decide) (by rfl) (pa_cons (pv 4) (pa_cons (pv 7) pa_nil))) (nomark _))
          (pw_or1 (pt_cmpR (op_neM cDE T.neD hr (by decide)) (pv 5) (C8.pe_mk cD hr (by decide) (by rfl) (pa_cons (C8.pe_mk cS hr (by decide) (by rfl) (pa_cons (pv 1) (pa_cons (pv 2) pa_nil))) (pa_cons (pv 3) pa_nil))) (nomark _))))) pss_never pss_nil)
      (Evl.pss_cut (ps_set (i := 8) nd rfl (Or.inl rfl) (pe_lst (pa_cons (pe_tup (pa_cons (pv 1) (pa_cons (pv 2) pa_nil))) (pa_cons (pe_tup (pa_cons (pe_ifExp (pt_cmpR op_eq (pv 1) pe_int (nomark _)) pe_int pe_int) (pa_cons (pv 2) pa_nil)))
          (pa_cons (pe_tup (pa_cons (pv 1) (pa_cons (pe_revT (pv 2)) pa_nil))) (pa_cons (pe_tup (pa_cons (pv 1) (pa_cons (pe_op op_catA (pv 2) (pe_tup (pa_cons pe_int pa_nil))) pa_nil))) pa_nil))))))
      (pss_cons (ps_for PassesOwn.never rfl (pi_list (pv 8)) (pg_name (i := 9) nd rfl (Or.inl rfl))
        (pss_one (ps_if (pt_cmpR op_ne (pe_cmpR (op_eqM cSE hr (by decide)) (pv 4) (C8.pe_mk cS hr (by decide) (by rfl) (pa_cons (pe_ix ix_tup (pv 9) pe_int (fun _ _ => rfl)) (pa_cons (pe_ix ix_tup (pv 9) pe_int (fun _ _ => rfl)) pa_nil))) (nomark _))
          (pe_cmpR (op_eqD hr.units) (pv 9) (pe_tup (pa_cons (pv 1) (pa_cons (pv 2) pa_nil))) (nomark _)) (nomark _)) pss_never pss_nil)))
      (pss_one (ps_ret pe_bl))))))), ?_⟩
    -- at = _law_take(draw, len(tables))
    have hlt := dok.len
    have l1 := ok.l1
    obtain ⟨tb, us0, rfl, htb0, htA0⟩ := dp_lst ht
    have hul0 := dpAll_len htA0
    rw [List.length_map] at hul0
    refine ⟨_, rfl, _, rfl, tb, us0, rfl, .inl htb0, ?_⟩
    refine ⟨d, a, _, ns, rfl, hd, by omega, fun r H1 r0 r1 e1 d1 => ?_⟩
    have hw1 := st_D hd e1 hw
    have ht1 := tl_D hd e1 ht
    have hS1 := sch_D hd e1 hS
    have hDt1 := dat_D hd e1 hDt
    clear ht hS hDt hw htb0 htA0
    obtain ⟨tb', us, etb, htb, htA⟩ := dp_lst ht1
    cases etb
    have hul := dpAll_len htA
    rw [List.length_map] at hul
    -- bent = [list(counts) for counts in tables]
    refine ⟨_, rfl, tb, rfl, ⟨_, htb⟩, fun D hD => ?_⟩
    refine lc_it (walk_list (xs := us)) (fun i Hx => ∃ ps : List Addr, ps.length = i ∧ ps.Nodup ∧ Hx D = some (.lst (ps.map V.ref)) ∧ Ex H1 Hx ∧ ∀ (j : Nat) (p : Addr) (ms : List Int), ps[j]? = some p → tss[j]? = some ms → Hx p = some (.lst (ms.map V.int)) ∧ H1 p = none ∧ p ≠ D)
      ⟨[], rfl, List.nodup_nil, upd_same, Ex.new hD, fun j p ms h => by simp at h⟩ (fun i Hx _ ⟨_, _, _, _, e, _⟩ => ex_l e htb) ?_ ?_
    · rintro i x Hx Hx' hi ⟨ps, hpl, hpn, hps, ex, hin⟩ ⟨rfl, hx⟩
      obtain ⟨dc, hdc, hdx⟩ := dpAll_get htA hx
      obtain ⟨ms, hms, rfl⟩ := get_map hdc
      obtain ⟨b, rfl, hb⟩ := dp_lI_inv hdx
      refine ⟨rfl, iteT (B := False) ⟨_, rfl, b, _, rfl, .inl (ex_l ex hb), fun l hl => ?_⟩⟩
      have nlD : l ≠ D := (ne_of_none hps hl).symm
      have hlt3 : ps.length < 1000 := by omega
      refine ⟨_, (Ex.new hl) _ _ hps, by rw [List.length_map]; exact Nat.lt_trans hlt3 (by decide), ps ++ [l], ?_, ?_, ?_, ?_, ?_⟩
      · rw [List.length_append, List.length_singleton, hpl]
      · refine List.nodup_append.mpr ⟨hpn, (by simp), fun p hp q hq e => ?_⟩
        rw [List.mem_singleton] at hq
        obtain ⟨j, hj⟩ := List.mem_iff_getElem?.mp hp
        have hjl := (List.getElem?_eq_some_iff.mp hj).1
        have h1 := (hin j p _ hj (List.getElem?_eq_getElem (show j < tss.length by omega))).1
        rw [e, hq, hl] at h1
        cases h1
      · rw [List.map_append]
        exact upd_same
      · exact (ex.trans (Ex.new hl)).mut hD
      · intro j p ms' h1 h2
        by_cases hj : j < ps.length
        · rw [List.getElem?_append_left hj] at h1
          obtain ⟨k1, k2, k3⟩ := hin j p ms' h1 h2
          refine ⟨?_, k2, k3⟩
          rw [upd_ne k3]
          exact (Ex.new hl) _ _ k1
        · rw [List.getElem?_append_right (by omega)] at h1
          have hj0 : j - ps.length = 0 := by
            have := (List.getElem?_eq_some_iff.mp h1).1
            rw [List.length_singleton] at this
            omega
          rw [hj0] at h1
          have el : l = p := by simpa using h1
          have ej : j = i := by omega
          subst el ej
          rw [hms] at h2
          cases h2
          refine ⟨?_, ?_, nlD⟩
          · rw [upd_ne nlD]
            exact upd_same
          · exact fresh_back ex hl
    · rintro H2 ⟨ps, hpl, hpn, hps, e2, hin⟩
      -- bent[at][0] = ..
      obtain ⟨m, hm⟩ : ∃ m, r.toNat = m := ⟨_, rfl⟩
      have hmt : m < tss.length := by omega
      obtain ⟨ms, hms⟩ : ∃ ms, tss[m]? = some ms := ⟨_, List.getElem?_eq_getElem hmt⟩
      obtain ⟨p, hp⟩ : ∃ p, ps[m]? = some p := ⟨_, List.getElem?_eq_getElem (show m < ps.length by omega)⟩
      obtain ⟨hpH, hp1, hpD⟩ := hin m p ms hp hms
      obtain ⟨z, hz⟩ : ∃ z, ws[m]? = some z := ⟨_, List.getElem?_eq_getElem (show m < ws.length by omega)⟩
      obtain ⟨hmsl, hms9⟩ := dok.cnt m z ms hz hms
      have hpos := cellsM_pos ok.n2 (ok.w12 z (List.mem_of_getElem? hz))
      obtain ⟨y, ys, rfl⟩ : ∃ y ys, ms = y :: ys := by
        cases ms with
        | nil =>
          rw [List.length_nil] at hmsl
          omega
        | cons y ys => exact ⟨y, ys, rfl⟩
      have hatp : atI (ps.map V.ref) r = some (.ref p) := at_of (j := m) (by omega) (by rw [List.getElem?_map, hp]; rfl)
      refine ⟨fun σ' H' => ∃ (t2 : List (List Int)) (v10 : Option V), σ' = [some (.ref d), some (.int n), some (.ref wv), some (.ref tb), some sv, some dv, some (.int r), some (.ref D), none, none, v10] ∧ Ex H1 H' ∧ SeqD K H' (.ref D) t2 ∧ DatOk n ws t2 ∧ t2 ≠ tss, ?_, ?_⟩
      · have fin : ∀ nv : Int, (nv = 0 ∨ nv = 1) → nv ≠ y → ∃ (t2 : List (List Int)) (v10 : Option V), [some (.ref d), some (.int n), some (.ref wv), some (.ref tb), some sv, some dv, some (.int r), some (.ref D), none, none, none] = [some (.ref d), some (.int n), some (.ref wv), some (.ref tb), some sv, some dv, some (.int r), some (.ref D), none, none, v10] ∧
            Ex H1 (upd H2 p (.lst (((y :: ys).map V.int).set 0 (.int nv)))) ∧ SeqD K (upd H2 p (.lst (((y :: ys).map V.int).set 0 (.int nv)))) (.ref D) t2 ∧ DatOk n ws t2 ∧ t2 ≠ tss := by
          intro nv hnv hny
          refine ⟨tss.set m (nv :: ys), none, rfl, e2.mut hp1, ⟨D, true, ps.map V.ref, rfl, sq_of ?_, ?_, ?_⟩, ⟨?_, ?_⟩, ?_⟩
          · rw [upd_ne hpD.symm]
            exact hps
          · rw [List.length_map, List.length_set, hpl, hul]
          · intro i u ns' h1 h2
            obtain ⟨b, hb, rfl⟩ := get_map h1
            refine ⟨b, true, rfl, sq_of ?_⟩
            by_cases him : i = m
            · subst him
              rw [hp] at hb
              cases hb
              rw [List.getElem?_set_self hmt] at h2
              cases h2
              exact upd_same
            · rw [List.getElem?_set_ne (Ne.symm him)] at h2
              have hbp : b ≠ p := fun e => by
                subst e
                obtain ⟨g1, g2⟩ := List.getElem?_eq_some_iff.mp hb
                obtain ⟨g3, g4⟩ := List.getElem?_eq_some_iff.mp hp
                exact him ((List.getElem_inj hpn).mp (g2.trans g4.symm))
              rw [upd_ne hbp]
              exact (hin i b ns' hb h2).1
          · rw [List.length_set]
            exact dok.len
          · intro i z' ns' h1 h2
            by_cases him : i = m
            · subst him
              rw [List.getElem?_set_self hmt] at h2
              cases h2
              rw [hz] at h1
              cases h1
              refine ⟨hmsl, fun x hx => ?_⟩
              rcases List.mem_cons.mp hx with e | e
              · omega
              · exact hms9 x (List.mem_cons_of_mem _ e)
            · rw [List.getElem?_set_ne (Ne.symm him)] at h2
              exact dok.cnt i z' ns' h1 h2
          · intro e
            have := List.getElem?_set_self (a := nv :: ys) hmt
            rw [e, hms] at this
            cases this
            exact hny rfl
        refine ⟨_, rfl, _, rfl, D, _, r, _, rfl, rfl, SqL.of hps, hatp, p, _, 0, _, rfl, rfl, SqL.of hpH, at_of (j := 0) rfl rfl, rfl, decide (y = 0), by rw [dec_int], ite2 (fun hy => ?_) (fun hy => ?_)⟩
        · have hy := of_decide_eq_true hy
          refine ⟨_, rfl, _, rfl, D, _, r, _, rfl, rfl, SqL.of hps, hatp, p, _, 0, 0, rfl, rfl, hpH, ixN0 (by simp), fin 1 (.inr rfl) (by omega)⟩
        · have hy : ¬ y = 0 := fun e => hy (decide_eq_true e)
          refine ⟨_, rfl, _, rfl, D, _, r, _, rfl, rfl, SqL.of hps, hatp, p, _, 0, 0, rfl, rfl, hpH, ixN0 (by simp), fin 0 (.inl rfl) (by omega)⟩
      · rintro σ' H3 ⟨t2, v10, rfl, e3, hB, dok2, hne⟩
        obtain ⟨s1, dz1, wz, rfl, hs1, hwz, okz⟩ := id hS1
        obtain ⟨b1, dx1, t1, svx, rfl, hb1, _⟩ := id hDt1
        -- data == Data(schema, bent)
        refine ⟨_, rfl, _, rfl, _, rfl, fun x dx nx ndx nex => ?_⟩
        refine ⟨H3, x, dx, .ref s1, .ref D, n, ws, t2, rfl, made_ex nx ndx nex, nx, upd_same, sch_ex e3 hS1, hB, dok2, fun H4 e4 hI => ⟨rfl, ?_⟩⟩
        have e14 := e3.trans e4
        obtain ⟨x', dy, t', sv', ex', hx', _⟩ := id hI
        cases ex'
        refine ⟨b1, x, dx1, _, dy, _, rfl, rfl, e14 _ _ hb1, hx', _, _, n, n, ws, ws, tss, t2, rfl, dat_ex e14 hDt1, hI, fun H5 e5 => ⟨_, rfl, ?_⟩⟩
        refine ⟨false, by rw [decide_eq_false fun z => hne z.2.symm], iteF ?_⟩
        have e15 := e14.trans e5
        -- data != Data(Schema(size, widths), tables)
        refine ⟨_, rfl, _, rfl, _, rfl, fun x2 dx2 nx2 ndx2 nex2 => ?_⟩
        refine ⟨H5, x2, dx2, wv, n, ws, rfl, made_ex nx2 ndx2 nex2, nx2, upd_same, ex_t e15 hw1, ok, fun H6 e6 hs6 => ⟨rfl, ?_⟩⟩
        have e16 := e15.trans e6
        have hS6 : IsSch K CS H6 (.ref x2) n ws := ⟨x2, dx2, wv, rfl, hs6, ex_t e16 hw1, ok⟩
        refine ⟨_, rfl, fun x3 dx3 nx3 ndx3 nex3 => ?_⟩
        refine ⟨H6, x3, dx3, .ref x2, .ref tb, n, ws, tss, rfl, made_ex nx3 ndx3 nex3, nx3, upd_same, hS6, seqD_ex e16 (seqD_of ht1), dok, fun H7 e7 hI7 => ⟨rfl, ?_⟩⟩
        have e17 := e16.trans e7
        obtain ⟨x3', dy3, t3', sv3', ex3', hx3', _⟩ := id hI7
        cases ex3'
        refine ⟨b1, x3, dx1, _, dy3, _, rfl, rfl, e17 _ _ hb1, hx3', _, _, n, n, ws, ws, tss, tss, rfl, dat_ex e17 hDt1, hI7, fun H8 e8 => ⟨_, rfl, ?_⟩⟩
        refine ⟨false, by rw [decide_eq_true ⟨⟨rfl, rfl⟩, rfl⟩]; rfl, iteF ?_⟩
        have e18 := e17.trans e8
        have hw8 := ex_t e18 hw1
        -- others
        refine ⟨fun σ' H' => ∃ (o : Addr) (ps : List (Int × List Int)) (v10 : Option V), σ' = [some (.ref d), some (.int n), some (.ref wv), some (.ref tb), some (.ref s1), some (.ref b1), some (.int r), some (.ref D), some (.ref o), none, v10] ∧ Ex H8 H' ∧ Dp K H' (.ref o) (.list (ps.map pS)) ∧ ∀ p ∈ ps, SchOk p.1 p.2, ?_, ?_⟩
        · have okr : SchOk n ws.reverse := ⟨ok.n2, ok.n6, by rw [List.length_reverse]; exact ok.l1, by rw [List.length_reverse]; exact ok.l4, fun z hz => ok.w12 z (List.mem_reverse.mp hz)⟩
          have oka : SchOk n (ws ++ [1]) := ⟨ok.n2, ok.n6, by simp, by rw [List.length_append, List.length_singleton]; omega, fun z hz => by
            rcases List.mem_append.mp hz with h | h
            · exact ok.w12 z h
            · exact .inl (List.mem_singleton.mp h)⟩
          have wne : ws.map V.int ≠ [] := fun e => by
            rw [List.map_eq_nil_iff] at e
            rw [e] at l1
            exact absurd l1 (by decide)
          have hwl : (ws.map V.int).length + 1 ≤ sizeLine := by
            rw [List.length_map]
            exact Nat.le_trans (show ws.length + 1 ≤ 1000 by omega) (by decide)
          refine ⟨_, rfl, _, rfl, by show 2 ≤ sizeLine; decide, fun q1 hq1 => ?_⟩
          have E1 := Ex.new (o := .tup [.int n, .ref wv]) hq1
          refine ⟨_, rfl, rfl, decide (n = 2), by rw [dec_int], ite2 (fun _ => ?_) (fun _ => ?_)⟩
          · refine ⟨_, rfl, by show 2 ≤ sizeLine; decide, fun q2 hq2 => ?_⟩
            have E2 := E1.trans (Ex.new (o := .tup [.int 5, .ref wv]) hq2)
            refine ⟨_, rfl, _, rfl, wv, _, rfl, ex_t E2 hw8, fun q3 hq3 => ?_⟩
            have E3 := E2.trans (Ex.new (o := .tup (ws.map V.int).reverse) hq3)
            refine ⟨by show 2 ≤ sizeLine; decide, fun q4 hq4 => ?_⟩
            have E4 := E3.trans (Ex.new (o := .tup [.int n, .ref q3]) hq4)
            refine ⟨_, rfl, _, rfl, by show 1 ≤ sizeLine; decide, fun q5 hq5 => ?_⟩
            have E5 := E4.trans (Ex.new (o := .tup [.int 1]) hq5)
            refine ⟨wv, q5, _, [.int 1], rfl, rfl, ex_t E5 hw8, st_of upd_same, hwl, fun e => (wne e).elim, fun _ e => (List.cons_ne_nil _ _ e).elim, fun _ _ q6 hq6 => ?_⟩
            have E6 := E5.trans (Ex.new (o := .tup (ws.map V.int ++ [.int 1])) hq6)
            refine ⟨by show 2 ≤ sizeLine; decide, fun q7 hq7 => ?_⟩
            have E7 := E6.trans (Ex.new (o := .tup [.int n, .ref q6]) hq7)
            refine ⟨by show 4 ≤ sizeLine; decide, fun o ho => ?_⟩
            have E8 := E7.trans (Ex.new (o := .lst [.ref q1, .ref q2, .ref q4, .ref q7]) ho)
            refine ⟨o, [(n, ws), (5, ws), (n, ws.reverse), (n, ws ++ [1])], _, rfl, E8, .lst (sq_of upd_same) (.cons (.tup (st_of ((Ex.new ho) _ _ ((Ex.new hq7) _ _ ((Ex.new hq6) _ _ ((Ex.new hq5) _ _ ((Ex.new hq4) _ _ ((Ex.new hq3) _ _ ((Ex.new hq2) _ _ upd_same)))))))) (.cons (.int n) (.cons (dp_tI (ex_t E8 hw8)) .nil)))
              (.cons (.tup (st_of ((Ex.new ho) _ _ ((Ex.new hq7) _ _ ((Ex.new hq6) _ _ ((Ex.new hq5) _ _ ((Ex.new hq4) _ _ ((Ex.new hq3) _ _ upd_same))))))) (.cons (.int 5) (.cons (dp_tI (ex_t E8 hw8)) .nil)))
              (.cons (.tup (st_of ((Ex.new ho) _ _ ((Ex.new hq7) _ _ ((Ex.new hq6) _ _ ((Ex.new hq5) _ _ upd_same))))) (.cons (.int n) (.cons (dp_tI (st_of ?_)) .nil)))
              (.cons (.tup (st_of ((Ex.new ho) _ _ upd_same)) (.cons (.int n) (.cons (dp_tI (st_of ?_)) .nil))) .nil)))), fun p hp => ?_⟩
            · rw [List.map_reverse]
              exact (Ex.new ho) _ _ ((Ex.new hq7) _ _ ((Ex.new hq6) _ _ ((Ex.new hq5) _ _ ((Ex.new hq4) _ _ upd_same))))
            · rw [List.map_append]
              exact (Ex.new ho) _ _ ((Ex.new hq7) _ _ upd_same)
            · rcases List.mem_cons.mp hp with e | hp
              · rw [e]; exact ok
              · rcases List.mem_cons.mp hp with e | hp
                · rw [e]; exact ⟨by show (2 : Int) ≤ 5; decide, by show 5 ≤ (6 : Int); decide, ok.l1, ok.l4, ok.w12⟩
                · rcases List.mem_cons.mp hp with e | hp
                  · rw [e]; exact okr
                  · rw [List.mem_singleton.mp hp]; exact oka
          · refine ⟨_, rfl, by show 2 ≤ sizeLine; decide, fun q2 hq2 => ?_⟩
            have E2 := E1.trans (Ex.new (o := .tup [.int 2, .ref wv]) hq2)
            refine ⟨_, rfl, _, rfl, wv, _, rfl, ex_t E2 hw8, fun q3 hq3 => ?_⟩
            have E3 := E2.trans (Ex.new (o := .tup (ws.map V.int).reverse) hq3)
            refine ⟨by show 2 ≤ sizeLine; decide, fun q4 hq4 => ?_⟩
            have E4 := E3.trans (Ex.new (o := .tup [.int n, .ref q3]) hq4)
            refine ⟨_, rfl, _, rfl, by show 1 ≤ sizeLine; decide, fun q5 hq5 => ?_⟩
            have E5 := E4.trans (Ex.new (o := .tup [.int 1]) hq5)
            refine ⟨wv, q5, _, [.int 1], rfl, rfl, ex_t E5 hw8, st_of upd_same, hwl, fun e => (wne e).elim, fun _ e => (List.cons_ne_nil _ _ e).elim, fun _ _ q6 hq6 => ?_⟩
            have E6 := E5.trans (Ex.new (o := .tup (ws.map V.int ++ [.int 1])) hq6)
            refine ⟨by show 2 ≤ sizeLine; decide, fun q7 hq7 => ?_⟩
            have E7 := E6.trans (Ex.new (o := .tup [.int n, .ref q6]) hq7)
            refine ⟨by show 4 ≤ sizeLine; decide, fun o ho => ?_⟩
            have E8 := E7.trans (Ex.new (o := .lst [.ref q1, .ref q2, .ref q4, .ref q7]) ho)
            refine ⟨o, [(n, ws), (2, ws), (n, ws.reverse), (n, ws ++ [1])], _, rfl, E8, .lst (sq_of upd_same) (.cons (.tup (st_of ((Ex.new ho) _ _ ((Ex.new hq7) _ _ ((Ex.new hq6) _ _ ((Ex.new hq5) _ _ ((Ex.new hq4) _ _ ((Ex.new hq3) _ _ ((Ex.new hq2) _ _ upd_same)))))))) (.cons (.int n) (.cons (dp_tI (ex_t E8 hw8)) .nil)))
              (.cons (.tup (st_of ((Ex.new ho) _ _ ((Ex.new hq7) _ _ ((Ex.new hq6) _ _ ((Ex.new hq5) _ _ ((Ex.new hq4) _ _ ((Ex.new hq3) _ _ upd_same))))))) (.cons (.int 2) (.cons (dp_tI (ex_t E8 hw8)) .nil)))
              (.cons (.tup (st_of ((Ex.new ho) _ _ ((Ex.new hq7) _ _ ((Ex.new hq6) _ _ ((Ex.new hq5) _ _ upd_same))))) (.cons (.int n) (.cons (dp_tI (st_of ?_)) .nil)))
              (.cons (.tup (st_of ((Ex.new ho) _ _ upd_same)) (.cons (.int n) (.cons (dp_tI (st_of ?_)) .nil))) .nil)))), fun p hp => ?_⟩
            · rw [List.map_reverse]
              exact (Ex.new ho) _ _ ((Ex.new hq7) _ _ ((Ex.new hq6) _ _ ((Ex.new hq5) _ _ ((Ex.new hq4) _ _ upd_same))))
            · rw [List.map_append]
              exact (Ex.new ho) _ _ ((Ex.new hq7) _ _ upd_same)
            · rcases List.mem_cons.mp hp with e | hp
              · rw [e]; exact ok
              · rcases List.mem_cons.mp hp with e | hp
                · rw [e]; exact ⟨by show (2 : Int) ≤ 2; decide, by show 2 ≤ (6 : Int); decide, ok.l1, ok.l4, ok.w12⟩
                · rcases List.mem_cons.mp hp with e | hp
                  · rw [e]; exact okr
                  · rw [List.mem_singleton.mp hp]; exact oka
        · rintro σ' H9 ⟨o, ps, v10, rfl, e9, ho, hok⟩
          obtain ⟨o', rs, eo, hrs, hrA⟩ := dp_lst ho
          cases eo
          have e19 := e18.trans e9
          refine ⟨_, rfl, o, rfl, ⟨_, hrs⟩, ?_⟩
          refine for_it (walk_list (xs := rs)) (fun i σ H' => (∃ v9 v10, σ = [some (.ref d), some (.int n), some (.ref wv), some (.ref tb), some (.ref s1), some (.ref b1), some (.int r), some (.ref D), some (.ref o), v9, v10]) ∧ Ex H9 H') ⟨⟨_, _, rfl⟩, Ex.refl _⟩ (fun i σ H' _ p => ex_l p.2 hrs) ?_ ?_
          · rintro i x4 σ H10 H10' hi ⟨⟨v9, v10', rfl⟩, e10⟩ ⟨rfl, hx4⟩
            obtain ⟨dc, hdc, hdx⟩ := dpAll_get hrA hx4
            obtain ⟨⟨m2, us2⟩, hpm, rfl⟩ := get_map hdc
            have ok2 : SchOk m2 us2 := hok _ (List.mem_of_getElem? hpm)
            obtain ⟨qa, qx, rfl, hqa, hqA⟩ := dp_tup hdx
            cases hqA with
            | cons y1 r1 =>
              cases r1 with
              | cons y2 r2 =>
                cases r2
                cases y1
                obtain ⟨wu, rfl, hwu⟩ := dp_tI_inv y2
                have e110 := e19.trans e10
                refine ⟨_, rfl, _, rfl, qa, _, 0, _, rfl, rfl, ex_t e10 hqa, at_of (j := 0) rfl rfl, _, rfl, qa, _, 1, _, rfl, rfl, ex_t e10 hqa, at_of (j := 1) rfl rfl, fun x5 dx5 nx5 ndx5 nex5 => ?_⟩
                refine ⟨_, x5, dx5, wu, m2, us2, rfl, made_ex nx5 ndx5 nex5, nx5, upd_same, ex_t e10 hwu, ok2, fun H11 e11 hs11 => ⟨rfl, ?_⟩⟩
                have e111 := e110.trans e11
                refine ⟨s1, x5, dz1, _, dx5, _, rfl, rfl, e111 _ _ hs1, hs11, _, _, n, m2, ws, us2, rfl, sch_ex e111 hS1, ⟨x5, dx5, wu, rfl, hs11, ex_t (e10.trans e11) hwu, ok2⟩, fun H12 e12 => ⟨_, rfl, ?_⟩⟩
                have e912 := (e10.trans e11).trans e12
                refine ⟨_, rfl, _, rfl, _, rfl, by show 2 ≤ sizeLine; decide, fun q8 hq8 => ?_⟩
                have E8 := Ex.new (o := .tup [.int n, .ref wv]) hq8
                refine eqD_of (a := (m2, us2)) (b := (n, ws)) codS (by decide) (.tup (ex_t (e912.trans E8) hqa) (.cons (.int m2) (.cons (dp_tI (ex_t (e912.trans E8) hwu)) .nil))) (.tup (st_of upd_same) (.cons (.int n) (.cons (dp_tI (ex_t ((e19.trans e912).trans E8) hw1)) .nil))) ?_
                refine ⟨rfl, false, ?_, iteF ⟨⟨_, _, rfl⟩, e912.trans E8⟩⟩
                have ed : decide (n = m2 ∧ ws = us2) = decide ((m2, us2) = (n, ws)) := by
                  by_cases h1 : n = m2
                  · by_cases h2 : ws = us2
                    · subst h1 h2
                      simp
                    · rw [decide_eq_false fun z => h2 z.2, decide_eq_false fun z => h2 (Prod.mk.inj z).2.symm]
                  · rw [decide_eq_false fun z => h1 z.1, decide_eq_false fun z => h1 (Prod.mk.inj z).1.symm]
                rw [ed]
                simp
          · rintro σ H10 ⟨⟨v9, v10', rfl⟩, e10⟩
            exact q _ (e1.trans (ExD.of (e19.trans e10))) (drw_ex (e19.trans e10) d1)
end
end SP

set_option Elab.async false
set_option maxRecDepth 100000
set_option maxHeartbeats 2000000
namespace SP
open PySem PySem.Spec PyProof.Rows L2 Evl

theorem withM_zip (ps : List (List Int × Int)) (h : ∀ p ∈ ps, 0 ≤ p.2) (c : Nat) (v : Int) :
    withM (ps.filter fun p => decide (0 < p.2)) c v = ((ps.filter fun p => decide (p.1[c]? = some v)).map (·.2)).sum := by
  unfold withM
  induction ps with
  | nil => rfl
  | cons p r ih =>
    have ih := ih fun q hq => h q (List.mem_cons_of_mem _ hq)
    have hp := h p List.mem_cons_self
    rw [List.filter_cons, List.filter_cons]
    by_cases h1 : 0 < p.2
    · rw [if_pos (decide_eq_true h1), List.filter_cons]
      by_cases h2 : p.1[c]? = some v
      · rw [if_pos (decide_eq_true h2), if_pos (decide_eq_true h2), List.map_cons, List.map_cons, List.sum_cons, List.sum_cons, ih]
      · rw [if_neg (by simpa using h2), if_neg (by simpa using h2), ih]
    · rw [if_neg (by simpa using h1), ih]
      by_cases h2 : p.1[c]? = some v
      · have h3 : p.2 = 0 := by omega
        rw [if_pos (decide_eq_true h2), List.map_cons, List.sum_cons, h3, Int.zero_add]
      · rw [if_neg (by simpa using h2)]
theorem neD_same {K : PySem.W.Frag} {H : Hp} {x y : V} {d : PyData} {Q : VK} (hs : SeqAt.shaped d = true) (hx : Dp K H x d) (hy : Dp K H y d) (q : Q (.bl false) H) : rNeD K x y H Q := by
  refine ⟨d, d, hx, hy, hs, hs, ?_⟩
  have e : PyData.eqv d d = true := SeqAt.eqv_refl d (SeqAt.canLay_of_shaped hs)
  rw [e]
  exact q

theorem shp4 (n : Int) (ws : List Int) (l : Int) : SeqAt.shaped (.tuple [.int n, tI ws, .int l, .int l]) = true := by
  have h1 := Cod.int.layAll ws
  have h2 := Cod.int.depAll ws
  show (PyData.canLay0 _ && decide (PyData.depth _ ≤ 64)) = true
  rw [Bool.and_eq_true]
  refine ⟨by simp only [PyData.canLay0, PyData.canLayAll0, h1, Bool.and_true], decide_eq_true ?_⟩
  simp only [PyData.depth, PyData.depthAll]
  omega
theorem codP : Cod pI 2 := Cod.pair (Cod.tup Cod.int) Cod.int
section
variable {P : Program} {w : World} {K : PySem.W.Frag} {mg : Str → Option Value} {base : Heap} {CS CD : Addr}
/-- what stands while a turn of the law looks at its schema and data -/
structure Wld (K : PySem.W.Frag) (CS CD d a : Addr) (ns : List Int) (n : Int) (ws : List Int) (tss : List (List Int)) (wv : Addr) (tv sv dv : V) (H : Hp) : Prop where
  drw : Drw K d a ns H
  wid : SqT K H wv (ws.map V.int)
  tab : Dp K H tv (.list (tss.map lI))
  sch : IsSch K CS H sv n ws
  dat : IsDat K CS CD H dv n ws tss
theorem Wld.ex {d a : Addr} {ns : List Int} {n : Int} {ws : List Int} {tss : List (List Int)} {wv : Addr} {tv sv dv : V} {H H' : Hp} (h : Wld K CS CD d a ns n ws tss wv tv sv dv H) (e : Ex H H') : Wld K CS CD d a ns n ws tss wv tv sv dv H' :=
  ⟨drw_ex e h.drw, ex_t e h.wid, dp_mono e _ _ h.tab, sch_ex e h.sch, dat_ex e h.dat⟩
theorem Wld.exD {d a : Addr} {ns : List Int} {n : Int} {ws : List Int} {tss : List (List Int)} {wv : Addr} {tv sv dv : V} {H H' : Hp} (h : Wld K CS CD d a ns n ws tss wv tv sv dv H) (e : ExD d H H') (d' : Drw K d a ns H') : Wld K CS CD d a ns n ws tss wv tv sv dv H' :=
  ⟨d', st_D h.drw e h.wid, tl_D h.drw e h.tab, sch_D h.drw e h.sch, dat_D h.drw e h.dat⟩
theorem sk_kdD {k : Bool} {H : Hp} {D b : Addr} {us xs : List V} (hD : H D = some (.lst us)) (no : us ≠ xs) (h : Sk k K H b xs) : Sk k K (Kd D H) b xs := by
  cases k with
  | true =>
    rcases h with (h | ⟨o, h⟩) | h
    · refine .inl (.inl ?_)
      rw [kd_ne (ne_of h hD fun e => no (HO.lst.inj e).symm)]
      exact h
    · refine .inl (.inr ⟨o, ?_⟩)
      rw [kd_ne (ne_of h hD (by intro z; cases z))]
      exact h
    · exact .inr h
  | false =>
    rcases h with (h | ⟨o, h⟩) | h
    · refine .inl (.inl ?_)
      rw [kd_ne (ne_of h hD (by intro z; cases z))]
      exact h
    · refine .inl (.inr ⟨o, ?_⟩)
      rw [kd_ne (ne_of h hD (by intro z; cases z))]
      exact h
    · exact .inr h

abbrev NL : List Str := ["script", "draw", "turn", "size", "widths", "tables", "schema", "counts", "data", "table", "cells", "at", "column", "value", "cell", "count"]
theorem ndL : NL.Nodup := by decide +kernel
structure Calls (P : Program) (w : World) (K : PySem.W.Frag) (mg : Str → Option Value) (base : Heap) (CS CD : Addr) : Prop where
  ct : C8.Cal P w K mg base 2 "_law_take" (spTake K) []
  cg : C8.Cal P w K mg base 3 "_law_given" (spGiven K) []
  csch : C8.Cal P w K mg base 3 "_law_schema" (spSchema K) []
  ctab : C8.Cal P w K mg base 3 "_law_tables" (spTables K) []
  clc : C8.Cal P w K mg base 1 "_law_cells" (spLCells K) []
  ceq : C8.Cal P w K mg base 8 "_law_equal_right" (spEqR K CS CD) []
  cS : C8.Mak P w K mg base 5 "Schema" CS (spSchInit K CS) []
  cD : C8.Mak P w K mg base 6 "Data" CD (spDatInit K CS CD) []
  cSE : C8.Met P w K mg base 1 CS "__eq__" (spSchEq K CS) []
  cSL : C8.Met P w K mg base 1 CS "__len__" (spSchLen K CS) []
  cSC : C8.Met P w K mg base 4 CS "cells" (spCells K CS) []
  cDL : C8.Met P w K mg base 1 CD "__len__" (spDatLen K CS CD) []
  cDR : C8.Met P w K mg base 4 CD "rows" (spRows K CS CD) []
  cDF : C8.Met P w K mg base 5 CD "filled" (spFilled K CS CD) []
  cDC : C8.Met P w K mg base 5 CD "count_of" (spCountOf K CS CD) []
  cDW : C8.Met P w K mg base 6 CD "with_value" (spWithV K CS CD) []
def spLaw (K : PySem.W.Frag) : Sp := fun vs H Q _ => ∃ (a : Addr) (ns : List Int), vs = [.ref a] ∧ SqL K H a (ns.map V.int) ∧ ns.length ≤ 63 ∧ ∀ H', Q (.bl true) H'
theorem ok_law (T : Txt K mg CS CD) (C : Calls P w K mg base CS CD) {f : Addr} {fd : FuncData} (F : L2.Fun K "law" "law" (top 36) f fd) : FnOk P w K mg base L2.CX0 9 f fd ["script"] (spLaw K) := by
  refine F.ok (N := NL) ⟨rfl, rfl, rfl, ndL, rfl, by decide +kernel, by decide +kernel⟩ (fun vs H Q E h => ?_) (fun cdv A outer s H vs Q E hr h => ?_)
  · obtain ⟨a, ns, rfl, _⟩ := h
    rfl
  · obtain ⟨a, ns, rfl, hS, h63, q⟩ := h
    have nd := ndL
    refine ⟨_, pss_cons (ps_set (i := 1) nd rfl (Or.inr rfl) (pe_lst (pa_cons (pv 0) (pa_cons pe_int pa_nil))))
      (pss_cons (ps_for PassesOwn.never rfl (pi_range1 (by rfl) T.range_ (pa_cons pe_int pa_nil)) (pg_name (i := 2) nd rfl (Or.inl rfl))
        (pss_cons (ps_asg (C8.pe_c C.csch hr (by decide) (by rfl) (pa_cons (pv 1) (pa_cons pe_int pa_nil))) (pg_tup rfl (pgs_cons (pg_name (i := 3) nd rfl (Or.inl rfl)) (pgs_cons (pg_name (i := 4) nd rfl (Or.inl rfl)) pgs_nil))))
        (pss_cons (ps_set (i := 5) nd rfl (Or.inl rfl) (C8.pe_c C.ctab hr (by decide) (by rfl) (pa_cons (pv 1) (pa_cons (pv 3) (pa_cons (pv 4) (pa_cons pe_int pa_nil))))))
        (pss_cons (ps_set (i := 6) nd rfl (Or.inl rfl) (C8.pe_mk C.cS hr (by decide) (by rfl) (pa_cons (pv 3) (pa_cons (pv 4) pa_nil))))
        (pss_cons (ps_set (i := 8) nd rfl (Or.inl rfl) (C8.pe_mk C.cD hr (by decide) (by rfl) (pa_cons (pv 6) (pa_cons (C8.pe_c C.cg hr (by decide) (by rfl) (pa_cons (pv 1) (pa_cons
          (pe_lc (own := [("counts", 7)]) (g := gName 7) (tt := tYes) (te := tCall (spGiven K) [] C8.E0 (tCons (tVar 1) (tCons (tVar 7) tNil))) rfl nd (pi_list (pv 5))
            (blkOk_by (N := NL) (sc := defScope (top 36)) (by decide +kernel)) (fun _ _ _ _ _ => pg_name (i := 7) nd rfl (Or.inl rfl)) (fun _ _ _ _ _ => pts_nil) (fun _ _ _ _ _ => C8.pe_c C.cg hr (by decide) (by rfl) (pa_cons (pv 1) (pa_cons (pv 7) pa_nil)))) pa_nil))) pa_nil))))
        (pss_cons (ps_if (pt_cmpR (op_neD hr.units) (pe_tup (pa_cons (pe_fld (pv 6) rfl) (pa_cons (pe_fld (pv 6) rfl) (pa_cons (pe_callB (call_lenM C.cSL hr (by decide)) (by rfl) T.len_ PySem.boot_len (pa_cons (pv 6) pa_nil)) (pa_cons (pe_callB (call_lenM C.cDL hr (by decide)) (by rfl) T.len_ PySem.boot_len (pa_cons (pv 8) pa_nil)) pa_nil)))))
            (pe_tup (pa_cons (pv 3) (pa_cons (pv 4) (pa_cons (pe_callB call_len_seq (by rfl) T.len_ PySem.boot_len (pa_cons (pv 4) pa_nil)) (pa_cons (pe_callB call_len_seq (by rfl) T.len_ PySem.boot_len (pa_cons (pv 4) pa_nil)) pa_nil))))) (nomark _)) pss_never pss_nil)
        (pss_cons (ps_if (PW.pt (pw_or (pt_cmpR (op_neM C.cSE T.neS hr (by decide)) (pe_fld (pv 8) rfl) (pv 6) (nomark _)) (pw_or1 (pt_cmpR (op_neD hr.units) (pe_fld (pv 8) rfl) (pe_callTy call_tupO (by rfl) T.tuple_ (by decide +kernel) (pa_cons
            (pe_lc (own := [("counts", 7)]) (g := gName 7) (tt := tYes) (te := tCB (rTupO K) (tCons (tVar 7) tNil)) rfl nd (pi_list (pv 5))
              (blkOk_by (N := NL) (sc := defScope (top 36)) (by decide +kernel)) (fun _ _ _ _ _ => pg_name (i := 7) nd rfl (Or.inl rfl)) (fun _ _ _ _ _ => pts_nil) (fun _ _ _ _ _ => pe_callTy (T := "tuple") call_tupO (by rfl) T.tuple_ (by decide +kernel) (pa_cons (pv 7) pa_nil))) pa_nil)) (nomark _))))) pss_never pss_nil)
        (pss_cons (ps_for PassesOwn.never rfl (pi_enumK (by rfl) T.enum_ (pa_cons (pv 5) pa_nil)) (pg_tup rfl (pgs_cons (pg_name (i := 9) nd rfl (Or.inl rfl)) (pgs_cons (pg_name (i := 7) nd rfl (Or.inl rfl)) pgs_nil)))
          (pss_cons (ps_set (i := 10) nd rfl (Or.inl rfl) (C8.pe_c C.clc hr (by decide) (by rfl) (pa_cons (pv 3) (pa_cons (pe_ix ix_tup (pv 4) (pv 9) (fun _ _ => rfl)) pa_nil))))
          (pss_cons (ps_if (PW.pt (pw_or (pt_cmpR (op_neD hr.units) (C8.pe_mt C.cSC hr (by decide) (pv 6) (pa_cons (pv 9) pa_nil)) (pv 10) (nomark _))
              (pw_or1 (pt_cmpR op_ne (C8.pe_mt C.cDR hr (by decide) (pv 8) (pa_cons (pv 9) pa_nil)) (pe_callB (cr_sumK rfl) (by rfl) T.sum_ (by decide +kernel) (pa_cons (pv 7) pa_nil)) (nomark _))))) pss_never pss_nil)
          (pss_cons (ps_if (pt_cmpR (op_neD hr.units) (C8.pe_mt C.cDF hr (by decide) (pv 8) (pa_cons (pv 9) pa_nil))
              (pe_lc (own := [("cell", 14), ("count", 15)]) (g := gTup K 2 (gCons (gName 14) (gCons (gName 15) gNil))) (tt := tTest (tOp (rI0 fun i j => .bl (decide (j < i))) (tVar 15) (tC (.int 0)))) (te := tTup (tCons (tVar 14) (tCons (tVar 15) tNil))) rfl nd
                (pi_zipK (by rfl) T.zip_ (pa_cons (pv 10) (pa_cons (pv 7) pa_nil)))
                (blkOk_by (N := NL) (sc := defScope (top 36)) (by decide +kernel)) (fun _ _ _ _ _ => pg_tup rfl (pgs_cons (pg_name (i := 14) nd rfl (Or.inl rfl)) (pgs_cons (pg_name (i := 15) nd rfl (Or.inl rfl)) pgs_nil)))
                (fun _ _ _ _ _ => pts_one (pt_cmpR op_gt (pv 15) pe_int (nomark _))) (fun _ _ _ _ _ => pe_tup (pa_cons (pv 14) (pa_cons (pv 15) pa_nil)))) (nomark _)) pss_never pss_nil)
          (pss_cons (ps_set (i := 11) nd rfl (Or.inl rfl) (C8.pe_c C.ct hr (by decide) (by rfl) (pa_cons (pv 1) (pa_cons (pe_callB call_len_seq (by rfl) T.len_ PySem.boot_len (pa_cons (pv 10) pa_nil)) pa_nil))))
          (pss_cons (ps_if (pt_cmpR op_ne (C8.pe_mt C.cDC hr (by decide) (pv 8) (pa_cons (pv 9) (pa_cons (pe_ix ix_list (pv 10) (pv 11) (fun _ _ => rfl)) pa_nil))) (pe_ix ix_list (pv 7) (pv 11) (fun _ _ => rfl)) (nomark _)) pss_never pss_nil)
          (pss_one (ps_for PassesOwn.never rfl (pi_range1 (by rfl) T.range_ (pa_cons (pe_ix ix_tup (pv 4) (pv 9) (fun _ _ => rfl)) pa_nil)) (pg_name (i := 12) nd rfl (Or.inr rfl))
            (pss_cons (ps_set (i := 13) nd rfl (Or.inr rfl) (C8.pe_c C.ct hr (by decide) (by rfl) (pa_cons (pv 1) (pa_cons (pv 3) pa_nil))))
            (pss_one (ps_if (pt_cmpR op_ne (C8.pe_mt C.cDW hr (by decide) (pv 8) (pa_cons (pv 9) (pa_cons (pv 12) (pa_cons (pv 13) pa_nil)))) (pe_callB (cr_sumK rfl) (by rfl) T.sum_ (by decide +kernel) (pa_cons
                (pe_lc (own := [("cell", 14), ("count", 15)]) (g := gTup K 2 (gCons (gName 14) (gCons (gName 15) gNil))) (tt := tTest (tOp rEq (tOp (rIxT K) (tVar 14) (tVar 12)) (tVar 13))) (te := tVar 15) rfl nd
                  (pi_zipK (by rfl) T.zip_ (pa_cons (pv 10) (pa_cons (pv 7) pa_nil)))
                  (blkOk_by (N := NL) (sc := defScope (top 36)) (by decide +kernel)) (fun _ _ _ _ _ => pg_tup rfl (pgs_cons (pg_name (i := 14) nd rfl (Or.inl rfl)) (pgs_cons (pg_name (i := 15) nd rfl (Or.inl rfl)) pgs_nil)))
                  (fun _ _ _ _ _ => pts_one (pt_cmpR op_eq (pe_ix ix_tup (pv 14) (pv 12) (fun _ _ => rfl)) (pv 13) (nomark _))) (fun _ _ _ _ _ => pv 15)) pa_nil)) (nomark _)) pss_never pss_nil)))))))))))
        (pss_one (ps_if (pt_not (pt_val (C8.pe_c C.ceq hr (by decide) (by rfl) (pa_cons (pv 1) (pa_cons (pv 3) (pa_cons (pv 4) (pa_cons (pv 5) (pa_cons (pv 6) (pa_cons (pv 8) pa_nil))))))))) pss_never pss_nil))))))))))
      (pss_one (ps_ret pe_bl))), ?_⟩
    refine ⟨_, rfl, by show 2 ≤ sizeLine; decide, fun d hdn => ?_⟩
    have d0 : Drw K d a ns (upd H d (.lst [.ref a, .int 0])) := ⟨⟨0, upd_same⟩, ex_l (Ex.new hdn) hS, h63⟩
    refine ⟨_, rfl, by decide, by decide, ?_⟩
    refine for_it walk_range (fun i σ H' => (∃ v2 v3 v4 v5 v6 v7 v8 v9 v10 v11 v12 v13 v14 v15, σ = [some (.ref a), some (.ref d), v2, v3, v4, v5, v6, v7, v8, v9, v10, v11, v12, v13, v14, v15]) ∧ Drw K d a ns H')
      ⟨⟨_, _, _, _, _, _, _, _, _, _, _, _, _, _, rfl⟩, d0⟩ (fun _ _ _ _ _ => trivial) ?_ (fun σ H1 _ => q H1)
    rintro i x σ H1 H1' hi ⟨⟨v2, v3, v4, v5, v6, v7, v8, v9, v10, v11, v12, v13, v14, v15, rfl⟩, d1⟩ ⟨rfl, rfl⟩
    -- size, widths = ..; tables = ..; schema = ..
    refine ⟨_, rfl, d, a, ns, rfl, d1, fun p wv n ws H2 ok w3 e2 d2 hp hw2 => ?_⟩
    refine ⟨p, _, rfl, hp, rfl, _, _, rfl, _, _, rfl, rfl, ?_⟩
    refine ⟨_, rfl, _, rfl, _, rfl, d, a, wv, n, ws, ns, rfl, d2, hw2, ok, fun tv tss H3 e3 d3 dok ht3 => ?_⟩
    have hw3 := st_D d2 e3 hw2
    refine ⟨_, rfl, _, rfl, fun sx dx nx ndx nex => ⟨H3, sx, dx, wv, n, ws, rfl, made_ex nx ndx nex, nx, upd_same, hw3, ok, fun H4 e4 hs4 => ⟨rfl, ?_⟩⟩⟩
    have d4 := drw_ex e4 d3
    have hw4 := ex_t e4 hw3
    have hS4 : IsSch K CS H4 (.ref sx) n ws := ⟨sx, dx, wv, rfl, hs4, hw4, ok⟩
    have ht4 := dp_mono e4 _ _ ht3
    clear e2 d2 hp hw2 ht3 hw3 d3 e3 hs4
    obtain ⟨tb, us, rfl, htb, htA⟩ := dp_lst ht4
    have hul := dpAll_len htA
    rw [List.length_map] at hul
    have l4 := ok.l4
    have dl := dok.len
    -- data = Data(schema, _law_given(..))
    refine ⟨_, rfl, _, rfl, _, rfl, tb, rfl, ⟨_, htb⟩, fun D hD => ?_⟩
    have ndD : D ≠ d := by
      obtain ⟨⟨c, h⟩, _⟩ := d4
      exact (ne_of_none h hD).symm
    refine lc_it (walk_list (xs := us)) (fun i Hx => ∃ gs : List V, gs.length = i ∧ Hx D = some (.lst gs) ∧ ExD d H4 Hx ∧ Drw K d a ns Hx ∧ ∀ (j : Nat) (u : V) (ms : List Int), gs[j]? = some u → tss[j]? = some ms → ∃ (b : Addr) (k : Bool), u = .ref b ∧ Sk k K (Kd D Hx) b (ms.map V.int))
      ⟨[], rfl, upd_same, ExD.of (Ex.new hD), drw_ex (Ex.new hD) d4, fun j u ms h => by simp at h⟩ (fun i Hx _ ⟨_, _, _, ex, _, _⟩ => sk_D' (k := true) d4 ex (noDr_lI htA) htb) ?_ ?_
    · rintro i y Hx Hx' hi ⟨gs, hgl, hgs, ex, dx4, hin⟩ ⟨rfl, hy⟩
      obtain ⟨dc, hdc, hdy⟩ := dpAll_get htA hy
      obtain ⟨ms, hms, rfl⟩ := get_map hdc
      obtain ⟨b, rfl, hb⟩ := dp_lI_inv hdy
      obtain ⟨z, hz⟩ : ∃ z, ws[i]? = some z := ⟨_, List.getElem?_eq_getElem (show i < ws.length by omega)⟩
      have z12 := ok.w12 z (List.mem_of_getElem? hz)
      have hpos := cellsM_pos ok.n2 z12
      have h36 := cellsM_len ok.n6 z12
      have hml := (dok.cnt i z ms hz hms).1
      have hbx : SqL K Hx' b (ms.map V.int) := sk_D' (k := true) d4 ex (noDr_ints ms) hb
      refine ⟨rfl, iteT (B := False) ⟨_, rfl, _, rfl, d, a, b, ns, _, rfl, dx4, hbx, by rw [List.length_map]; omega, noDr_ints ms, fun k g H5 e5 d5 hg => ?_⟩⟩
      have hgs5 := e5 _ _ ndD hgs
      refine ⟨gs, hgs5, Nat.lt_of_le_of_lt (show gs.length ≤ 1000 by omega) (by decide), gs ++ [.ref g], ?_, upd_same, exD_upd hD (ex.trans e5), drw_upd d4 hD (ex.trans e5) d5, ?_⟩
      · rw [List.length_append, List.length_singleton, hgl]
      · intro j u ms' h1 h2
        rw [kd_upd]
        by_cases hj : j < gs.length
        · rw [List.getElem?_append_left hj] at h1
          obtain ⟨b', k', rfl, hb'⟩ := hin j u ms' h1 h2
          exact ⟨b', k', rfl, sk_D' (drw_kd d4 hD ex dx4) (exD_kd e5) (noDr_ints ms') hb'⟩
        · rw [List.getElem?_append_right (by omega)] at h1
          have hj0 : j - gs.length = 0 := by
            have := (List.getElem?_eq_some_iff.mp h1).1
            rw [List.length_singleton] at this
            omega
          rw [hj0] at h1
          have eu : V.ref g = u := by simpa using h1
          have ej : j = i := by omega
          subst eu ej
          rw [hms] at h2
          cases h2
          refine ⟨g, k, rfl, sk_kdD hgs5 (fun e => ?_) hg⟩
          have hlen : gs.length = ms.length := by rw [e, List.length_map]
          obtain ⟨g0, hg0⟩ : ∃ g0, gs[0]? = some g0 := ⟨_, List.getElem?_eq_getElem (show 0 < gs.length by omega)⟩
          obtain ⟨m0, hm0⟩ : ∃ m0, tss[0]? = some m0 := ⟨_, List.getElem?_eq_getElem (show 0 < tss.length by omega)⟩
          obtain ⟨b0, k0, rfl, _⟩ := hin 0 g0 m0 hg0 hm0
          rw [e, List.getElem?_map] at hg0
          cases hq : ms[0]? with
          | none =>
            rw [hq] at hg0
            cases hg0
          | some q0 =>
            rw [hq] at hg0
            cases hg0
    · rintro Hx ⟨gs, hgl, hgs, ex, dx4, hin⟩
      have hgr : ∀ (j : Nat) (u : V), gs[j]? = some u → ∃ b, u = .ref b := fun j u h => by
        have hj := (List.getElem?_eq_some_iff.mp h).1
        obtain ⟨b, k, e, _⟩ := hin j u _ h (List.getElem?_eq_getElem (show j < tss.length by omega))
        exact ⟨b, e⟩
      have noG : NoDr gs := fun a' c e => by
        obtain ⟨b, hb⟩ := hgr 1 (.int c) (by rw [e]; rfl)
        cases hb
      refine ⟨d, a, D, ns, gs, rfl, dx4, SqL.of hgs, by omega, noG, fun k g H5 e5 d5 hg => ?_⟩
      have e45 := ex.trans e5
      have hS5 := sch_D d4 e45 hS4
      have hT5 : SeqD K H5 (.ref g) tss := ⟨g, k, gs, rfl, hg, by omega, fun j u ms h1 h2 => by
        obtain ⟨b, k', rfl, hb⟩ := hin j u ms h1 h2
        exact ⟨b, k', rfl, sk_D' dx4 e5 (noDr_ints ms) (sk_ex kd_ex hb)⟩⟩
      refine fun dv ddx nxd ndxd nexd => ⟨H5, dv, ddx, .ref sx, .ref g, n, ws, tss, rfl, made_ex nxd ndxd nexd, nxd, upd_same, hS5, hT5, dok, fun H6 e6 hI6 => ⟨rfl, ?_⟩⟩
      have W6 : Wld K CS CD d a ns n ws tss wv (.ref tb) (.ref sx) (.ref dv) H6 := ⟨drw_ex e6 d5, ex_t e6 (st_D d4 e45 hw4), dp_mono e6 _ _ (tl_D d4 e45 ht4), sch_ex e6 hS5, hI6⟩
      clear hin hgr noG hT5 hS5 e45 hg d5 e5 hgs ex dx4 hI6 e6 hS4 hw4 ht4 htb htA d4 hD ndD
      -- the four attributes
      obtain ⟨s1, dz1, w1, es, hs1, hw1, ok1⟩ := id W6.sch
      cases es
      obtain ⟨b1, dy1, t1, svx, eb, hb1, hSx, hTx, _⟩ := id W6.dat
      cases eb
      obtain ⟨s2, dz2, w2, rfl, hs2, hw2, ok2⟩ := id hSx
      have hwl : (ws.map V.int).length = ws.length := List.length_map ..
      refine ⟨_, rfl, sx, CS, dz1, _, _, rfl, hs1, T.iS.cl, T.nSs, schF_size _ _, _, rfl, sx, CS, dz1, _, _, rfl, hs1, T.iS.cl, T.nSw, schF_widths _ _, ?_⟩
      refine ⟨_, rfl, sx, dz1, _, rfl, hs1, _, n, ws, rfl, W6.sch, fun H7 e7 => ⟨_, rfl, ⟨by omega, by omega⟩, ?_⟩⟩
      refine ⟨_, rfl, dv, dy1, _, rfl, e7 _ _ hb1, _, n, ws, tss, rfl, dat_ex e7 W6.dat, fun H8 e8 => ⟨_, rfl, ⟨by omega, by omega⟩, by show 4 ≤ sizeLine; decide, fun q1 hq1 => ?_⟩⟩
      have E1 := (e7.trans e8).trans (Ex.new (o := .tup [.int n, .ref w1, .int (ws.length : Nat), .int (ws.length : Nat)]) hq1)
      refine ⟨_, rfl, _, rfl, _, rfl, wv, _, rfl, .inr (ex_t E1 W6.wid), _, rfl, wv, _, rfl, .inr (ex_t E1 W6.wid), by show 4 ≤ sizeLine; decide, fun q2 hq2 => ?_⟩
      rw [hwl]
      have E2 := E1.trans (Ex.new (o := .tup [.int n, .ref wv, .int (ws.length : Nat), .int (ws.length : Nat)]) hq2)
      refine neD_same (shp4 n ws (ws.length : Nat)) (.tup (st_of ((Ex.new hq2) _ _ upd_same)) (.cons (.int n) (.cons (dp_tI (ex_t E2 hw1)) (.cons (.int _) (.cons (.int _) .nil))))) (.tup (st_of upd_same) (.cons (.int n) (.cons (dp_tI (ex_t E2 W6.wid)) (.cons (.int _) (.cons (.int _) .nil))))) ?_
      refine ⟨false, rfl, iteF ?_⟩
      -- data.schema != schema or data.tables != ..
      refine ⟨_, rfl, dv, CD, dy1, _, _, rfl, E2 _ _ hb1, T.iD.cl, T.nDs, datF_schema _ _, _, rfl, ?_⟩
      refine ⟨s2, sx, dz2, _, dz1, _, rfl, rfl, E2 _ _ hs2, E2 _ _ hs1, _, _, n, n, ws, ws, rfl, sch_ex E2 hSx, sch_ex E2 W6.sch, fun H9 e9 => ⟨_, rfl, ?_⟩⟩
      refine ⟨false, by rw [decide_eq_true ⟨rfl, rfl⟩]; rfl, iteF ?_⟩
      have E3 := E2.trans e9
      obtain ⟨tb', us9, et, htb9, htA9⟩ := dp_lst (dp_mono E3 _ _ W6.tab)
      cases et
      have hul9 := dpAll_len htA9
      rw [List.length_map] at hul9
      refine ⟨_, rfl, dv, CD, dy1, _, _, rfl, E3 _ _ hb1, T.iD.cl, T.nDt, datF_tables _ _, ?_⟩
      refine ⟨_, rfl, tb, rfl, ⟨_, htb9⟩, fun D2 hD2 => ?_⟩
      refine lc_dp (K := K) (walk_list (xs := us9)) hD2 (fun i => (tss.take i).map tI) rfl (fun i hi => ?_) (fun H' e => ex_l e htb9) ?_ ?_
      · rw [List.length_map, List.length_take]
        exact Nat.lt_of_le_of_lt (show min i tss.length ≤ 1000 by omega) (by decide)
      · rintro i y Hx Hx' Q' Qn hi' ex ⟨acc, ha⟩ ⟨rfl, hy⟩ k1 k2
        obtain ⟨dc, hdc, hdy⟩ := dpAll_get htA9 hy
        obtain ⟨ms, hms, rfl⟩ := get_map hdc
        obtain ⟨b, rfl, hb⟩ := dp_lI_inv hdy
        refine ⟨rfl, iteT (B := False) ⟨_, rfl, b, _, rfl, .inl ⟨ex_l (ex.trans kd_ex) hb, fun l hl => k1 _ (tI ms) _ (Ex.new hl) (dp_tI (st_of ?_)) ?_⟩⟩⟩
        · rw [kd_ne (ne_of_none ha hl).symm]
          exact upd_same
        · rw [take_snoc hms, List.map_append]
          rfl
      · rintro H10 e10 _ ⟨xs, hxs, hxA⟩
        rw [hul9, take_all] at hxA
        refine ⟨D2, xs, rfl, .inl ⟨SqL.of hxs, fun l hl => ?_⟩⟩
        have E4 := (E3.trans e10).trans (Ex.new (o := .tup xs) hl)
        refine neD_of (a := tss) (b := tss) (Cod.tup (Cod.tup Cod.int)) (by decide) (dp_mono E4 _ _ hTx) (.tup (st_of upd_same) (dpAll_mono (kd_ex.trans (Ex.new hl)) _ _ hxA)) ?_
        refine ⟨false, by rw [decide_eq_true rfl]; rfl, iteF ?_⟩
        have W11 := W6.ex E4
        clear hxA hxs e10 hD2 hTx E3 htb9 htA9 e9 E2 E1 e7 e8 hs1 hs2 hb1 hSx hw1 hw2
        generalize (upd H10 l (.tup xs)) = H11 at W11
        -- for table, counts in enumerate(tables)
        obtain ⟨tb', vs, et, htb, htA⟩ := dp_lst W11.tab
        cases et
        have hvl := dpAll_len htA
        rw [List.length_map] at hvl
        refine ⟨_, rfl, true, tb, vs, rfl, htb, ?_⟩
        refine for_it walk_enumK (fun i σ H' => (∃ v2 v7 v9 v10 v11 v12 v13 v14 v15, σ = [some (.ref a), some (.ref d), v2, some (.int n), some (.ref wv), some (.ref tb), some (.ref sx), v7, some (.ref dv), v9, v10, v11, v12, v13, v14, v15]) ∧ ExD d H11 H' ∧ Wld K CS CD d a ns n ws tss wv (.ref tb) (.ref sx) (.ref dv) H')
          ⟨⟨_, _, _, _, _, _, _, _, _, rfl⟩, ExD.refl _ _, W11⟩ (fun i σ H' _ p => sk_D' (k := true) W11.drw p.2.1 (noDr_lI htA) htb) ?_ ?_
        · rintro i x σ Ha0 Ha' hi ⟨⟨u2, u7, u9, u10, u11, u12, u13, u14, u15, rfl⟩, ea0, Wa0⟩ ⟨Tp, x1, x2, rfl, hTp, rfl, h1, h2⟩
          cases h1
          obtain ⟨dc, hdc, hdx⟩ := dpAll_get (dpAll_lI_D W11.drw ea0 htA) h2
          obtain ⟨ms, hms, rfl⟩ := get_map hdc
          obtain ⟨cb, rfl, hcb0⟩ := dp_lI_inv hdx
          have hit : i < tss.length := (List.getElem?_eq_some_iff.mp hms).1
          obtain ⟨z, hz⟩ : ∃ z, ws[i]? = some z := ⟨_, List.getElem?_eq_getElem (show i < ws.length by omega)⟩
          have z12 := ok.w12 z (List.mem_of_getElem? hz)
          obtain ⟨hml, hm9⟩ := dok.cnt i z ms hz hms
          have h36 := cellsM_len ok.n6 z12
          have hpos := cellsM_pos ok.n2 z12
          have hzT : ws[((i : Int)).toNat]? = some z := by rw [Int.toNat_natCast]; exact hz
          have hmT : tss[((i : Int)).toNat]? = some ms := by rw [Int.toNat_natCast]; exact hms
          have eT := Ex.new (o := .tup [.int (i : Nat), .ref cb]) hTp
          have Wa := Wa0.ex eT
          have hcb := ex_l eT hcb0
          refine ⟨Tp, _, rfl, st_of upd_same, rfl, _, _, rfl, _, _, rfl, rfl, ?_⟩
          have eaa : ExD d H11 _ := ea0.trans (ExD.of eT)
          generalize (upd Ha0 Tp (.tup [.int (i : Nat), .ref cb])) = Ha at Wa hcb eaa
          clear hcb0 Wa0 ea0 eT hTp hdx hdc h2
          -- cells = ..
          refine ⟨_, rfl, _, rfl, _, rfl, wv, _, _, _, rfl, rfl, Wa.wid, at_of (j := i) rfl (by rw [List.getElem?_map, hz]; rfl), n, z, rfl, ok.n2, ok.n6, z12, fun cv Hb eb db => ?_⟩
          have Wb := Wa.ex eb
          obtain ⟨cl, cs, rfl, hcl, hcA⟩ := dp_lst db
          have hcsl := dpAll_len hcA
          rw [List.length_map] at hcsl
          obtain ⟨s1, dz1, w1, es, hs1, hw1, ok1⟩ := id Wb.sch
          cases es
          obtain ⟨b1, dy1, t1, svx, eb1, hb1, _⟩ := id Wb.dat
          cases eb1
          -- schema.cells(table) != cells or data.rows(table) != sum(counts)
          refine ⟨_, rfl, sx, dz1, _, rfl, hs1, schF_no _ _ (by decide +kernel) (by decide +kernel), _, rfl, _, (i : Int), n, z, ws, rfl, Wb.sch, by omega, hzT, fun cv2 Hc ec dc2 => ?_⟩
          refine ⟨_, rfl, neD_of (a := cellsM n z) (b := cellsM n z) (Cod.lst (Cod.tup Cod.int)) (by decide) dc2 (dp_mono ec _ _ db) ⟨false, by rw [decide_eq_true rfl]; rfl, iteF ?_⟩⟩
          refine ⟨_, rfl, dv, dy1, _, rfl, ec _ _ hb1, datF_no _ _ (by decide +kernel) (by decide +kernel), _, rfl, _, (i : Int), n, ws, ms, tss, rfl, dat_ex ec Wb.dat, by omega, hmT, fun Hd ed => ?_⟩
          have ebd := ec.trans ed
          refine ⟨_, rfl, true, cb, ms, rfl, ex_l (eb.trans ebd) hcb, rfl, false, by rw [decide_eq_true rfl]; rfl, iteF ?_⟩
          -- data.filled(table) != ..
          refine ⟨_, rfl, dv, dy1, _, rfl, ebd _ _ hb1, datF_no _ _ (by decide +kernel) (by decide +kernel), _, rfl, _, (i : Int), n, z, ws, ms, tss, rfl, dat_ex ebd Wb.dat, by omega, hzT, hmT, fun fv He ee df => ?_⟩
          have ebe := ebd.trans ee
          refine ⟨_, rfl, _, rfl, true, true, cl, cb, cs, _, rfl, ex_l ebe hcl, ex_l (eb.trans ebe) hcb, fun D hD => ?_⟩
          refine lc_dp (K := K) (walk_zipK (xs := cs) (ys := ms.map V.int) (by rw [List.length_map, hcsl, hml])) hD (fun i => ((((cellsM n z).zip ms).take i).filter fun p => decide (0 < p.2)).map pI) rfl (fun i hi => ?_) (fun H' e => ⟨ex_l (ebe.trans e) hcl, ex_l ((eb.trans ebe).trans e) hcb⟩) ?_ ?_
          · rw [List.length_map]
            refine Nat.lt_of_le_of_lt (Nat.le_trans (List.length_filter_le _ _) ?_) (show 1000 < sizeLine by decide)
            rw [List.length_take, List.length_zip]
            omega
          · rintro j x H3 H3' Q' Qn hi' e3 ⟨acc, ha⟩ ⟨Tp, x1, x2, rfl, hTp, rfl, h1, h2⟩ k1 k2
            obtain ⟨dc, hdc, hdx⟩ := dpAll_get hcA h1
            obtain ⟨c, hc, rfl⟩ := get_map hdc
            obtain ⟨y, hy, rfl⟩ := get_map h2
            have hp : ((cellsM n z).zip ms)[j]? = some (c, y) := by rw [List.getElem?_zip_eq_some]; exact ⟨hc, hy⟩
            have eT := Ex.new (o := .tup [x1, .int y]) hTp
            refine ⟨Tp, [x1, .int y], rfl, st_of upd_same, rfl, _, _, rfl, _, _, rfl, rfl, rfl, ?_⟩
            refine ⟨_, rfl, _, _, rfl, rfl, decide (0 < y), rfl, ?_⟩
            refine ite2 (fun a => ?_) (fun a => ?_)
            · refine ⟨_, rfl, _, rfl, by show 2 ≤ sizeLine; decide, fun p hp2 => ?_⟩
              have npD : p ≠ D := (ne_of_none (eT _ _ ha) hp2).symm
              refine k1 _ (pI (c, y)) _ (eT.trans (Ex.new hp2)) (.tup (st_of ?_) (.cons (dp_mono ?_ _ _ hdx) (.cons (.int y) .nil))) ?_
              · rw [kd_ne npD]
                exact upd_same
              · exact ebe.trans (e3.trans (kd_mono (eT.trans (Ex.new hp2))))
              · rw [take_snoc hp, List.filter_append, List.map_append, List.filter_cons, if_pos (by exact a)]
                rfl
            · refine k2 _ eT ?_
              rw [take_snoc hp, List.filter_append, List.map_append, List.filter_cons, if_neg (by exact a)]
              exact List.append_nil _
          · rintro Hf ef dD _
            rw [List.take_of_length_le (by rw [List.length_zip]; omega)] at dD
            refine neD_of (a := fillM (cellsM n z) ms) (b := fillM (cellsM n z) ms) (Cod.lst codP) (by decide) (dp_mono ef _ _ df) dD ⟨false, by rw [decide_eq_true rfl]; rfl, iteF ?_⟩
            have ebf := ebe.trans ef
            have Wf := Wb.ex ebf
            have hclf := ex_l ebf hcl
            have hcAf := dpAll_mono ebf _ _ hcA
            have hcbf := ex_l (eb.trans ebf) hcb
            have eaf : ExD d H11 Hf := eaa.trans (ExD.of (eb.trans ebf))
            clear dD df ee ebe ed ebd dc2 ec hs1 hb1 hw1 hcl hcA db hcb eaa Wb Wa eb ef ebf hD
            -- at = ..
            refine ⟨_, rfl, _, rfl, cl, cs, rfl, .inl hclf, d, a, _, ns, rfl, Wf.drw, by omega, fun r Hg r0 r1 eg dg => ?_⟩
            have Wg := Wf.exD eg dg
            have hclg : SqL K Hg cl cs := sk_D' (k := true) Wf.drw eg (noDr_tI hcAf) hclf
            have hcAg := dpAll_tI_D Wf.drw eg hcAf
            have hcbg : SqL K Hg cb (ms.map V.int) := sk_D' (k := true) Wf.drw eg (noDr_ints ms) hcbf
            have eag := eaf.trans eg
            obtain ⟨m, hm⟩ : ∃ m, r.toNat = m := ⟨_, rfl⟩
            have hmc : m < (cellsM n z).length := by omega
            obtain ⟨c, hc⟩ : ∃ c, (cellsM n z)[m]? = some c := ⟨_, List.getElem?_eq_getElem hmc⟩
            obtain ⟨y, hy⟩ : ∃ y, ms[m]? = some y := ⟨_, List.getElem?_eq_getElem (show m < ms.length by omega)⟩
            obtain ⟨cr, hcr, hcd⟩ := dpAll_at hcAg (d := tI c) (by rw [List.getElem?_map, hc]; rfl)
            obtain ⟨ca, rfl, hca⟩ := dp_tI_inv hcd
            obtain ⟨b1, dy1, t1, svx, eb1, hb1, _⟩ := id Wg.dat
            cases eb1
            refine ⟨_, rfl, dv, dy1, _, rfl, hb1, datF_no _ _ (by decide +kernel) (by decide +kernel), _, rfl, _, rfl, _, rfl, cl, _, r, _, rfl, rfl, hclg, at_of (j := m) (by omega) hcr, ?_⟩
            refine ⟨_, (i : Int), n, z, y, ws, ms, c, tss, ca, m, rfl, Wg.dat, by omega, hzT, hmT, hca, hc, hy, fun Hh eh => ?_⟩
            refine ⟨_, rfl, _, rfl, cb, _, r, _, rfl, rfl, ex_l eh hcbg, at_of (j := m) (by omega) (by rw [List.getElem?_map, hy]; rfl), rfl, false, by rw [decide_eq_true rfl]; rfl, iteF ?_⟩
            have Wh := Wg.ex eh
            have hclh := ex_l eh hclg
            have hcAh := dpAll_mono eh _ _ hcAg
            have hcbh := ex_l eh hcbg
            have eah := eag.trans (ExD.of eh)
            clear hcd hca hcr hclg hcAg hcbg eag hb1 Wg eh dg eg hclf hcAf hcbf eaf Wf
            -- for column in range(widths[table])
            refine ⟨_, rfl, _, rfl, wv, _, _, _, rfl, rfl, Wh.wid, at_of (j := i) rfl (by rw [List.getElem?_map, hz]; rfl), z, rfl, by omega, by omega, ?_⟩
            refine for_it walk_range (fun j σ H' => (∃ v12 v13 v14 v15, σ = [some (.ref a), some (.ref d), u2, some (.int n), some (.ref wv), some (.ref tb), some (.ref sx), some (.ref cb), some (.ref dv), some (.int (i : Nat)), some (.ref cl), some (.int r), v12, v13, v14, v15]) ∧ ExD d Hh H' ∧ Wld K CS CD d a ns n ws tss wv (.ref tb) (.ref sx) (.ref dv) H')
              ⟨⟨_, _, _, _, rfl⟩, ExD.refl _ _, Wh⟩ (fun _ _ _ _ _ => trivial) ?_ ?_
            · rintro j x σ Hi Hi' hj ⟨⟨v12, v13, v14, v15, rfl⟩, ei, Wi⟩ ⟨rfl, rfl⟩
              refine ⟨_, rfl, _, rfl, d, a, n, ns, rfl, Wi.drw, by have := ok.n2; omega, fun val Hj v0 v1 ej dj => ?_⟩
              have Wj := Wi.exD ej dj
              have eij := ei.trans ej
              have hclj : SqL K Hj cl cs := sk_D' (k := true) Wh.drw eij (noDr_tI hcAh) hclh
              have hcAj := dpAll_tI_D Wh.drw eij hcAh
              have hcbj : SqL K Hj cb (ms.map V.int) := sk_D' (k := true) Wh.drw eij (noDr_ints ms) hcbh
              obtain ⟨b1, dy1, t1, svx, eb1, hb1, _⟩ := id Wj.dat
              cases eb1
              refine ⟨_, rfl, dv, dy1, _, rfl, hb1, datF_no _ _ (by decide +kernel) (by decide +kernel), _, rfl, _, rfl, _, rfl, ?_⟩
              refine ⟨_, (i : Int), n, z, _, val, ws, ms, tss, rfl, Wj.dat, by omega, hzT, hmT, by omega, by omega, v0, v1, fun Hk ek => ?_⟩
              have hcn : ((0 : Int) + (j : Nat)).toNat = j := by omega
              have hclk := ex_l ek hclj
              have hcAk := dpAll_mono ek _ _ hcAj
              have hcbk := ex_l ek hcbj
              have Wk := Wj.ex ek
              refine ⟨_, rfl, _, rfl, true, true, cl, cb, cs, _, rfl, hclk, hcbk, fun D hD => ?_⟩
              refine lc_dp (K := K) (walk_zipK (xs := cs) (ys := ms.map V.int) (by rw [List.length_map, hcsl, hml])) hD (fun i => (((((cellsM n z).zip ms).take i).filter fun p => decide (p.1[j]? = some val)).map (·.2)).map PyData.int) rfl (fun i hi => ?_) (fun H' e => ⟨ex_l e hclk, ex_l e hcbk⟩) ?_ ?_
              · rw [List.length_map, List.length_map]
                refine Nat.lt_of_le_of_lt (Nat.le_trans (List.length_filter_le _ _) ?_) (show 1000 < sizeLine by decide)
                rw [List.length_take, List.length_zip]
                omega
              · rintro l x H3 H3' Q' Qn hi' e3 ⟨acc, ha⟩ ⟨Tp, x1, x2, rfl, hTp, rfl, h1, h2⟩ k1 k2
                obtain ⟨dc, hdc, hdx⟩ := dpAll_get hcAk h1
                obtain ⟨c2, hc2, rfl⟩ := get_map hdc
                obtain ⟨y2, hy2, rfl⟩ := get_map h2
                obtain ⟨pc, rfl, hpc⟩ := dp_tI_inv hdx
                have hp : ((cellsM n z).zip ms)[l]? = some (c2, y2) := by rw [List.getElem?_zip_eq_some]; exact ⟨hc2, hy2⟩
                have hlen := (cellsM_at z12 hc2).1
                obtain ⟨u, hu⟩ : ∃ u, c2[j]? = some u := ⟨_, List.getElem?_eq_getElem (show j < c2.length by omega)⟩
                have eT := Ex.new (o := .tup [.ref pc, .int y2]) hTp
                have e3' : Ex Hk H3 := e3.trans kd_ex
                refine ⟨Tp, [.ref pc, .int y2], rfl, st_of upd_same, rfl, _, _, rfl, _, _, rfl, rfl, rfl, ?_⟩
                refine ⟨_, rfl, _, rfl, pc, _, _, _, rfl, rfl, ex_t (e3'.trans eT) hpc, at_of (j := j) (by omega) (by rw [List.getElem?_map, hu]; rfl), _, rfl, rfl, decide (u = val), by rw [dec_int], ?_⟩
                refine ite2 (fun a => ?_) (fun a => ?_)
                · have a := of_decide_eq_true a
                  refine ⟨_, rfl, k1 _ _ _ eT (.int y2) ?_⟩
                  rw [take_snoc hp, List.filter_append, List.map_append, List.map_append, List.filter_cons, if_pos (by rw [hu, a]; exact decide_eq_true rfl)]
                  rfl
                · have a : ¬ u = val := fun z => a (decide_eq_true z)
                  refine k2 _ eT ?_
                  rw [take_snoc hp, List.filter_append, List.map_append, List.map_append, List.filter_cons, if_neg (by rw [hu]; simpa using a)]
                  exact List.append_nil _
              · rintro Hl el _ ⟨xs, hxs, hxA⟩
                rw [List.take_of_length_le (by rw [List.length_zip]; omega)] at hxA
                have e := dpAll_ints hxA
                subst e
                refine ⟨true, D, _, rfl, SqL.of hxs, ?_⟩
                have hsum : withM (fillM (cellsM n z) ms) j val = ((((cellsM n z).zip ms).filter fun p => decide (p.1[j]? = some val)).map (·.2)).sum :=
                  withM_zip _ (fun p hp => (hm9 p.2 (List.of_mem_zip (a := p.1) (b := p.2) hp).2).1) j val
                refine ⟨rfl, false, ?_, iteF ⟨⟨_, _, _, _, rfl⟩, eij.trans (ExD.of (ek.trans el)), Wk.ex el⟩⟩
                show V.bl (!decide (V.int (withM (fillM (cellsM n z) ms) ((0 : Int) + (j : Nat)).toNat val) = V.int _)) = V.bl false
                rw [hcn, hsum, decide_eq_true rfl]
                rfl
            · rintro σ Hi ⟨⟨v12, v13, v14, v15, rfl⟩, ei, Wi⟩
              exact ⟨⟨_, _, _, _, _, _, _, _, _, rfl⟩, eah.trans ei, Wi⟩
        · rintro σ Ha ⟨⟨u2, u7, u9, u10, u11, u12, u13, u14, u15, rfl⟩, ea, Wa⟩
          refine ⟨_, rfl, _, rfl, _, rfl, _, rfl, _, rfl, _, rfl, d, a, wv, n, ws, ns, tss, _, _, _, rfl, Wa.drw, Wa.wid, ok, w3, Wa.tab, dok, Wa.sch, Wa.dat, fun Hb eb db => ⟨true, rfl, iteF ⟨⟨_, _, _, _, _, _, _, _, _, _, _, _, _, _, rfl⟩, db⟩⟩⟩
end
end SP

set_option Elab.async false
set_option maxRecDepth 100000
set_option maxHeartbeats 2000000
namespace SP
open PySem PySem.Spec PyProof.Rows L2 Evl

/-! ### what the top has written -/
section
variable {K : PySem.W.Frag} {mg : Str → Option Value} {h : Heap}
theorem dn_mk {x : Str} {st : Stmt} {f : Addr} {oc : Value} {od an : Option Addr} {sl : Array (Option Value)} {kV doc pm cd ct : Value} (X : K.In h) (G : h.Ns mainGlobals mg) (a : PySem.W.nsIn K mainGlobals x = some (some (.ref f)))
    (l : K.lookup f = some ⟨oc, od, .func (PySem.W.fnOf x x (C8.fnArgs st) (C8.fnBody st) (C8.fnScope st) .none kV doc pm an cd ct), sl⟩) (c : PySem.W.codeIn K cd x = true) (k : PySem.W.keepIn K (.ref f) = true) : Dn K mg x st :=
  ⟨f, _, ⟨⟨oc, od, .none, kV, doc, pm, an, cd, ct, sl, rfl, l, c⟩, PySem.W.mg_of X G a, k⟩, rfl⟩
theorem mn_mk {m q : Str} {st : Stmt} {f C : Addr} {oc : Value} {od an : Option Addr} {sl : Array (Option Value)} {kV doc pm cd ct : Value} (a : PySem.W.findIn K (.ref C) m = some (some (.ref f))) (i : PySem.W.isFn K (.ref f) = true)
    (l : K.lookup f = some ⟨oc, od, .func (PySem.W.fnOf m q (C8.fnArgs st) (C8.fnBody st) (C8.fnScope st) .none kV doc pm an cd ct), sl⟩) (c : PySem.W.codeIn K cd q = true) (k : PySem.W.keepIn K (.ref f) = true) : Mn K C m q st :=
  ⟨f, _, ⟨a, i, k⟩, ⟨⟨oc, od, .none, kV, doc, pm, an, cd, ct, sl, rfl, l, c⟩⟩, rfl⟩
end
theorem all_mk {l : PySem.W.OpenLaw} {w : World} {K : PySem.W.Frag} {h : Heap} {mg : Str → Option Value} {fa : Addr} (X : K.In h) (G : h.Ns mainGlobals mg) (hfa : mg "law" = some (.ref fa))
    {f1 : Addr} {od1 an1 : Option Addr} {sl1 : Array (Option Value)} {oc1 kV1 dc1 pm1 cd1 ct1 : Value} {f2 : Addr} {od2 an2 : Option Addr} {sl2 : Array (Option Value)} {oc2 kV2 dc2 pm2 cd2 ct2 : Value} {f3 : Addr} {od3 an3 : Option Addr} {sl3 : Array (Option Value)} {oc3 kV3 dc3 pm3 cd3 ct3 : Value} {f4 : Addr} {od4 an4 : Option Addr} {sl4 : Array (Option Value)} {oc4 kV4 dc4 pm4 cd4 ct4 : Value} {f5 : Addr} {od5 an5 : Option Addr} {sl5 : Array (Option Value)} {oc5 kV5 dc5 pm5 cd5 ct5 : Value} {f6 : Addr} {od6 an6 : Option Addr} {sl6 : Array (Option Value)} {oc6 kV6 dc6 pm6 cd6 ct6 : Value} {f7 : Addr} {od7 an7 : Option Addr} {sl7 : Array (Option Value)} {oc7 kV7 dc7 pm7 cd7 ct7 : Value} {f8 : Addr} {od8 an8 : Option Addr} {sl8 : Array (Option Value)} {oc8 kV8 dc8 pm8 cd8 ct8 : Value} {f9 : Addr} {od9 an9 : Option Addr} {sl9 : Array (Option Value)} {oc9 kV9 dc9 pm9 cd9 ct9 : Value} {f10 : Addr} {od10 an10 : Option Addr} {sl10 : Array (Option Value)} {oc10 kV10 dc10 pm10 cd10 ct10 : Value} {f11 : Addr} {od11 an11 : Option Addr} {sl11 : Array (Option Value)} {oc11 kV11 dc11 pm11 cd11 ct11 : Value} {f12 : Addr} {od12 an12 : Option Addr} {sl12 : Array (Option Value)} {oc12 kV12 dc12 pm12 cd12 ct12 : Value} {f13 : Addr} {od13 an13 : Option Addr} {sl13 : Array (Option Value)} {oc13 kV13 dc13 pm13 cd13 ct13 : Value} {f14 : Addr} {od14 an14 : Option Addr} {sl14 : Array (Option Value)} {oc14 kV14 dc14 pm14 cd14 ct14 : Value} {f15 : Addr} {od15 an15 : Option Addr} {sl15 : Array (Option Value)} {oc15 kV15 dc15 pm15 cd15 ct15 : Value} {f16 : Addr} {od16 an16 : Option Addr} {sl16 : Array (Option Value)} {oc16 kV16 dc16 pm16 cd16 ct16 : Value} {f17 : Addr} {od17 an17 : Option Addr} {sl17 : Array (Option Value)} {oc17 kV17 dc17 pm17 cd17 ct17 : Value} {f18 : Addr} {od18 an18 : Option Addr} {sl18 : Array (Option Value)} {oc18 kV18 dc18 pm18 cd18 ct18 : Value} {f19 : Addr} {od19 an19 : Option Addr} {sl19 : Array (Option Value)} {oc19 kV19 dc19 pm19 cd19 ct19 : Value} {f20 : Addr} {od20 an20 : Option Addr} {sl20 : Array (Option Value)} {oc20 kV20 dc20 pm20 cd20 ct20 : Value} {CS : Addr} {CD : Addr} {f21 : Addr} {od21 an21 : Option Addr} {sl21 : Array (Option Value)} {oc21 kV21 dc21 pm21 cd21 ct21 : Value} {f22 : Addr} {od22 an22 : Option Addr} {sl22 : Array (Option Value)} {oc22 kV22 dc22 pm22 cd22 ct22 : Value} {f23 : Addr} {od23 an23 : Option Addr} {sl23 : Array (Option Value)} {oc23 kV23 dc23 pm23 cd23 ct23 : Value} {f24 : Addr} {od24 an24 : Option Addr} {sl24 : Array (Option Value)} {oc24 kV24 dc24 pm24 cd24 ct24 : Value} {f25 : Addr} {od25 an25 : Option Addr} {sl25 : Array (Option Value)} {oc25 kV25 dc25 pm25 cd25 ct25 : Value} {f26 : Addr} {od26 an26 : Option Addr} {sl26 : Array (Option Value)} {oc26 kV26 dc26 pm26 cd26 ct26 : Value} {f27 : Addr} {od27 an27 : Option Addr} {sl27 : Array (Option Value)} {oc27 kV27 dc27 pm27 cd27 ct27 : Value} {f28 : Addr} {od28 an28 : Option Addr} {sl28 : Array (Option Value)} {oc28 kV28 dc28 pm28 cd28 ct28 : Value} {f29 : Addr} {od29 an29 : Option Addr} {sl29 : Array (Option Value)} {oc29 kV29 dc29 pm29 cd29 ct29 : Value} {f30 : Addr} {od30 an30 : Option Addr} {sl30 : Array (Option Value)} {oc30 kV30 dc30 pm30 cd30 ct30 : Value} {f31 : Addr} {od31 an31 : Option Addr} {sl31 : Array (Option Value)} {oc31 kV31 dc31 pm31 cd31 ct31 : Value} {t_LEAST_SIZE : Tok} {t_MOST_SIZE : Tok} {t_MOST_TABLES : Tok} {t_MOST_WIDTH : Tok} {t_MOST_COUNT : Tok}
    (a1 : PySem.W.nsIn K mainGlobals "is_integer" = some (some (.ref f1)))
    (l1 : K.lookup f1 = some ⟨oc1, od1, .func (PySem.W.fnOf "is_integer" "is_integer" (C8.fnArgs (top 8)) (C8.fnBody (top 8)) (C8.fnScope (top 8)) .none kV1 dc1 pm1 an1 cd1 ct1), sl1⟩)
    (c1 : PySem.W.codeIn K cd1 "is_integer" = true)
    (k1 : PySem.W.keepIn K (.ref f1) = true)
    (a2 : PySem.W.nsIn K mainGlobals "is_between" = some (some (.ref f2)))
    (l2 : K.lookup f2 = some ⟨oc2, od2, .func (PySem.W.fnOf "is_between" "is_between" (C8.fnArgs (top 9)) (C8.fnBody (top 9)) (C8.fnScope (top 9)) .none kV2 dc2 pm2 an2 cd2 ct2), sl2⟩)
    (c2 : PySem.W.codeIn K cd2 "is_between" = true)
    (k2 : PySem.W.keepIn K (.ref f2) = true)
    (a3 : PySem.W.nsIn K mainGlobals "are_between" = some (some (.ref f3)))
    (l3 : K.lookup f3 = some ⟨oc3, od3, .func (PySem.W.fnOf "are_between" "are_between" (C8.fnArgs (top 10)) (C8.fnBody (top 10)) (C8.fnScope (top 10)) .none kV3 dc3 pm3 an3 cd3 ct3), sl3⟩)
    (c3 : PySem.W.codeIn K cd3 "are_between" = true)
    (k3 : PySem.W.keepIn K (.ref f3) = true)
    (a4 : PySem.W.nsIn K mainGlobals "is_sequence" = some (some (.ref f4)))
    (l4 : K.lookup f4 = some ⟨oc4, od4, .func (PySem.W.fnOf "is_sequence" "is_sequence" (C8.fnArgs (top 11)) (C8.fnBody (top 11)) (C8.fnScope (top 11)) .none kV4 dc4 pm4 an4 cd4 ct4), sl4⟩)
    (c4 : PySem.W.codeIn K cd4 "is_sequence" = true)
    (k4 : PySem.W.keepIn K (.ref f4) = true)
    (a5 : PySem.W.nsIn K mainGlobals "is_group" = some (some (.ref f5)))
    (l5 : K.lookup f5 = some ⟨oc5, od5, .func (PySem.W.fnOf "is_group" "is_group" (C8.fnArgs (top 12)) (C8.fnBody (top 12)) (C8.fnScope (top 12)) .none kV5 dc5 pm5 an5 cd5 ct5), sl5⟩)
    (c5 : PySem.W.codeIn K cd5 "is_group" = true)
    (k5 : PySem.W.keepIn K (.ref f5) = true)
    (a6 : PySem.W.nsIn K mainGlobals "all_tuples" = some (some (.ref f6)))
    (l6 : K.lookup f6 = some ⟨oc6, od6, .func (PySem.W.fnOf "all_tuples" "all_tuples" (C8.fnArgs (top 13)) (C8.fnBody (top 13)) (C8.fnScope (top 13)) .none kV6 dc6 pm6 an6 cd6 ct6), sl6⟩)
    (c6 : PySem.W.codeIn K cd6 "all_tuples" = true)
    (k6 : PySem.W.keepIn K (.ref f6) = true)
    (a7 : PySem.W.nsIn K mainGlobals "need_schema" = some (some (.ref f7)))
    (l7 : K.lookup f7 = some ⟨oc7, od7, .func (PySem.W.fnOf "need_schema" "need_schema" (C8.fnArgs (top 22)) (C8.fnBody (top 22)) (C8.fnScope (top 22)) .none kV7 dc7 pm7 an7 cd7 ct7), sl7⟩)
    (c7 : PySem.W.codeIn K cd7 "need_schema" = true)
    (k7 : PySem.W.keepIn K (.ref f7) = true)
    (a8 : PySem.W.nsIn K mainGlobals "need_table" = some (some (.ref f8)))
    (l8 : K.lookup f8 = some ⟨oc8, od8, .func (PySem.W.fnOf "need_table" "need_table" (C8.fnArgs (top 23)) (C8.fnBody (top 23)) (C8.fnScope (top 23)) .none kV8 dc8 pm8 an8 cd8 ct8), sl8⟩)
    (c8 : PySem.W.codeIn K cd8 "need_table" = true)
    (k8 : PySem.W.keepIn K (.ref f8) = true)
    (a9 : PySem.W.nsIn K mainGlobals "is_cell" = some (some (.ref f9)))
    (l9 : K.lookup f9 = some ⟨oc9, od9, .func (PySem.W.fnOf "is_cell" "is_cell" (C8.fnArgs (top 24)) (C8.fnBody (top 24)) (C8.fnScope (top 24)) .none kV9 dc9 pm9 an9 cd9 ct9), sl9⟩)
    (c9 : PySem.W.codeIn K cd9 "is_cell" = true)
    (k9 : PySem.W.keepIn K (.ref f9) = true)
    (a10 : PySem.W.nsIn K mainGlobals "cell_place" = some (some (.ref f10)))
    (l10 : K.lookup f10 = some ⟨oc10, od10, .func (PySem.W.fnOf "cell_place" "cell_place" (C8.fnArgs (top 25)) (C8.fnBody (top 25)) (C8.fnScope (top 25)) .none kV10 dc10 pm10 an10 cd10 ct10), sl10⟩)
    (c10 : PySem.W.codeIn K cd10 "cell_place" = true)
    (k10 : PySem.W.keepIn K (.ref f10) = true)
    (a11 : PySem.W.nsIn K mainGlobals "_are_widths" = some (some (.ref f11)))
    (l11 : K.lookup f11 = some ⟨oc11, od11, .func (PySem.W.fnOf "_are_widths" "_are_widths" (C8.fnArgs (top 26)) (C8.fnBody (top 26)) (C8.fnScope (top 26)) .none kV11 dc11 pm11 an11 cd11 ct11), sl11⟩)
    (c11 : PySem.W.codeIn K cd11 "_are_widths" = true)
    (k11 : PySem.W.keepIn K (.ref f11) = true)
    (a12 : PySem.W.nsIn K mainGlobals "_are_counts" = some (some (.ref f12)))
    (l12 : K.lookup f12 = some ⟨oc12, od12, .func (PySem.W.fnOf "_are_counts" "_are_counts" (C8.fnArgs (top 27)) (C8.fnBody (top 27)) (C8.fnScope (top 27)) .none kV12 dc12 pm12 an12 cd12 ct12), sl12⟩)
    (c12 : PySem.W.codeIn K cd12 "_are_counts" = true)
    (k12 : PySem.W.keepIn K (.ref f12) = true)
    (a13 : PySem.W.nsIn K mainGlobals "_law_number" = some (some (.ref f13)))
    (l13 : K.lookup f13 = some ⟨oc13, od13, .func (PySem.W.fnOf "_law_number" "_law_number" (C8.fnArgs (top 29)) (C8.fnBody (top 29)) (C8.fnScope (top 29)) .none kV13 dc13 pm13 an13 cd13 ct13), sl13⟩)
    (c13 : PySem.W.codeIn K cd13 "_law_number" = true)
    (k13 : PySem.W.keepIn K (.ref f13) = true)
    (a14 : PySem.W.nsIn K mainGlobals "_law_take" = some (some (.ref f14)))
    (l14 : K.lookup f14 = some ⟨oc14, od14, .func (PySem.W.fnOf "_law_take" "_law_take" (C8.fnArgs (top 30)) (C8.fnBody (top 30)) (C8.fnScope (top 30)) .none kV14 dc14 pm14 an14 cd14 ct14), sl14⟩)
    (c14 : PySem.W.codeIn K cd14 "_law_take" = true)
    (k14 : PySem.W.keepIn K (.ref f14) = true)
    (a15 : PySem.W.nsIn K mainGlobals "_law_given" = some (some (.ref f15)))
    (l15 : K.lookup f15 = some ⟨oc15, od15, .func (PySem.W.fnOf "_law_given" "_law_given" (C8.fnArgs (top 31)) (C8.fnBody (top 31)) (C8.fnScope (top 31)) .none kV15 dc15 pm15 an15 cd15 ct15), sl15⟩)
    (c15 : PySem.W.codeIn K cd15 "_law_given" = true)
    (k15 : PySem.W.keepIn K (.ref f15) = true)
    (a16 : PySem.W.nsIn K mainGlobals "_law_schema" = some (some (.ref f16)))
    (l16 : K.lookup f16 = some ⟨oc16, od16, .func (PySem.W.fnOf "_law_schema" "_law_schema" (C8.fnArgs (top 32)) (C8.fnBody (top 32)) (C8.fnScope (top 32)) .none kV16 dc16 pm16 an16 cd16 ct16), sl16⟩)
    (c16 : PySem.W.codeIn K cd16 "_law_schema" = true)
    (k16 : PySem.W.keepIn K (.ref f16) = true)
    (a17 : PySem.W.nsIn K mainGlobals "_law_cells" = some (some (.ref f17)))
    (l17 : K.lookup f17 = some ⟨oc17, od17, .func (PySem.W.fnOf "_law_cells" "_law_cells" (C8.fnArgs (top 33)) (C8.fnBody (top 33)) (C8.fnScope (top 33)) .none kV17 dc17 pm17 an17 cd17 ct17), sl17⟩)
    (c17 : PySem.W.codeIn K cd17 "_law_cells" = true)
    (k17 : PySem.W.keepIn K (.ref f17) = true)
    (a18 : PySem.W.nsIn K mainGlobals "_law_tables" = some (some (.ref f18)))
    (l18 : K.lookup f18 = some ⟨oc18, od18, .func (PySem.W.fnOf "_law_tables" "_law_tables" (C8.fnArgs (top 34)) (C8.fnBody (top 34)) (C8.fnScope (top 34)) .none kV18 dc18 pm18 an18 cd18 ct18), sl18⟩)
    (c18 : PySem.W.codeIn K cd18 "_law_tables" = true)
    (k18 : PySem.W.keepIn K (.ref f18) = true)
    (a19 : PySem.W.nsIn K mainGlobals "_law_equal_right" = some (some (.ref f19)))
    (l19 : K.lookup f19 = some ⟨oc19, od19, .func (PySem.W.fnOf "_law_equal_right" "_law_equal_right" (C8.fnArgs (top 35)) (C8.fnBody (top 35)) (C8.fnScope (top 35)) .none kV19 dc19 pm19 an19 cd19 ct19), sl19⟩)
    (c19 : PySem.W.codeIn K cd19 "_law_equal_right" = true)
    (k19 : PySem.W.keepIn K (.ref f19) = true)
    (a20 : PySem.W.nsIn K mainGlobals "law" = some (some (.ref f20)))
    (l20 : K.lookup f20 = some ⟨oc20, od20, .func (PySem.W.fnOf "law" "law" (defArgs (top 36)) (defBody (top 36)) (defScope (top 36)) .none kV20 dc20 pm20 an20 cd20 ct20), sl20⟩)
    (c20 : PySem.W.codeIn K cd20 "law" = true)
    (k20 : PySem.W.keepIn K (.ref f20) = true)
    (gCS : PySem.W.nsIn K mainGlobals "Schema" = some (some (.ref CS)))
    (gCD : PySem.W.nsIn K mainGlobals "Data" = some (some (.ref CD)))
    (a21 : PySem.W.findIn K (.ref CS) "__init__" = some (some (.ref f21)))
    (i21 : PySem.W.isFn K (.ref f21) = true)
    (l21 : K.lookup f21 = some ⟨oc21, od21, .func (PySem.W.fnOf "__init__" "Schema.__init__" (C8.fnArgs (inClass (top 20) 0)) (C8.fnBody (inClass (top 20) 0)) (C8.fnScope (inClass (top 20) 0)) .none kV21 dc21 pm21 an21 cd21 ct21), sl21⟩)
    (c21 : PySem.W.codeIn K cd21 "Schema.__init__" = true)
    (k21 : PySem.W.keepIn K (.ref f21) = true)
    (a22 : PySem.W.findIn K (.ref CS) "__eq__" = some (some (.ref f22)))
    (i22 : PySem.W.isFn K (.ref f22) = true)
    (l22 : K.lookup f22 = some ⟨oc22, od22, .func (PySem.W.fnOf "__eq__" "Schema.__eq__" (C8.fnArgs (inClass (top 20) 1)) (C8.fnBody (inClass (top 20) 1)) (C8.fnScope (inClass (top 20) 1)) .none kV22 dc22 pm22 an22 cd22 ct22), sl22⟩)
    (c22 : PySem.W.codeIn K cd22 "Schema.__eq__" = true)
    (k22 : PySem.W.keepIn K (.ref f22) = true)
    (a23 : PySem.W.findIn K (.ref CS) "__len__" = some (some (.ref f23)))
    (i23 : PySem.W.isFn K (.ref f23) = true)
    (l23 : K.lookup f23 = some ⟨oc23, od23, .func (PySem.W.fnOf "__len__" "Schema.__len__" (C8.fnArgs (inClass (top 20) 2)) (C8.fnBody (inClass (top 20) 2)) (C8.fnScope (inClass (top 20) 2)) .none kV23 dc23 pm23 an23 cd23 ct23), sl23⟩)
    (c23 : PySem.W.codeIn K cd23 "Schema.__len__" = true)
    (k23 : PySem.W.keepIn K (.ref f23) = true)
    (a24 : PySem.W.findIn K (.ref CS) "cells" = some (some (.ref f24)))
    (i24 : PySem.W.isFn K (.ref f24) = true)
    (l24 : K.lookup f24 = some ⟨oc24, od24, .func (PySem.W.fnOf "cells" "Schema.cells" (C8.fnArgs (inClass (top 20) 3)) (C8.fnBody (inClass (top 20) 3)) (C8.fnScope (inClass (top 20) 3)) .none kV24 dc24 pm24 an24 cd24 ct24), sl24⟩)
    (c24 : PySem.W.codeIn K cd24 "Schema.cells" = true)
    (k24 : PySem.W.keepIn K (.ref f24) = true)
    (a25 : PySem.W.findIn K (.ref CD) "__init__" = some (some (.ref f25)))
    (i25 : PySem.W.isFn K (.ref f25) = true)
    (l25 : K.lookup f25 = some ⟨oc25, od25, .func (PySem.W.fnOf "__init__" "Data.__init__" (C8.fnArgs (inClass (top 21) 0)) (C8.fnBody (inClass (top 21) 0)) (C8.fnScope (inClass (top 21) 0)) .none kV25 dc25 pm25 an25 cd25 ct25), sl25⟩)
    (c25 : PySem.W.codeIn K cd25 "Data.__init__" = true)
    (k25 : PySem.W.keepIn K (.ref f25) = true)
    (a26 : PySem.W.findIn K (.ref CD) "__eq__" = some (some (.ref f26)))
    (i26 : PySem.W.isFn K (.ref f26) = true)
    (l26 : K.lookup f26 = some ⟨oc26, od26, .func (PySem.W.fnOf "__eq__" "Data.__eq__" (C8.fnArgs (inClass (top 21) 1)) (C8.fnBody (inClass (top 21) 1)) (C8.fnScope (inClass (top 21) 1)) .none kV26 dc26 pm26 an26 cd26 ct26), sl26⟩)
    (c26 : PySem.W.codeIn K cd26 "Data.__eq__" = true)
    (k26 : PySem.W.keepIn K (.ref f26) = true)
    (a27 : PySem.W.findIn K (.ref CD) "__len__" = some (some (.ref f27)))
    (i27 : PySem.W.isFn K (.ref f27) = true)
    (l27 : K.lookup f27 = some ⟨oc27, od27, .func (PySem.W.fnOf "__len__" "Data.__len__" (C8.fnArgs (inClass (top 21) 2)) (C8.fnBody (inClass (top 21) 2)) (C8.fnScope (inClass (top 21) 2)) .none kV27 dc27 pm27 an27 cd27 ct27), sl27⟩)
    (c27 : PySem.W.codeIn K cd27 "Data.__len__" = true)
    (k27 : PySem.W.keepIn K (.ref f27) = true)
    (a28 : PySem.W.findIn K (.ref CD) "rows" = some (some (.ref f28)))
    (i28 : PySem.W.isFn K (.ref f28) = true)
    (l28 : K.lookup f28 = some ⟨oc28, od28, .func (PySem.W.fnOf "rows" "Data.rows" (C8.fnArgs (inClass (top 21) 3)) (C8.fnBody (inClass (top 21) 3)) (C8.fnScope (inClass (top 21) 3)) .none kV28 dc28 pm28 an28 cd28 ct28), sl28⟩)
    (c28 : PySem.W.codeIn K cd28 "Data.rows" = true)
    (k28 : PySem.W.keepIn K (.ref f28) = true)
    (a29 : PySem.W.findIn K (.ref CD) "with_value" = some (some (.ref f29)))
    (i29 : PySem.W.isFn K (.ref f29) = true)
    (l29 : K.lookup f29 = some ⟨oc29, od29, .func (PySem.W.fnOf "with_value" "Data.with_value" (C8.fnArgs (inClass (top 21) 4)) (C8.fnBody (inClass (top 21) 4)) (C8.fnScope (inClass (top 21) 4)) .none kV29 dc29 pm29 an29 cd29 ct29), sl29⟩)
    (c29 : PySem.W.codeIn K cd29 "Data.with_value" = true)
    (k29 : PySem.W.keepIn K (.ref f29) = true)
    (a30 : PySem.W.findIn K (.ref CD) "count_of" = some (some (.ref f30)))
    (i30 : PySem.W.isFn K (.ref f30) = true)
    (l30 : K.lookup f30 = some ⟨oc30, od30, .func (PySem.W.fnOf "count_of" "Data.count_of" (C8.fnArgs (inClass (top 21) 5)) (C8.fnBody (inClass (top 21) 5)) (C8.fnScope (inClass (top 21) 5)) .none kV30 dc30 pm30 an30 cd30 ct30), sl30⟩)
    (c30 : PySem.W.codeIn K cd30 "Data.count_of" = true)
    (k30 : PySem.W.keepIn K (.ref f30) = true)
    (a31 : PySem.W.findIn K (.ref CD) "filled" = some (some (.ref f31)))
    (i31 : PySem.W.isFn K (.ref f31) = true)
    (l31 : K.lookup f31 = some ⟨oc31, od31, .func (PySem.W.fnOf "filled" "Data.filled" (C8.fnArgs (inClass (top 21) 6)) (C8.fnBody (inClass (top 21) 6)) (C8.fnScope (inClass (top 21) 6)) .none kV31 dc31 pm31 an31 cd31 ct31), sl31⟩)
    (c31 : PySem.W.codeIn K cd31 "Data.filled" = true)
    (k31 : PySem.W.keepIn K (.ref f31) = true)
    (z_isinstance : PySem.W.nsIn K mainGlobals "isinstance" = some none)
    (z_int : PySem.W.nsIn K mainGlobals "int" = some none)
    (z_bool : PySem.W.nsIn K mainGlobals "bool" = some none)
    (z_list : PySem.W.nsIn K mainGlobals "list" = some none)
    (z_tuple : PySem.W.nsIn K mainGlobals "tuple" = some none)
    (z_len : PySem.W.nsIn K mainGlobals "len" = some none)
    (z_all : PySem.W.nsIn K mainGlobals "all" = some none)
    (z_sum : PySem.W.nsIn K mainGlobals "sum" = some none)
    (z_range : PySem.W.nsIn K mainGlobals "range" = some none)
    (z_enumerate : PySem.W.nsIn K mainGlobals "enumerate" = some none)
    (z_zip : PySem.W.nsIn K mainGlobals "zip" = some none)
    (v_LEAST_SIZE : PySem.W.nsIn K mainGlobals "LEAST_SIZE" = some (some (.int 2 t_LEAST_SIZE)))
    (v_MOST_SIZE : PySem.W.nsIn K mainGlobals "MOST_SIZE" = some (some (.int 6 t_MOST_SIZE)))
    (v_MOST_TABLES : PySem.W.nsIn K mainGlobals "MOST_TABLES" = some (some (.int 4 t_MOST_TABLES)))
    (v_MOST_WIDTH : PySem.W.nsIn K mainGlobals "MOST_WIDTH" = some (some (.int 2 t_MOST_WIDTH)))
    (v_MOST_COUNT : PySem.W.nsIn K mainGlobals "MOST_COUNT" = some (some (.int 9 t_MOST_COUNT)))
    (pgCS : PySem.W.plainGet K CS Str.empty = true)
    (hdCS : PySem.W.hasDictIn K CS = true)
    (poCS : PySem.W.plainOver K CS = true)
    (saCS : PySem.W.findIn K (.ref CS) "__setattr__" = some (some (.builtin "object.__setattr__")))
    (haCS : PySem.W.findIn K (.ref CS) "__class__" = some (some (.builtin "object.__class__")))
    (hmCS : PySem.W.mroIn K CS (.type "object") = some true)
    (mkCS : PySem.W.makesIn K CS = true)
    (kcCS : PySem.W.keepIn K (.ref CS) = true)
    (neCS : PySem.W.findIn K (.ref CS) "__ne__" = some (some (.builtin "object.__ne__")))
    (n_CS_size : PySem.W.findIn K (.ref CS) "size" = some none)
    (n_CS_widths : PySem.W.findIn K (.ref CS) "widths" = some none)
    (pgCD : PySem.W.plainGet K CD Str.empty = true)
    (hdCD : PySem.W.hasDictIn K CD = true)
    (poCD : PySem.W.plainOver K CD = true)
    (saCD : PySem.W.findIn K (.ref CD) "__setattr__" = some (some (.builtin "object.__setattr__")))
    (haCD : PySem.W.findIn K (.ref CD) "__class__" = some (some (.builtin "object.__class__")))
    (hmCD : PySem.W.mroIn K CD (.type "object") = some true)
    (mkCD : PySem.W.makesIn K CD = true)
    (kcCD : PySem.W.keepIn K (.ref CD) = true)
    (neCD : PySem.W.findIn K (.ref CD) "__ne__" = some (some (.builtin "object.__ne__")))
    (n_CD_schema : PySem.W.findIn K (.ref CD) "schema" = some none)
    (n_CD_tables : PySem.W.findIn K (.ref CD) "tables" = some none)
    (hnG : PySem.W.specialIn K (.builtin "object.__class__") "__get__" = some (some (.builtin "getset_descriptor.__get__")))
    (htk : PySem.W.takesIn K (.builtin "object.__class__") = some true)
    : ∃ fd : FuncData, (∀ (s : Shared) (v : Value), BindsTo s fd ⟨[v], []⟩ [("script", v)]) ∧ ∀ base : Heap, K.In base → base.Ns mainGlobals mg → FnOk l.prog w K mg base L2.CX0 9 fa fd ["script"] (spLaw K) := by
  have e := hfa.symm.trans (PySem.W.mg_of X G a20)
  cases e
  have T : Txt K mg CS CD := ⟨PySem.W.mg_none_of X G z_isinstance, PySem.W.mg_none_of X G z_int, PySem.W.mg_none_of X G z_bool, PySem.W.mg_none_of X G z_list, PySem.W.mg_none_of X G z_tuple, PySem.W.mg_none_of X G z_len, PySem.W.mg_none_of X G z_all, PySem.W.mg_none_of X G z_sum, PySem.W.mg_none_of X G z_range, PySem.W.mg_none_of X G z_enumerate, PySem.W.mg_none_of X G z_zip,
    ⟨_, PySem.W.mg_of X G v_LEAST_SIZE⟩, ⟨_, PySem.W.mg_of X G v_MOST_SIZE⟩, ⟨_, PySem.W.mg_of X G v_MOST_TABLES⟩, ⟨_, PySem.W.mg_of X G v_MOST_WIDTH⟩, ⟨_, PySem.W.mg_of X G v_MOST_COUNT⟩,
    PySem.W.mg_of X G gCS, PySem.W.mg_of X G gCD, ⟨⟨pgCS, hdCS, poCS, saCS⟩, haCS, hnG, htk, hmCS, if_pos (beq_self_eq_true _)⟩, ⟨⟨pgCD, hdCD, poCD, saCD⟩, haCD, hnG, htk, hmCD, if_pos (beq_self_eq_true _)⟩, n_CS_size, n_CS_widths, n_CD_schema, n_CD_tables, neCS, neCD, mkCS, kcCS, mkCD, kcCD⟩
  have D1 := dn_mk (mg := mg) X G a1 l1 c1 k1
  have D2 := dn_mk (mg := mg) X G a2 l2 c2 k2
  have D3 := dn_mk (mg := mg) X G a3 l3 c3 k3
  have D4 := dn_mk (mg := mg) X G a4 l4 c4 k4
  have D5 := dn_mk (mg := mg) X G a5 l5 c5 k5
  have D6 := dn_mk (mg := mg) X G a6 l6 c6 k6
  have D7 := dn_mk (mg := mg) X G a7 l7 c7 k7
  have D8 := dn_mk (mg := mg) X G a8 l8 c8 k8
  have D9 := dn_mk (mg := mg) X G a9 l9 c9 k9
  have D10 := dn_mk (mg := mg) X G a10 l10 c10 k10
  have D11 := dn_mk (mg := mg) X G a11 l11 c11 k11
  have D12 := dn_mk (mg := mg) X G a12 l12 c12 k12
  have D13 := dn_mk (mg := mg) X G a13 l13 c13 k13
  have D14 := dn_mk (mg := mg) X G a14 l14 c14 k14
  have D15 := dn_mk (mg := mg) X G a15 l15 c15 k15
  have D16 := dn_mk (mg := mg) X G a16 l16 c16 k16
  have D17 := dn_mk (mg := mg) X G a17 l17 c17 k17
  have D18 := dn_mk (mg := mg) X G a18 l18 c18 k18
  have D19 := dn_mk (mg := mg) X G a19 l19 c19 k19
  have D21 := mn_mk a21 i21 l21 c21 k21
  have D22 := mn_mk a22 i22 l22 c22 k22
  have D23 := mn_mk a23 i23 l23 c23 k23
  have D24 := mn_mk a24 i24 l24 c24 k24
  have D25 := mn_mk a25 i25 l25 c25 k25
  have D26 := mn_mk a26 i26 l26 c26 k26
  have D27 := mn_mk a27 i27 l27 c27 k27
  have D28 := mn_mk a28 i28 l28 c28 k28
  have D29 := mn_mk a29 i29 l29 c29 k29
  have D30 := mn_mk a30 i30 l30 c30 k30
  have D31 := mn_mk a31 i31 l31 c31 k31
  refine ⟨PySem.W.fnOf "law" "law" (defArgs (top 36)) (defBody (top 36)) (defScope (top 36)) .none kV20 dc20 pm20 an20 cd20 ct20, fun s v => .of_eq rfl, fun base _ _ => ?_⟩
  have F := fun_mk (st := top 36) l20 c20 k20
  have i1 := c_isInt (P := l.prog) (w := w) (base := base) T D1
  have i2 := c_between (P := l.prog) (w := w) (base := base) D2 i1
  have i3 := c_are (P := l.prog) (w := w) (base := base) T D3 i2
  have i4 := c_isSeq (P := l.prog) (w := w) (base := base) T D4
  have i5 := c_isGroup (P := l.prog) (w := w) (base := base) T D5
  have i6 := c_allT (P := l.prog) (w := w) (base := base) D6
  have j1 := c_areW (P := l.prog) (w := w) (base := base) T D11 i3
  have j2 := c_schInit (P := l.prog) (w := w) (base := base) T D21 i2 j1
  have j3 := c_schEq (P := l.prog) (w := w) (base := base) T D22
  have j4 := c_schLen (P := l.prog) (w := w) (base := base) T D23
  have j5 := c_needT (P := l.prog) (w := w) (base := base) T D8 i2 j4
  have j6 := c_cells (P := l.prog) (w := w) (base := base) T D24 j5 i6
  have m1 := c_needS (P := l.prog) (w := w) (base := base) T D7
  have m2 := c_areC (P := l.prog) (w := w) (base := base) T D12 i4 i3 j6
  have m3 := c_datInit (P := l.prog) (w := w) (base := base) T D25 m1 i4 m2 j4
  have m4 := c_datEq (P := l.prog) (w := w) (base := base) T D26 j3
  have m5 := c_datLen (P := l.prog) (w := w) (base := base) T D27
  have m6 := c_rows (P := l.prog) (w := w) (base := base) T D28 j5
  have m7 := c_place (P := l.prog) (w := w) (base := base) D10
  have m8 := c_isCell (P := l.prog) (w := w) (base := base) T D9 i5 i3
  have m9 := c_countOf (P := l.prog) (w := w) (base := base) T D30 j5 m8 m7
  have ma := c_filled (P := l.prog) (w := w) (base := base) T D31 j5 j6
  have mb := c_withV (P := l.prog) (w := w) (base := base) T D29 j5 i2 ma
  have p1 := c_num (P := l.prog) (w := w) (base := base) T D13
  have p2 := c_take (P := l.prog) (w := w) (base := base) T D14 p1
  have p3 := c_given (P := l.prog) (w := w) (base := base) T D15 p2
  have p4 := c_schema (P := l.prog) (w := w) (base := base) T D16 p2
  have p5 := c_lcells (P := l.prog) (w := w) (base := base) T D17
  have p6 := c_tables (P := l.prog) (w := w) (base := base) T D18 p2 p5
  have p7 := c_eqR (P := l.prog) (w := w) (base := base) T D19 p2 m3 j2 m4 j3
  exact ok_law T ⟨p2, p3, p4, p6, p5, p7, j2, m3, j3, j4, j6, m5, m6, ma, m9, mb⟩ F
theorem walk {l : PySem.W.OpenLaw} {q : Program} {loose : List Str} {XP : (Str → Option Value) → Heap → Prop} {YP : World → Heap → Prop} {d : DefRec} {K : Params → PySem.W.Frag} (hn : l.most = some 63) (hdf : d.params.defaults = [])
    (hY : ∀ (w : World) (h : Heap), YP w h → (K w.params).In h)
    (F : ∀ (w : World) (mg : Str → Option Value) (fa : Addr) (h : Heap), (K w.params).In h → h.Ns mainGlobals mg → mg d.name = some (.ref fa) →
      ∃ fd : FuncData, (∀ (s : Shared) (u : Value), BindsTo s fd ⟨[u], []⟩ [("script", u)]) ∧ ∀ base : Heap, (K w.params).In base → base.Ns mainGlobals mg → FnOk l.prog w (K w.params) mg base L2.CX0 9 fa fd ["script"] (spLaw (K w.params))) :
    PySem.W.WalkO q loose XP YP l.row.toRowW d [] (fun f vs => PySem.call f vs) :=
  L2.walk_of (n := 63) (k := 9) (x := "script") (CX := fun _ => L2.CX0) (sp := fun w => spLaw (K w.params)) hn (by decide) hdf ⟨rfl, by decide, by decide⟩ hY F (fun _ _ a ns hl _ hS => ⟨a, ns, rfl, hS, hl, fun _ => rfl⟩) fun _ _ _ _ _ z => z
end SP

open PySem PySem.W PyProof.Rows in
set_option maxRecDepth 100000 in
set_option maxHeartbeats 0 in
theorem PySem.Challenge.cw_surelyplan_k01_whole_data_holds : PySem.Challenge.rw_surelyplan_k01_whole_data.Holds := by
  w_on; o_law; k_head; (case hw => w_witness2)
  k_fill
  refine SP.walk (l := PySem.Challenge.rw_surelyplan_k01_whole_data) rfl rfl (fun w h Y => PySem.W.kIn_of Y) ?F
  case F =>
    intro w mg fa h KX G hmg
    refine' SP.all_mk KX G hmg ?a1 ?l1 ?c1 ?k1 ?a2 ?l2 ?c2 ?k2 ?a3 ?l3 ?c3 ?k3 ?a4 ?l4 ?c4 ?k4 ?a5 ?l5 ?c5 ?k5 ?a6 ?l6 ?c6 ?k6 ?a7 ?l7 ?c7 ?k7 ?a8 ?l8 ?c8 ?k8 ?a9 ?l9 ?c9 ?k9 ?a10 ?l10 ?c10 ?k10 ?a11 ?l11 ?c11 ?k11 ?a12 ?l12 ?c12 ?k12 ?a13 ?l13 ?c13 ?k13 ?a14 ?l14 ?c14 ?k14 ?a15 ?l15 ?c15 ?k15 ?a16 ?l16 ?c16 ?k16 ?a17 ?l17 ?c17 ?k17 ?a18 ?l18 ?c18 ?k18 ?a19 ?l19 ?c19 ?k19 ?a20 ?l20 ?c20 ?k20 ?gCS ?gCD ?a21 ?i21 ?l21 ?c21 ?k21 ?a22 ?i22 ?l22 ?c22 ?k22 ?a23 ?i23 ?l23 ?c23 ?k23 ?a24 ?i24 ?l24 ?c24 ?k24 ?a25 ?i25 ?l25 ?c25 ?k25 ?a26 ?i26 ?l26 ?c26 ?k26 ?a27 ?i27 ?l27 ?c27 ?k27 ?a28 ?i28 ?l28 ?c28 ?k28 ?a29 ?i29 ?l29 ?c29 ?k29 ?a30 ?i30 ?l30 ?c30 ?k30 ?a31 ?i31 ?l31 ?c31 ?k31 ?z_isinstance ?z_int ?z_bool ?z_list ?z_tuple ?z_len ?z_all ?z_sum ?z_range ?z_enumerate ?z_zip ?v_LEAST_SIZE ?v_MOST_SIZE ?v_MOST_TABLES ?v_MOST_WIDTH ?v_MOST_COUNT ?pgCS ?hdCS ?poCS ?saCS ?haCS ?hmCS ?mkCS ?kcCS ?neCS ?n_CS_size ?n_CS_widths ?pgCD ?hdCD ?poCD ?saCD ?haCD ?hmCD ?mkCD ?kcCD ?neCD ?n_CD_schema ?n_CD_tables ?hnG ?htk
    (case a1 => k_is)
    (case l1 => k_is)
    (case c1 => k_is)
    (case k1 => k_is)
    (case a2 => k_is)
    (case l2 => k_is)
    (case c2 => k_is)
    (case k2 => k_is)
    (case a3 => k_is)
    (case l3 => k_is)
    (case c3 => k_is)
    (case k3 => k_is)
    (case a4 => k_is)
    (case l4 => k_is)
    (case c4 => k_is)
    (case k4 => k_is)
    (case a5 => k_is)
    (case l5 => k_is)
    (case c5 => k_is)
    (case k5 => k_is)
    (case a6 => k_is)
    (case l6 => k_is)
    (case c6 => k_is)
    (case k6 => k_is)
    (case a7 => k_is)
    (case l7 => k_is)
    (case c7 => k_is)
    (case k7 => k_is)
    (case a8 => k_is)
    (case l8 => k_is)
    (case c8 => k_is)
    (case k8 => k_is)
    (case a9 => k_is)
    (case l9 => k_is)
    (case c9 => k_is)
    (case k9 => k_is)
    (case a10 => k_is)
    (case l10 => k_is)
    (case c10 => k_is)
    (case k10 => k_is)
    (case a11 => k_is)
    (case l11 => k_is)
    (case c11 => k_is)
    (case k11 => k_is)
    (case a12 => k_is)
    (case l12 => k_is)
    (case c12 => k_is)
    (case k12 => k_is)
    (case a13 => k_is)
    (case l13 => k_is)
    (case c13 => k_is)
    (case k13 => k_is)
    (case a14 => k_is)
    (case l14 => k_is)
    (case c14 => k_is)
    (case k14 => k_is)
    (case a15 => k_is)
    (case l15 => k_is)
    (case c15 => k_is)
    (case k15 => k_is)
    (case a16 => k_is)
    (case l16 => k_is)
    (case c16 => k_is)
    (case k16 => k_is)
    (case a17 => k_is)
    (case l17 => k_is)
    (case c17 => k_is)
    (case k17 => k_is)
    (case a18 => k_is)
    (case l18 => k_is)
    (case c18 => k_is)
    (case k18 => k_is)
    (case a19 => k_is)
    (case l19 => k_is)
    (case c19 => k_is)
    (case k19 => k_is)
    (case a20 => k_is)
    (case l20 => k_is)
    (case c20 => k_is)
    (case k20 => k_is)
    (case gCS => k_is)
    (case gCD => k_is)
    (case a21 => k_is)
    (case i21 => k_is)
    (case l21 => k_is)
    (case c21 => k_is)
    (case k21 => k_is)
    (case a22 => k_is)
    (case i22 => k_is)
    (case l22 => k_is)
    (case c22 => k_is)
    (case k22 => k_is)
    (case a23 => k_is)
    (case i23 => k_is)
    (case l23 => k_is)
    (case c23 => k_is)
    (case k23 => k_is)
    (case a24 => k_is)
    (case i24 => k_is)
    (case l24 => k_is)
    (case c24 => k_is)
    (case k24 => k_is)
    (case a25 => k_is)
    (case i25 => k_is)
    (case l25 => k_is)
    (case c25 => k_is)
    (case k25 => k_is)
    (case a26 => k_is)
    (case i26 => k_is)
    (case l26 => k_is)
    (case c26 => k_is)
    (case k26 => k_is)
    (case a27 => k_is)
    (case i27 => k_is)
    (case l27 => k_is)
    (case c27 => k_is)
    (case k27 => k_is)
    (case a28 => k_is)
    (case i28 => k_is)
    (case l28 => k_is)
    (case c28 => k_is)
    (case k28 => k_is)
    (case a29 => k_is)
    (case i29 => k_is)
    (case l29 => k_is)
    (case c29 => k_is)
    (case k29 => k_is)
    (case a30 => k_is)
    (case i30 => k_is)
    (case l30 => k_is)
    (case c30 => k_is)
    (case k30 => k_is)
    (case a31 => k_is)
    (case i31 => k_is)
    (case l31 => k_is)
    (case c31 => k_is)
    (case k31 => k_is)
    (case z_isinstance => k_is)
    (case z_int => k_is)
    (case z_bool => k_is)
    (case z_list => k_is)
    (case z_tuple => k_is)
    (case z_len => k_is)
    (case z_all => k_is)
    (case z_sum => k_is)
    (case z_range => k_is)
    (case z_enumerate => k_is)
    (case z_zip => k_is)
    (case v_LEAST_SIZE => k_is)
    (case v_MOST_SIZE => k_is)
    (case v_MOST_TABLES => k_is)
    (case v_MOST_WIDTH => k_is)
    (case v_MOST_COUNT => k_is)
    (case pgCS => k_is)
    (case hdCS => k_is)
    (case poCS => k_is)
    (case saCS => k_is)
    (case haCS => k_is)
    (case hmCS => k_is)
    (case mkCS => k_is)
    (case kcCS => k_is)
    (case neCS => k_is)
    (case n_CS_size => k_is)
    (case n_CS_widths => k_is)
    (case pgCD => k_is)
    (case hdCD => k_is)
    (case poCD => k_is)
    (case saCD => k_is)
    (case haCD => k_is)
    (case hmCD => k_is)
    (case mkCD => k_is)
    (case kcCD => k_is)
    (case neCD => k_is)
    (case n_CD_schema => k_is)
    (case n_CD_tables => k_is)
    (case hnG => k_is)
    (case htk => k_is)
