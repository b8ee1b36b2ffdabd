import PyProof.Rows.All
import Wide.All
import OpenK.AllK
import Wide.FinOn
import HandS.ForMost
import HandS.ForExc
import HandS.Evl
import HandS.CallSlots
import HandS.NoneIn
import HandS.TupAny
import HandS.TupMul
import HandS.IsInst
import HandS.SetKeys
import HandS.TupSets
import HandS.RaiseMore
import HandS.SortInts
import HandS.Wide
import HandS.Star
import HandS.EndBits
import HandS.Style
import HandS.Codes
import HandS.Deep
import HandS.Strs
import HandS.WordsExc
import HandS.Conv
import HandS.Small
import HandS.SetFor
import HandS.TryOnly
import KE.GoesEnum
import HandS.Zip
import HandS.Walk
import HandS.ExcIs
import KE.KDictZip
import PyProof.Rows.ZipGen
import PySem.Challenge.RW_orderneed_k08_what_promises_keep
import PyProof.P3Eq
import PyProof.StrLawsRepr
import KE.RegKIsAll
set_option Elab.async false
set_option linter.all false
set_option maxRecDepth 100000
set_option maxHeartbeats 4000000
namespace Orn
open L2 PySem PySem.Spec PyProof.Rows

/-- data: what a value is, without addresses -/
inductive D where
  | non | bl (b : Bool) | int (i : Int) | str (x : Str) | lst (xs : List D) | rol (xs : List D) | tup (xs : List D) | obj (c : Str) (fs : List (Str × D))
/-- what a run of a mirror gives -/
structure Exn where
  cls : Str
  fs : List (Str × D)
inductive Rs (α : Type) where
  | ok (a : α) | exc (e : Exn) | bad
namespace Rs
def bind {α β : Type} (x : Rs α) (f : α → Rs β) : Rs β := match x with
  | ok a => f a
  | exc e => exc e
  | bad => bad
instance : Monad Rs where
  pure := ok
  bind := bind
@[simp] theorem bind_ok {α β : Type} (a : α) (f : α → Rs β) : (Rs.ok a >>= f) = f a := rfl
@[simp] theorem bind_bad {α β : Type} (f : α → Rs β) : ((Rs.bad : Rs α) >>= f) = Rs.bad := rfl
@[simp] theorem bind_exc {α β : Type} (e : Exn) (f : α → Rs β) : ((Rs.exc e : Rs α) >>= f) = Rs.exc e := rfl
@[simp] theorem pure_eq {α : Type} (a : α) : (pure a : Rs α) = Rs.ok a := rfl
end Rs

/-- a tuple that is known to the object: it has no dict of its own -/
def GT (K : PySem.W.Frag) (H : Hp) (a : Addr) (vs : List V) : Prop := (∃ o : Obj, H a = some (.frz o (.tup vs)) ∧ o.dict = none) ∨
  ∃ (o : Obj) (its : Array Value) (n : Nat), K.lookup a = some o ∧ o.cls = .type "tuple" ∧ o.dict = none ∧ o.data = .seq its n ∧ its.size ≤ sizeLine ∧ Vals vs its.toList
theorem GT.sq {K : PySem.W.Frag} {H : Hp} {a : Addr} {vs : List V} (h : GT K H a vs) : SqT K H a vs := by
  rcases h with ⟨o, h, _⟩ | ⟨o, its, n, h1, h2, _, h4, h5, h6⟩
  · exact .inl (.inr ⟨o, h⟩)
  · exact .inr ⟨o, its, n, h1, h2, h4, h5, h6⟩
theorem same_g {K : PySem.W.Frag} {H H' : Hp} {a : Addr} {vs : List V} (e : Same H H') (h : GT K H a vs) : GT K H' a vs := by
  rcases h with ⟨o, h, d⟩ | h
  · exact .inl ⟨o, e _ _ h, d⟩
  · exact .inr h
theorem same_t {K : PySem.W.Frag} {H H' : Hp} {a : Addr} {vs : List V} (e : Same H H') (h : GT K H a vs) : SqT K H' a vs := (same_g e h).sq
/- what stands at a value, in a heap -/
mutual
inductive Dv (K : PySem.W.Frag) (mg : Str → Option Value) (H : Hp) : V → D → Prop
  | non : Dv K mg H .non .non
  | bl (b : Bool) : Dv K mg H (.bl b) (.bl b)
  | int (i : Int) : Dv K mg H (.int i) (.int i)
  | str (x : Str) : Dv K mg H (.str x) (.str x)
  | lst {a : Addr} {vs : List V} {xs : List D} : H a = some (.lst vs) → Dvs K mg H vs xs → Dv K mg H (.ref a) (.lst xs)
  | rol {a : Addr} {vs : List V} {xs : List D} : SqL K H a vs → Dvs K mg H vs xs → Dv K mg H (.ref a) (.rol xs)
  | tup {a : Addr} {vs : List V} {xs : List D} : GT K H a vs → Dvs K mg H vs xs → Dv K mg H (.ref a) (.tup xs)
  | obj {a C dx : Addr} {c : Str} {vs : List (Str × V)} {xs : List (Str × D)} : H a = some (.ins C dx vs) → mg c = some (.ref C) → Dfs K mg H vs xs → Dv K mg H (.ref a) (.obj c xs)
inductive Dvs (K : PySem.W.Frag) (mg : Str → Option Value) (H : Hp) : List V → List D → Prop
  | nil : Dvs K mg H [] []
  | cons {v : V} {vs : List V} {x : D} {xs : List D} : Dv K mg H v x → Dvs K mg H vs xs → Dvs K mg H (v :: vs) (x :: xs)
inductive Dfs (K : PySem.W.Frag) (mg : Str → Option Value) (H : Hp) : List (Str × V) → List (Str × D) → Prop
  | nil : Dfs K mg H [] []
  | cons {f : Str} {v : V} {vs : List (Str × V)} {x : D} {xs : List (Str × D)} : Dv K mg H v x → Dfs K mg H vs xs → Dfs K mg H ((f, v) :: vs) ((f, x) :: xs)
end
section
variable {K : PySem.W.Frag} {mg : Str → Option Value} {H H' : Hp}
mutual
theorem Dv.mono (e : Same H H') : ∀ {v : V} {x : D}, Dv K mg H v x → Dv K mg H' v x
  | _, _, .non => .non
  | _, _, .bl b => .bl b
  | _, _, .int i => .int i
  | _, _, .str s => .str s
  | _, _, .lst h r => .lst (e _ _ h) (Dvs.mono e r)
  | _, _, .rol h r => .rol (e.seq h) (Dvs.mono e r)
  | _, _, .tup h r => .tup (same_g e h) (Dvs.mono e r)
  | _, _, .obj h c r => .obj (e _ _ h) c (Dfs.mono e r)
theorem Dvs.mono (e : Same H H') : ∀ {vs : List V} {xs : List D}, Dvs K mg H vs xs → Dvs K mg H' vs xs
  | _, _, .nil => .nil
  | _, _, .cons h r => .cons (Dv.mono e h) (Dvs.mono e r)
theorem Dfs.mono (e : Same H H') : ∀ {vs : List (Str × V)} {xs : List (Str × D)}, Dfs K mg H vs xs → Dfs K mg H' vs xs
  | _, _, .nil => .nil
  | _, _, .cons h r => .cons (Dv.mono e h) (Dfs.mono e r)
end
theorem Dvs.len : ∀ {vs : List V} {xs : List D}, Dvs K mg H vs xs → vs.length = xs.length
  | _, _, .nil => rfl
  | _, _, .cons _ r => congrArg (· + 1) (Dvs.len r)
theorem Dvs.get : ∀ {vs : List V} {xs : List D} {i : Nat} {x : D}, Dvs K mg H vs xs → xs[i]? = some x → ∃ v, vs[i]? = some v ∧ Dv K mg H v x
  | _, _, i, x, .nil, h => by simp at h
  | _, _, 0, x, .cons (v := v) h r, e => by
    have e' := Option.some.inj e
    exact ⟨v, rfl, e' ▸ h⟩
  | _, _, i + 1, x, .cons h r, e => Dvs.get (i := i) r e
theorem Dvs.getV : ∀ {vs : List V} {xs : List D} {i : Nat} {v : V}, Dvs K mg H vs xs → vs[i]? = some v → ∃ x, xs[i]? = some x ∧ Dv K mg H v x
  | _, _, i, v, .nil, h => by simp at h
  | _, _, 0, v, .cons (x := x) h r, e => by
    have e' := Option.some.inj e
    exact ⟨x, rfl, e' ▸ h⟩
  | _, _, i + 1, v, .cons h r, e => Dvs.getV (i := i) r e
theorem Dvs.app : ∀ {vs ws : List V} {xs ys : List D}, Dvs K mg H vs xs → Dvs K mg H ws ys → Dvs K mg H (vs ++ ws) (xs ++ ys)
  | _, _, _, _, .nil, q => q
  | _, _, _, _, .cons h r, q => .cons h (Dvs.app r q)
theorem Dvs.take : ∀ {vs : List V} {xs : List D} (n : Nat), Dvs K mg H vs xs → Dvs K mg H (vs.take n) (xs.take n)
  | _, _, 0, _ => by simp; exact .nil
  | _, _, n + 1, .nil => by simp; exact .nil
  | _, _, n + 1, .cons h r => by simp; exact .cons h (Dvs.take n r)
theorem Dvs.drop : ∀ {vs : List V} {xs : List D} (n : Nat), Dvs K mg H vs xs → Dvs K mg H (vs.drop n) (xs.drop n)
  | _, _, 0, r => by simpa using r
  | _, _, n + 1, .nil => by simp; exact .nil
  | _, _, n + 1, .cons h r => by simpa using Dvs.drop n r
theorem Dvs.rev : ∀ {vs : List V} {xs : List D}, Dvs K mg H vs xs → Dvs K mg H vs.reverse xs.reverse
  | _, _, .nil => .nil
  | _, _, .cons h r => by
    rw [List.reverse_cons, List.reverse_cons]
    exact Dvs.app (Dvs.rev r) (.cons h .nil)
theorem Dvs.erase : ∀ {vs : List V} {xs : List D} (n : Nat), Dvs K mg H vs xs → Dvs K mg H (vs.eraseIdx n) (xs.eraseIdx n)
  | _, _, n, .nil => by simp; exact .nil
  | _, _, 0, .cons h r => by simpa using r
  | _, _, n + 1, .cons h r => by simpa using .cons h (Dvs.erase n r)
theorem Dvs.set : ∀ {vs : List V} {xs : List D} (n : Nat) {v : V} {x : D}, Dvs K mg H vs xs → Dv K mg H v x → Dvs K mg H (vs.set n v) (xs.set n x)
  | _, _, n, _, _, .nil, _ => by simp; exact .nil
  | _, _, 0, _, _, .cons h r, q => by simpa using .cons q r
  | _, _, n + 1, _, _, .cons h r, q => by simpa using .cons h (Dvs.set n r q)
theorem Dfs.look {f : Str} : ∀ {vs : List (Str × V)} {xs : List (Str × D)} {x : D}, Dfs K mg H vs xs → xs.lookup f = some x → ∃ v, vs.lookup f = some v ∧ Dv K mg H v x
  | _, _, x, .nil, h => by simp at h
  | _, _, x, .cons (f := g) (v := v) h r, e => by
    rw [List.lookup_cons] at e ⊢
    by_cases q : (f == g) = true
    · simp only [q] at e ⊢
      have e' := Option.some.inj e
      exact ⟨v, rfl, e' ▸ h⟩
    · simp only [Bool.not_eq_true] at q
      simp only [q] at e ⊢
      exact Dfs.look r e
theorem Dvs.ints : ∀ {vs : List V} {ns : List Int}, Dvs K mg H vs (ns.map D.int) → vs = ns.map V.int
  | vs, [], h => by cases h; rfl
  | vs, n :: ns, h => by
    rw [List.map_cons] at h
    cases h with
    | cons h r =>
      cases h
      rw [Dvs.ints r]
      rfl
theorem Dvs.of_ints : ∀ (ns : List Int), Dvs K mg H (ns.map V.int) (ns.map D.int)
  | [] => .nil
  | n :: ns => .cons (.int n) (Dvs.of_ints ns)
end

/-! ### a frame's slots -/
/-- what is known of a field of an object that is looked at -/
inductive Fld where
  | dat (x : D) | ls (xs : List D) | no
inductive T where
  | d (x : D)          -- data that stays
  | l (xs : List D)    -- a list of one's own
  | ll (xss : List (List D))    -- a list of lists, all one's own
  | p                  -- the frame's pinned object
  | sl (xs : List D)   -- a list of the reserve, looked at
  | so (c : Str) (fs : List (Str × Fld))   -- an object of the reserve, looked at
  | sd (kvs : List (L2.Key × D))   -- a dict of the reserve, looked at
abbrev En := List (Option T)
/-- slots that look into the reserve -/
def T.isR : T → Bool
  | .ll _ => true
  | .sl _ => true
  | .so _ _ => true
  | .sd _ => true
  | _ => false
/-- a list of lists stands alone -/
def One (env : En) : Prop := ∀ (i j : Nat) (xs : List (List D)) (t : T), env[i]? = some (some (.ll xs)) → env[j]? = some (some t) → t.isR = true → i = j
theorem one_set {env : En} {i : Nat} {o : Option T} (S : One env) (h : ∀ t, o = some t → t.isR = false) : One (env.set i o) := fun j k xs t h1 h2 h3 => by
  have e1 : i ≠ j := fun e => by
    subst e
    rw [List.getElem?_set_self'] at h1
    cases q : env[i]? with
    | none => rw [q] at h1; simp at h1
    | some z =>
      rw [q] at h1
      have h1 : some o = some (some (T.ll xs)) := h1
      have := h _ (Option.some.inj h1)
      cases this
  have e2 : i ≠ k := fun e => by
    subst e
    rw [List.getElem?_set_self'] at h2
    cases q : env[i]? with
    | none => rw [q] at h2; simp at h2
    | some z =>
      rw [q] at h2
      have h2 : some o = some (some t) := h2
      have := h _ (Option.some.inj h2)
      rw [this] at h3
      cases h3
  rw [List.getElem?_set_ne e1] at h1
  rw [List.getElem?_set_ne e2] at h2
  exact S j k xs t h1 h2 h3
/-- the heap at a frame's entry, and the object that the frame has pinned -/
structure HZ where
  h : Hp
  z : Addr
instance : CoeFun HZ (fun _ => Addr → Option HO) := ⟨HZ.h⟩
instance : Coe HZ Hp := ⟨HZ.h⟩
/-- what is hidden: the outer reserve R, the frame's own lists -/
def own (σ : L2.St) (env : En) (p : Addr) : Prop := ∃ (i : Nat) (xs : List D), env[i]? = some (some (.l xs)) ∧ σ[i]? = some (some (.ref p))
open Classical in
noncomputable def hid (R : Addr → Prop) (H : Hp) : Hp := fun a => if R a then none else H a
theorem hid_no {R : Addr → Prop} {H : Hp} {a : Addr} (h : ¬ R a) : hid R H a = H a := by
  unfold hid
  rw [if_neg h]
theorem hid_yes {R : Addr → Prop} {H : Hp} {a : Addr} (h : R a) : hid R H a = none := by
  unfold hid
  rw [if_pos h]
theorem hid_same {R : Addr → Prop} {H H' : Hp} (e : ∀ a o, ¬ R a → H a = some o → H' a = some o) : Same (hid R H) (hid R H') := fun a o h => by
  by_cases r : R a
  · rw [hid_yes r] at h
    cases h
  · rw [hid_no r] at h ⊢
    exact e a o r h
theorem hid_sub {R R' : Addr → Prop} {H : Hp} (e : ∀ a, R' a → R a) : Same (hid R H) (hid R' H) := fun a o h => by
  by_cases r : R a
  · rw [hid_yes r] at h
    cases h
  · rw [hid_no r] at h
    rw [hid_no fun q => r (e a q)]
    exact h
theorem hid_le {R : Addr → Prop} {H : Hp} : Same (hid R H) H := fun a o h => by
  by_cases r : R a
  · rw [hid_yes r] at h
    cases h
  · rw [hid_no r] at h
    exact h
/-- the frame's frozen part -/
noncomputable def fz (R : Addr → Prop) (σ : L2.St) (env : En) (H : Hp) : Hp := hid (fun a => R a ∨ own σ env a) H
def SnF (K : PySem.W.Frag) (mg : Str → Option Value) (R : Addr → Prop) (F H : Hp) (w : V) : Fld → Prop
  | .dat x => Dv K mg F w x
  | .ls xs => ∃ q ws, w = .ref q ∧ R q ∧ H q = some (.lst ws) ∧ Dvs K mg F ws xs
  | .no => True
theorem SnF.mono {K : PySem.W.Frag} {mg : Str → Option Value} {R R' : Addr → Prop} {F F' H H' : Hp} {w : V} {x : Fld} (r : ∀ a, R a → R' a) (e : Same F F') (e2 : ∀ a o, R a → H a = some o → H' a = some o) (h : SnF K mg R F H w x) : SnF K mg R' F' H' w x := by
  cases x with
  | dat x => exact Dv.mono e h
  | ls xs =>
    obtain ⟨q, ws, h1, h2, h3, h4⟩ := h
    exact ⟨q, ws, h1, r q h2, e2 _ _ h2 h3, h4.mono e⟩
  | no => trivial
def SnL (K : PySem.W.Frag) (mg : Str → Option Value) (R : Addr → Prop) (F H : Hp) (v : V) (xs : List D) : Prop := ∃ p vs, v = .ref p ∧ R p ∧ H p = some (.lst vs) ∧ Dvs K mg F vs xs
def SnO (K : PySem.W.Frag) (mg : Str → Option Value) (R : Addr → Prop) (F H : Hp) (v : V) (c : Str) (fs : List (Str × Fld)) : Prop :=
  ∃ (p C dx : Addr) (vs : List (Str × V)), v = .ref p ∧ R p ∧ H p = some (.ins C dx vs) ∧ mg c = some (.ref C) ∧ ∀ f x, fs.lookup f = some x → ∃ w, vs.lookup f = some w ∧ SnF K mg R F H w x
/-- keys with values, and with data -/
inductive Kd (K : PySem.W.Frag) (mg : Str → Option Value) (F : Hp) : List (L2.Key × V) → List (L2.Key × D) → Prop
  | nil : Kd K mg F [] []
  | cons {k : L2.Key} {v : V} {x : D} {vs : List (L2.Key × V)} {xs : List (L2.Key × D)} : Dv K mg F v x → Kd K mg F vs xs → Kd K mg F ((k, v) :: vs) ((k, x) :: xs)
theorem Kd.mono {K : PySem.W.Frag} {mg : Str → Option Value} {F F' : Hp} (e : Same F F') : ∀ {vs : List (L2.Key × V)} {xs : List (L2.Key × D)}, Kd K mg F vs xs → Kd K mg F' vs xs
  | _, _, .nil => .nil
  | _, _, .cons h r => .cons (h.mono e) (Kd.mono e r)
def SnD (K : PySem.W.Frag) (mg : Str → Option Value) (R : Addr → Prop) (F H : Hp) (v : V) (kvs : List (L2.Key × D)) : Prop := ∃ p vs, v = .ref p ∧ R p ∧ H p = some (.dK vs) ∧ Kd K mg F vs kvs
theorem SnD.mono {K : PySem.W.Frag} {mg : Str → Option Value} {R R' : Addr → Prop} {F F' H H' : Hp} {v : V} {kvs : List (L2.Key × D)} (r : ∀ a, R a → R' a) (e : Same F F') (e2 : ∀ a o, R a → H a = some o → H' a = some o) (h : SnD K mg R F H v kvs) : SnD K mg R' F' H' v kvs := by
  obtain ⟨q, ws, h1, h2, h3, h4⟩ := h
  exact ⟨q, ws, h1, r q h2, e2 _ _ h2 h3, h4.mono e⟩
theorem SnL.mono {K : PySem.W.Frag} {mg : Str → Option Value} {R R' : Addr → Prop} {F F' H H' : Hp} {v : V} {xs : List D} (r : ∀ a, R a → R' a) (e : Same F F') (e2 : ∀ a o, R a → H a = some o → H' a = some o) (h : SnL K mg R F H v xs) : SnL K mg R' F' H' v xs := by
  obtain ⟨q, ws, h1, h2, h3, h4⟩ := h
  exact ⟨q, ws, h1, r q h2, e2 _ _ h2 h3, h4.mono e⟩
theorem SnO.mono {K : PySem.W.Frag} {mg : Str → Option Value} {R R' : Addr → Prop} {F F' H H' : Hp} {v : V} {c : Str} {fs : List (Str × Fld)} (r : ∀ a, R a → R' a) (e : Same F F') (e2 : ∀ a o, R a → H a = some o → H' a = some o) (h : SnO K mg R F H v c fs) : SnO K mg R' F' H' v c fs := by
  obtain ⟨p, C, dx, vs, h1, h2, h3, h4, h5⟩ := h
  exact ⟨p, C, dx, vs, h1, r p h2, e2 _ _ h2 h3, h4, fun f x q => let ⟨w, g1, g2⟩ := h5 f x q; ⟨w, g1, g2.mono r e e2⟩⟩
def Tv (K : PySem.W.Frag) (mg : Str → Option Value) (R : Addr → Prop) (H0 : HZ) (F H : Hp) (v : V) : T → Prop
  | .d x => Dv K mg F v x
  | .l xs => ∃ p vs, v = .ref p ∧ H p = some (.lst vs) ∧ Dvs K mg F vs xs
  | .ll xss => ∃ (p : Addr) (qs : List Addr), v = .ref p ∧ H p = some (.lst (qs.map V.ref)) ∧ R p ∧ (∀ q ∈ qs, R q) ∧ qs.Nodup ∧ p ∉ qs ∧ qs.length = xss.length ∧ H0 p = none ∧ (∀ q ∈ qs, H0 q = none) ∧
    ∀ (k : Nat) (q : Addr) (xs : List D), qs[k]? = some q → xss[k]? = some xs → ∃ vs, H q = some (.lst vs) ∧ Dvs K mg F vs xs
  | .p => v = .ref H0.z
  | .sl xs => SnL K mg R F H v xs
  | .so c fs => SnO K mg R F H v c fs
  | .sd kvs => SnD K mg R F H v kvs
/-- a frame's state: R, H0 the reserve and the heap at its entry -/
structure StR (K : PySem.W.Frag) (mg : Str → Option Value) (R : Addr → Prop) (H0 : HZ) (σ : L2.St) (H : Hp) (env : En) : Prop where
  ex : Same H0 H
  res : ∀ a, R a → H a ≠ none
  dis : ∀ p, own σ env p → ¬ R p
  one : One env
  new : ∀ p, own σ env p → H0 p = none
  inj : ∀ (i j : Nat) (xs ys : List D) (p : Addr), env[i]? = some (some (.l xs)) → env[j]? = some (some (.l ys)) → σ[i]? = some (some (.ref p)) → σ[j]? = some (some (.ref p)) → i = j
  slot : ∀ (i : Nat) (t : T), env[i]? = some (some t) → ∃ v, σ[i]? = some (some v) ∧ Tv K mg R H0 (fz R σ env H) H v t
  len : σ.length = env.length
section
variable {K : PySem.W.Frag} {mg : Str → Option Value} {R : Addr → Prop} {H0 : HZ} {H H' : Hp} {σ : L2.St} {env : En}
theorem Tv.mono {F F' : Hp} {v : V} {t : T} (e : Same F F') (e2 : Same H H') (h : Tv K mg R H0 F H v t) : Tv K mg R H0 F' H' v t := by
  cases t with
  | d x => exact Dv.mono e h
  | l xs =>
    obtain ⟨p, vs, hv, hp, hs⟩ := h
    exact ⟨p, vs, hv, e2 _ _ hp, hs.mono e⟩
  | ll xss =>
    obtain ⟨p, qs, hv, hp, h1, h2, h3, h4, h5, h7, h8, h6⟩ := h
    refine ⟨p, qs, hv, e2 _ _ hp, h1, h2, h3, h4, h5, h7, h8, fun k q xs a b => ?_⟩
    obtain ⟨vs, hq, hs⟩ := h6 k q xs a b
    exact ⟨vs, e2 _ _ hq, hs.mono e⟩
  | p => exact h
  | sl xs => exact SnL.mono (fun _ h => h) e (fun a o _ q => e2 a o q) h
  | so c fs => exact SnO.mono (fun _ h => h) e (fun a o _ q => e2 a o q) h
  | sd kvs => exact SnD.mono (fun _ h => h) e (fun a o _ q => e2 a o q) h
theorem fz_same (e : Same H H') : Same (fz R σ env H) (fz R σ env H') := hid_same fun a o _ h => e a o h
theorem StR.up (S : StR K mg R H0 σ H env) (e : Same H H') : StR K mg R H0 σ H' env :=
  ⟨S.ex.trans e, fun a h z => S.res a h (e.free z), S.dis, S.one, S.new, S.inj, fun i t h => by
    obtain ⟨v, hv, ht⟩ := S.slot i t h
    exact ⟨v, hv, ht.mono (fz_same e) e⟩, S.len⟩
theorem StR.resH (S : StR K mg R H0 σ H env) {a : Addr} (h : R a ∨ own σ env a) : H a ≠ none := by
  rcases h with h | ⟨i, xs, h1, h2⟩
  · exact S.res a h
  · obtain ⟨v, hv, p, vs, rfl, hp, _⟩ := S.slot i _ h1
    rw [hv] at h2
    have e := Option.some.inj (Option.some.inj h2)
    injection e with e
    subst e
    rw [hp]
    intro z
    cases z
/-- a new object is part of what is frozen -/
theorem StR.newF (S : StR K mg R H0 σ H env) (e : Same H H') {p : Addr} (hp : H p = none) : fz R σ env H' p = H' p :=
  hid_no fun h => S.resH h hp
end

/-! ### expressions -/
inductive Md where
  | fz | new | sh | pk
  deriving DecidableEq
/-- a new list, its items apart from it -/
def Nw (K : PySem.W.Frag) (mg : Str → Option Value) (F H H' : Hp) (v : V) (d : D) : Prop :=
  ∃ p vs xs G, v = .ref p ∧ d = .lst xs ∧ H p = none ∧ H' p = some (.lst vs) ∧ F p = some (.lst vs) ∧ Same G F ∧ G p = none ∧ Dvs K mg G vs xs
theorem Nw.old {K : PySem.W.Frag} {mg : Str → Option Value} {F H H' : Hp} {v : V} {d : D} (h : Nw K mg F H H' v d) : ∃ p vs xs, v = .ref p ∧ d = .lst xs ∧ H p = none ∧ H' p = some (.lst vs) ∧ F p = some (.lst vs) ∧ Dvs K mg F vs xs :=
  let ⟨p, vs, xs, G, h1, h2, h3, h4, h5, h6, _, h8⟩ := h
  ⟨p, vs, xs, h1, h2, h3, h4, h5, h8.mono h6⟩
/-- how a value stands to data -/
def Rl (K : PySem.W.Frag) (mg : Str → Option Value) (F H H' : Hp) (v : V) (d : D) : Md → Prop
  | .fz => Dv K mg F v d
  | .new => Nw K mg F H H' v d
  | .sh => ∃ p vs xs, v = .ref p ∧ d = .lst xs ∧ H' p = some (.lst vs) ∧ Dvs K mg F vs xs
  | .pk => Dv K mg H' v d
/-- what is told of an exception that flies: its class, its own dict -/
def XW (K : PySem.W.Frag) (mg : Str → Option Value) (R : Addr → Prop) (e : Exn) (cls : Value) (dd : Option Addr) (H' : Hp) : Prop :=
  mg e.cls = some cls ∧ ((e.fs = [] ∧ dd = none) ∨ ∃ a fs, e.fs ≠ [] ∧ dd = some a ∧ hid R H' a = some (.xd fs) ∧ Dfs K mg (hid R H') fs e.fs)
theorem XW.sub {K : PySem.W.Frag} {mg : Str → Option Value} {R R' : Addr → Prop} {e : Exn} {cls : Value} {dd : Option Addr} {H' : Hp} (s : ∀ a, R' a → R a) (h : XW K mg R e cls dd H') : XW K mg R' e cls dd H' :=
  ⟨h.1, h.2.imp id fun ⟨a, fs, h0, h1, h2, h3⟩ => ⟨a, fs, h0, h1, hid_sub s _ _ h2, h3.mono (hid_sub s)⟩⟩
/-- the same, told from outside -/
theorem pe_imp {X : Cx} {e : Expr} {t t' : TE} (h : PE X e t) (i : ∀ σ H Q, t' σ H Q → t σ H Q) : PE X e t' := ⟨fun pins s σ H Q I q => h.run pins s σ H Q I (i σ H Q q)⟩
/-- the reserve and one's own lists -/
abbrev Ro (R : Addr → Prop) (σ : L2.St) (env : En) : Addr → Prop := fun a => R a ∨ own σ env a
end Orn

set_option linter.all false
set_option maxRecDepth 100000
set_option maxHeartbeats 4000000
namespace Orn
open L2 PySem PySem.Spec PyProof.Rows
/-! ### new tuples, known to the object -/
abbrev tupO (its : List Value) : Obj := { cls := .type "tuple", data := .seq its.toArray }
theorem okG_tup {P : Program} {w : World} {H : Hp} {h : Heap} {xs : List V} {its : List Value} (hz : xs.length ≤ sizeLine) (r : Vals xs its) : ObjOk P w H (h.push (tupO its)) h.objs.size (.frz (tupO its) (.tup xs)) :=
  ⟨Heap.get?_push_size _ rfl, hz, its, r, IsTup.new _ _⟩
/-- what is asked where a new tuple is handed on -/
def rNewT (xs : List V) (H : Hp) (Q : VK) : Prop := ∀ (p : Addr) (o : Obj), H p = none → o.dict = none → Q (.ref p) (upd H p (.frz o (.tup xs)))
section
variable {X : Cx} {pins : List (Addr × Obj)} {σ : L2.St} {H : Hp} {s : Shared} {Q : VK} {xs : List V} {its : List Value}
theorem newT_ok (I : Inv X pins σ H s) (hz : xs.length ≤ sizeLine) (r : Vals xs its) (q : rNewT xs H Q) : EP X pins σ Q (.ref s.heap.objs.size) { s with heap := s.heap.push (tupO its) } :=
  ⟨.ref s.heap.objs.size, _, I.laid (t' := s.toks) (o := .frz (tupO its) (.tup xs)) (fun b ob e => Heap.get?_push_of_some _ e) (Nat.le_refl _) (okG_tup hz r), rfl, q _ _ (I.hok.fresh (Nat.le_refl _)) rfl⟩
def tTupG (t : TA) : TE := fun σ H Q => t σ H fun xs H1 => xs.length ≤ sizeLine ∧ rNewT xs H1 Q
theorem pe_tupG {es : List Expr} {t : TA} {x1} {pos : Pos} (h : PA X es t) : PE X (.Tuple es x1 pos) (tTupG t) := by
  constructor
  intro pins s σ H Q I hq
  exact wpAny_Tuple_spliced (thn (h.run pos pins s σ H _ I hq) fun us s1 ⟨xs, H1, I1, r, z, q⟩ => ⟨r.length ▸ z, newT_ok I1 z r q⟩)
def rTupleG (K : PySem.W.Frag) : List V → Hp → VK → Prop := fun xs H Q => ∃ p ys, xs = [.ref p] ∧ ((SqL K H p ys ∧ rNewT ys H Q) ∨ (SqT K H p ys ∧ Q (.ref p) H))
theorem call_tupleG : CallR X (.type "tuple") (rTupleG X.K) := by
  intro pins s σ H xs us Q I r h
  obtain ⟨p, ys, rfl, h⟩ := h
  obtain ⟨u, rfl, rx⟩ := vals1 r
  have rx : u = Value.ref p := rx
  subst rx
  rcases h with ⟨hq, q⟩ | ⟨hq, q⟩
  · obtain ⟨its, r', pl, hz⟩ := I.list hq
    have n := r'.length
    exact call_tuple_list pl.isList (fun h' kp => newT_ok (s := { s with heap := h' }) (I.kept (t' := s.toks) kp) hz r' q) (by rw [List.size_toArray]; omega)
  · obtain ⟨its, r', pl, hz⟩ := I.tuple hq
    exact call_tuple_same pl ⟨.ref p, H, I, rfl, q⟩
def rCatG (K : PySem.W.Frag) : R2 := fun x y H Q => ∃ a b xs ys, x = .ref a ∧ y = .ref b ∧ SqT K H a xs ∧ SqT K H b ys ∧ xs.length + ys.length ≤ sizeLine ∧
  (xs = [] → Q (.ref b) H) ∧ (xs ≠ [] → ys = [] → Q (.ref a) H) ∧ (xs ≠ [] → ys ≠ [] → rNewT (xs ++ ys) H Q)
theorem op_catG : OpR X (binaryOp .Add) (rCatG X.K) := by
  intro pins s σ H x y v u Q I rx ry h
  obtain ⟨a, b, xs, ys, rfl, rfl, ha, hb, hz, q0, q1, q2⟩ := h
  by_cases hx : xs = []
  · subst hx
    exact op_catA pins s σ H _ _ v u Q I rx ry ⟨a, b, [], ys, rfl, rfl, ha, hb, hz, q0, fun z => absurd rfl z, fun z => absurd rfl z⟩
  · have rx : v = Value.ref a := rx
    have ry : u = Value.ref b := ry
    subst rx ry
    obtain ⟨i1, r1, p1, _⟩ := I.tuple ha
    obtain ⟨i2, r2, p2, _⟩ := I.tuple hb
    exact HT.cat_tup p1 p2 (fun z => hx (r1.nil_iff.mp z)) (fun z => ⟨.ref a, H, I, rfl, q1 hx (r2.nil_iff.mp z)⟩)
      (fun z => newT_ok I (by rw [List.length_append]; exact hz) (r1.append r2) (q2 hx fun w => z (r2.nil_iff.mpr w))) (by rw [← r1.length, ← r2.length]; exact hz)
def rSlG (K : PySem.W.Frag) : V → Option Int → Option Int → Hp → VK → Prop := fun x lo hi H Q => ∃ a xs, x = .ref a ∧ SqT K H a xs ∧
  (HT.sIx xs.length 0 lo = 0 ∧ HT.sIx xs.length xs.length hi = xs.length → Q (.ref a) H) ∧ (¬ (HT.sIx xs.length 0 lo = 0 ∧ HT.sIx xs.length xs.length hi = xs.length) → rNewT (cutV xs lo hi) H Q)
theorem sl_tupG : SlR X (rSlG X.K) := by
  intro pins s σ H x v vl vu lo hi sl Q I rx hs pl pu h
  obtain ⟨a, xs, rfl, hx, q1, q2⟩ := h
  by_cases hw : HT.sIx xs.length 0 lo = 0 ∧ HT.sIx xs.length xs.length hi = xs.length
  · exact sl_tupA pins s σ H _ v vl vu lo hi sl Q I rx hs pl pu ⟨a, xs, rfl, hx, q1, fun z => absurd hw z⟩
  · have rx : v = Value.ref a := rx
    subst rx
    obtain ⟨its, r, ht, hz⟩ := I.tuple hx
    have n : its.toArray.size = xs.length := by rw [List.size_toArray]; exact r.length.symm
    refine ⟨"tuple", _, PyProof.Rows.slot_tuple_getitem.lookup, ht.typeIs, HT.getItem_tuple_cut ht hs pl pu (by rw [n]; exact hw) ?_ (by rw [n]; exact hz)⟩
    rw [n]
    exact newT_ok I (Nat.le_trans (cutV_length xs lo hi) hz) ((r.drop (HT.sIx xs.length 0 lo)).take (HT.sIx xs.length xs.length hi - HT.sIx xs.length 0 lo)) (q2 hw)
/-! ### a method of a tuple that has no dict -/
def tBMG (K : PySem.W.Frag) (r : V → List V → Hp → VK → Prop) (to : TE) (t : TA) : TE := fun σ H Q => to σ H fun x H1 => (∃ a vs, x = .ref a ∧ GT K H1 a vs) ∧ t σ H1 fun xs H2 => r x xs H2 Q
theorem GT.is (I : Inv X pins σ H s) {a : Addr} {vs : List V} (h : GT X.K H a vs) : s.TypeIs (.ref a) "tuple" ∧ ∀ b, Value.ref a = .ref b → ∃ ob, s.heap.get? b = some ob ∧ ob.dict = none := by
  rcases h with ⟨o, h, d⟩ | ⟨o, its, n, h1, h2, h3, _⟩
  · obtain ⟨h1, hT⟩ := I.hok a _ h
    obtain ⟨_, its, _, o', g1, g2, _⟩ := hT
    refine ⟨⟨o', g1, g2⟩, fun b e => ?_⟩
    injection e with e
    subst e
    exact ⟨o, h1, d⟩
  · refine ⟨⟨o, I.kIn _ _ h1, h2⟩, fun b e => ?_⟩
    injection e with e
    subst e
    exact ⟨o, I.kIn _ _ h1, h3⟩
theorem pe_bmG {o e : Expr} {es : List Expr} {to : TE} {t : TA} {name : Str} {ap cp : Pos} {id : String} {r : V → List V → Hp → VK → Prop} (pa : PlainAttrs "tuple") (slot : Slot "tuple" name id) (hty : typeOf (.builtin id) = pure (.type "method_descriptor")) (hm : MtR X id r) (ho : PE X o to) (ha : PA X (e :: es) t)
    (hbase : attributeBase o name X.env (eval o X.env) = eval o X.env := by rfl)
    (hfew : ((backTo cp (starEach (e :: es) X.env)).all (fun x => !x.1) && (backToKw cp (keywordEach [] X.env)).all (fun x => x.1.isSome) && decide ((e :: es).length + ([] : List Keyword).length + (if ([] : List Keyword).isEmpty then 0 else 1) < 30)) = true := by rfl)
    (hline : (ap.endLine == cp.line) = true := by rfl) (hs : starEach (e :: es) X.env = (false, eval e X.env) :: starEach es X.env := by rfl) (hplain : (backTo cp (starEach es X.env)).any (·.1) = false := by rfl) :
    PE X (.Call (.Attribute o name ap) (e :: es) [] cp) (tBMG X.K r to t) := by
  constructor
  intro pins s σ H Q I h
  refine wpAny_Call_method_late hbase hfew hline rfl (thn (ho.run pins s σ H _ I h) fun v s1 ⟨x, H1, I1, r1, ⟨a, vs, ea, hg⟩, q1⟩ => ?_)
  subst ea
  have r1' : v = Value.ref a := r1
  subst r1'
  obtain ⟨h1, h2⟩ := GT.is I1 hg
  refine ⟨"tuple", id, pa, slot, hty, h1, h2, ?_⟩
  have hA := ha.run cp pins s1 σ H1 _ I1 q1
  rw [hs] at hA ⊢
  have z : (false || (backTo cp (starEach es X.env)).any (·.1)) = false := by rw [hplain]; rfl
  exact Calls.callWith_builtin z (Calls.evalArgs_plain (thn hA fun us s2 ⟨ws, H2, I2, r2, q2⟩ => hm pins s2 σ H2 _ ws _ us Q I2 r1 r2 q2))
end
end Orn

set_option linter.all false
set_option maxRecDepth 100000
set_option maxHeartbeats 4000000
namespace Orn
open L2 PySem PySem.Spec PyProof.Rows
/-! ### defs where no repr is under way -/
structure Rm (k : Nat) (A : Around) : Prop where
  r : Room k A
  g : A.guards = some []
theorem Rm.mono {j k : Nat} {A : Around} (h : Rm k A) (e : j ≤ k) : Rm j A := ⟨h.r.mono e, h.g⟩
theorem Rm.deeper {k : Nat} {A : Around} (h : Rm (k + 1) A) (env : Env) : Rm k (A.deeper env) := ⟨h.r.deeper env, h.g⟩
structure FnG (P : Program) (w : World) (K : PySem.W.Frag) (mg : Str → Option Value) (base : Heap) (k : Nat) (f : Addr) (fd : FuncData) (ps : List Str) (sp : Sp) : Prop where
  len : ∀ vs H Q E, sp vs H Q E → vs.length = ps.length
  run : ∀ (A : Around) (outer : List Env) (s : Shared) (H : Hp) (args : Args) (us : List Value) (vs : List V) (Q : VK) (E : XK),
    Rm k A → Env0 P w K mg base A outer s H → BindsTo s fd args (ps.zip us) → Vals vs us → sp vs H Q E →
      codeAny (model P w) A (.call (.ref f) args) (CR (L2.CX P w) outer P w H s Q E) s
section
variable {P : Program} {w : World} {K : PySem.W.Frag} {mg : Str → Option Value} {base : Heap}
theorem FnG.mono {j k : Nat} {f : Addr} {fd : FuncData} {ps : List Str} {sp : Sp} (F : FnG P w K mg base j f fd ps sp) (h : j ≤ k) : FnG P w K mg base k f fd ps sp :=
  ⟨F.len, fun A o s H a us vs Q E r => F.run A o s H a us vs Q E (r.mono h)⟩
theorem fnG_of {k : Nat} {f : Addr} {nm qual : Str} {pr : Arguments} {body : List Stmt} {sc : Scope} {dV kV doc pm cdv ct oc : Value} {an od : Option Addr} {osl : Array (Option Value)} {N ps : List Str} {sp : Sp}
    (lk : K.lookup f = some ⟨oc, od, .func (PySem.W.fnOf nm qual pr body sc dV kV doc pm an cdv ct), osl⟩) (hcd : PySem.W.codeIn K cdv qual = true) (S : FnScope N ps sc) (len : ∀ vs H Q E, sp vs H Q E → vs.length = ps.length)
    (hb : ∀ (A : Around) (outer : List Env) (s : Shared) (H : Hp) (vs : List V) (Q : VK) (E : XK), Rm k (A.deeper (envOfC qual sc s.heap.objs.size f cdv)) → sp vs H Q E →
      ∃ t, PSs (cxOf (L2.CX P w) P w K mg base N qual sc f cdv A outer s H E) body t ∧ t { nx := fun _ H' => Q .non H', rt := Q } (L2.start N vs) H) :
    FnG P w K mg base (k + 1) f (PySem.W.fnOf nm qual pr body sc dV kV doc pm an cdv ct) ps sp := by
  constructor
  · exact len
  · intro A outer s H args us vs Q E hr e0 hbd r hsp
    have hl : vs.length = ps.length := len _ _ _ _ hsp
    have up : ∀ b o, base.get? b = some o → s.heap.get? b = some o := fun b o e => (e0.bs b o e).1
    have kx : K.In s.heap := e0.mod.kin.keeps up
    have lm : s.heap.NoLimit := e0.mod.nolimit.keeps up
    have kinds : ∀ y ∈ ps.zip us, sc.names.lookup y.1 = some .local ∨ (sc.names.lookup y.1 = some .cell ∧ ((cellsFrom (s.heap.objs.size + 1) sc.names []).lookup y.1).isSome = true) := by
      rintro ⟨n, v⟩ hy
      cases S.par n (List.of_mem_zip hy).1 with
      | inl q => exact .inl q
      | inr q => exact .inr ⟨q, PySem.W.cellsFrom_some _ _ _ (.inl q)⟩
    refine codeAny_call_function hr.r.depth (kx _ _ lk) rfl S.co S.gen rfl (PySem.W.codeRec_of kx hcd) (hbd _ _ _ _ ?_)
    refine wpAny_newFunctionEnv_cells S.kind kinds fun env ev s1 xc => ?_
    subst ev
    refine ⟨lm.keeps xc.toInCall.keep, codeAny_func ?_⟩
    obtain ⟨t, ht, hq⟩ := hb A outer s H vs Q E (hr.deeper _) hsp
    have I := inv_start (CX := L2.CX P w) (P := P) (w := w) (K := K) (mg := mg) (base := base) (E := E) S hr.r.hd e0 hl r xc
    have fin : ∀ {σ' : L2.St} {H' : Hp} {v : V} {u : Value} {s' : Shared}, Inv (cxOf (L2.CX P w) P w K mg base N qual sc f cdv A outer s H E) [] σ' H' s' → RelV v u → Q v H' → CE outer P w H s Q u s' :=
      fun J rv q => ⟨_, _, J.os, J.bare, J.base, J.hok, rv, q⟩
    refine wpAny_mono (ht.run [] s1 _ H _ I hq) (fun fl s' hs => ?_) fun _ _ z => z
    match fl, hs with
    | .ret u, ⟨v, σ', H', J, rv, q⟩ => exact fin J rv q
    | .next, ⟨σ', H', J, q⟩ => exact fin (v := V.non) (u := Value.none) J rfl q
    | .brk, ⟨_, _, _, q⟩ => exact q.elim
    | .cont, ⟨_, _, _, q⟩ => exact q.elim
end
section
variable {P : Program} {w : World} {K : PySem.W.Frag} {mg : Str → Option Value} {base : Heap}
/-- a def of the text, by its body -/
theorem okG {x qual : Str} {st : Stmt} {f : Addr} {fd : FuncData} {N ps : List Str} {k : Nat} {sp : Sp} (F : Fun K x qual st f fd) (S : FnScope N ps (defScope st)) (len : ∀ vs H Q E, sp vs H Q E → vs.length = ps.length)
    (hb : ∀ (cdv : Value) (A : Around) (outer : List Env) (s : Shared) (H : Hp) (vs : List V) (Q : VK) (E : XK), Rm k (A.deeper (envOfC qual (defScope st) s.heap.objs.size f cdv)) → sp vs H Q E →
      ∃ t, PSs (cxOf (L2.CX P w) P w K mg base N qual (defScope st) f cdv A outer s H E) (defBody st) t ∧ t { nx := fun _ H' => Q .non H', rt := Q } (L2.start N vs) H) : FnG P w K mg base (k + 1) f fd ps sp := by
  obtain ⟨oc, od, kV, doc, pm, an, cdv, ct, osl, rfl, lk, hcd⟩ := F.ex
  exact fnG_of lk hcd S len (hb cdv)
end
section
variable {X : Cx} {k : Nat} {f : Addr} {fd : FuncData} {ps : List Str} {sp : Sp} {W : L2.WX} {x : Str} {p pos : Pos} {e : Expr} {es : List Expr} {t : TA}
theorem run_G {pins : List (Addr × Obj)} {σ : L2.St} {H : Hp} {s : Shared} {Q : VK} {us : List Value} {vs : List V} (F : FnG X.prog X.w X.K X.mg X.base k f fd ps sp) (hr : Rm k X.A) (hb : Binds X.K fd ps []) (tk : Takes X W)
    (I : Inv X pins σ H s) (r : Vals vs us) (h : sp vs H Q (WE W σ)) : wpAny (model X.prog X.w) X.A (call (.ref f) us) (EP X pins σ Q) X.xe s := by
  have hl : us.length = ps.length := r.length ▸ F.len _ _ _ _ h
  have b := hb s us I.kIn (by rw [List.append_nil]; exact hl)
  rw [List.append_nil] at b
  have go := F.run X.A X.stack s H ⟨us, []⟩ us vs Q (WE W σ) hr I.env0 b r h
  refine wpAny_call (codeAny_mono go fun r s' hq => ?_)
  match r, hq with
  | .error e, hq => exact passAt tk σ pins H s e s' I hq
  | .ok (.ret u), hq => exact I.after hq
  | .ok .next, hq => exact False.elim hq
  | .ok .brk, hq => exact False.elim hq
  | .ok .cont, hq => exact False.elim hq
theorem pe_callG (F : FnG X.prog X.w X.K X.mg X.base k f fd ps sp) (hr : Rm k X.A) (gl : Gl X x) (hm : X.mg x = some (.ref f)) (hk : PySem.W.keepIn X.K (.ref f) = true) (hb : Binds X.K fd ps []) (tk : Takes X W)
    (ha : PA X (e :: es) t) (hdb : (x == ("__debug__" : Str)) = false := by decide) (he : starEach (e :: es) X.env = (false, eval e X.env) :: starEach es X.env := by rfl) (hpl : (backTo pos (starEach es X.env)).any (·.1) = false := by rfl) :
    PE X (.Call (.Name x p) (e :: es) [] pos) (tCallS sp (WE W) t) := by
  constructor
  intro pins s σ H Q I h
  refine wpAny_Call_Name_kw (ld_glob I gl hm ?_ hdb)
  exact PySem.W.callWith_K (h₀ := X.base) I.ok.mod.kin hk (thn (ha.run pos pins s σ H _ I h) fun us s1 ⟨vs, H1, I1, r, q⟩ => ⟨I1.kIn, run_G F hr hb tk I1 r q⟩) he hpl
theorem pe_callG0 (F : FnG X.prog X.w X.K X.mg X.base k f fd ps sp) (hr : Rm k X.A) (gl : Gl X x) (hm : X.mg x = some (.ref f)) (hk : PySem.W.keepIn X.K (.ref f) = true) (hb : Binds X.K fd ps []) (tk : Takes X W)
    (hdb : (x == ("__debug__" : Str)) = false := by decide) : PE X (.Call (.Name x p) [] [] pos) (tCallS sp (WE W) tNil) := by
  constructor
  intro pins s σ H Q I h
  refine wpAny_Call_Name_kw (ld_glob I gl hm ?_ hdb)
  exact PySem.W.callWith_K0 I.kIn hk (run_G (us := []) F hr hb tk I .nil h)
end
/-! ### the law's own call -/
theorem law_callG {P : Program} {w : World} {K : PySem.W.Frag} {mg mb : Str → Option Value} {k : Nat} {fa a : Addr} {fd : FuncData} {x : Str} {sp : Sp} {s1 : Shared} {vs : List Value} {ns : List Int}
    (kx : K.In s1.heap) (hns : s1.heap.Ns mainGlobals mg) (hb : s1.heap.Ns builtinsNs mb) (hbb : ∀ x : Str, x ≠ "__name__" → mb x = bootBuiltins x) (hlim : s1.heap.NoLimit) (hg : s1.gens = #[])
    (ha : s1.heap.get? a = some { cls := .type "list", data := .seq vs.toArray }) (hi : IntsAre vs ns) (hl : ns.length ≤ sizeLine) (hr : Rm k callerA)
    (F : ∀ base : Heap, K.In base → base.Ns mainGlobals mg → FnG P w K mg base k fa fd [x] sp) (hbind : ∀ (s : Shared) (u : Value), BindsTo s fd ⟨[u], []⟩ [(x, u)])
    (hsp : ∀ H : Hp, Only H → SqL K H a (ns.map V.int) → sp [.ref a] H (fun v _ => v = .bl true) fun _ _ _ => False) :
    codeAny (model P w) callerA (.call (.ref fa) ⟨[.ref a], []⟩) (fun r s' => r = .ok (.ret (.bool true)) ∧ OldK s1.heap s'.heap ∧ s'.os = s1.os ∧ AllBare s'.gens) s1 := by
  have rv := vals_ints hi
  have nil0 : ∀ {b : Addr}, b ∉ ([] : List Addr) := fun {b} h => by cases h
  have core : ∀ H : Hp, Only H → SqL K H a (ns.map V.int) → HOk P w H s1.heap → (∀ b, H b ≠ none → b = a) → (H a ≠ none → K.lookup a = none) →
      codeAny (model P w) callerA (.call (.ref fa) ⟨[.ref a], []⟩) (fun r s' => r = .ok (.ret (.bool true)) ∧ OldK s1.heap s'.heap ∧ s'.os = s1.os ∧ AllBare s'.gens) s1 := by
    intro H hO hS hok hA hK
    have at_a : ∀ {b : Addr}, (∃ u, H b = some u) → b = a := fun {b} ⟨u, q⟩ => hA b (by rw [q]; intro z; cases z)
    have bare : ∀ {b : Addr} {m : Str → Option Value}, s1.heap.Ns b m → (hidT s1.heap H).Ns b m := by
      rintro b m ⟨o, es, ep, e, d, r⟩
      refine ⟨o, es, ep, hidT_get e ?_, d, r⟩
      cases q : H b with
      | none => rfl
      | some u =>
        have z := at_a ⟨u, q⟩
        subst z
        rw [ha] at e
        injection e with e
        subst e
        cases (show Data.seq vs.toArray _ = Data.dict es ep from d)
    have kb : K.In (hidT s1.heap H) := fun b o e => by
      refine hidT_get (kx b o e) ?_
      cases q : H b with
      | none => rfl
      | some u =>
        have z := at_a ⟨u, q⟩
        subst z
        rw [hK (by rw [q]; intro z; cases z)] at e
        cases e
    obtain ⟨mc, l1, l2⟩ := hlim
    have e0 : Env0 P w K mg (hidT s1.heap H) callerA [] s1 H :=
      { frames := rfl, mod := ⟨kb, bare hns, ⟨mb, bare hb, hbb⟩, ⟨mc, bare l1, l2⟩⟩, bs := fun b o e => of_hidT e, bsz := Nat.le_of_eq (hidT_size _ _), funs := trivial, frf := fun b hb => absurd hb nil0, hok := hok, bare := .of_eq hg }
    have go := (F _ kb (bare hns)).run callerA [] s1 H ⟨[.ref a], []⟩ [.ref a] [.ref a] _ _ hr e0 (hbind s1 (.ref a)) (.cons rfl .nil) (hsp H hO hS)
    refine codeAny_mono go fun r s' h => ?_
    match r, h with
    | .error e, h =>
      obtain ⟨_, _, _, _, _, _, _, _, _, _, _, _, z⟩ := h
      exact z.elim
    | .ok .next, h => exact False.elim h
    | .ok .brk, h => exact False.elim h
    | .ok .cont, h => exact False.elim h
    | .ok (.ret u), ⟨v, H', os, br, un, hok', r', q⟩ =>
      have q : v = .bl true := q
      subst q
      have r' : u = Value.bool true := r'
      subst r'
      refine ⟨rfl, OldK.of_keep fun b o e => ?_, os, br⟩
      cases q : H b with
      | none => exact un.keep b o e q nil0 nil0
      | some u =>
        rcases hO b with z | ⟨ob, xs, z⟩
        · rw [q] at z
          cases z
        · have h1 := (hok b _ z).1
          rw [e] at h1
          injection h1 with h1
          subst h1
          exact (hok' b _ (un.frzs b o _ z)).1
  cases hk : K.lookup a with
  | some o =>
    have e := kx a o hk
    rw [ha] at e
    injection e with e
    subst e
    have sz : vs.toArray.size ≤ sizeLine := by rw [List.size_toArray, hi.length]; exact hl
    exact core (fun _ => none) (fun _ => .inl rfl) (.inr ⟨_, vs.toArray, _, hk, rfl, rfl, rfl, sz, by simpa using rv⟩) (fun b u z => by cases (show (none : Option HO) = some u from z)) (fun b z => absurd rfl z) fun z => absurd rfl z
  | none =>
    let L : Obj := { cls := .type "list", data := .seq vs.toArray }
    have yes : ∀ {b : Addr}, b = a → (if b = a then some (HO.frz L (.lst (ns.map V.int))) else none) = some (HO.frz L (.lst (ns.map V.int))) := fun h => if_pos h
    have no : ∀ {b : Addr}, b ≠ a → (if b = a then some (HO.frz L (.lst (ns.map V.int))) else none) = none := fun h => if_neg h
    refine core (fun b => if b = a then some (.frz L (.lst (ns.map V.int))) else none) (fun b => ?_) (.inl (.inr ⟨L, if_pos rfl⟩)) (fun b u z => ?_) (fun b z => ?_) fun _ => hk
    · by_cases h : b = a
      · exact .inr ⟨L, _, yes h⟩
      · exact .inl (no h)
    · by_cases h : b = a
      · have z := (yes h).symm.trans z
        injection z with z
        subst z
        subst h
        exact ⟨ha, by rw [List.length_map]; exact hl, vs, _, rv, ha⟩
      · have z := (no h).symm.trans z
        cases z
    · by_cases h : b = a
      · exact h
      · exact absurd (no h) z
/-- the end of a law whose def keeps its promise where no repr is under way -/
theorem walk_G {l : PySem.W.OpenLaw} {n k : Nat} {q : Program} {loose : List Str} {XP : (Str → Option Value) → Heap → Prop} {YP : World → Heap → Prop} {d : DefRec} {K : Params → PySem.W.Frag} {sp : World → Sp} {x : Str}
    (hn : l.most = some n) (hn2 : n ≤ sizeLine) (hdf : d.params.defaults = []) (hr : Rm k callerA) (hY : ∀ (w : World) (h : Heap), YP w h → (K w.params).In h)
    (F : ∀ (w : World) (mg : Str → Option Value) (fa : Addr) (h : Heap), (K w.params).In h → h.Ns mainGlobals mg → mg d.name = some (.ref fa) →
      ∃ fd : FuncData, (∀ (s : Shared) (u : Value), BindsTo s fd ⟨[u], []⟩ [(x, u)]) ∧ ∀ base : Heap, (K w.params).In base → base.Ns mainGlobals mg → FnG l.prog w (K w.params) mg base k fa fd [x] (sp w))
    (hsp : ∀ (w : World) (H : Hp) (a : Addr) (ns : List Int), ns.length ≤ n → Only H → SqL (K w.params) H a (ns.map V.int) → sp w [.ref a] H (fun v _ => v = .bl true) fun _ _ _ => False) :
    PySem.W.WalkO q loose XP YP l.row.toRowW d [] (fun f vs => PySem.call f vs) := by
  refine Att.attach_call hn hdf fun w s0 s1 mg mb fa o pm cd doc a vs ns G Y ho hd hcd hmg hobj hints hlen hg => ?_
  have kx := hY w _ Y
  obtain ⟨fd, hb, hF⟩ := F w mg fa _ kx G.T.g hmg
  exact law_callG kx G.T.g G.T.b G.T.builtins G.T.nolimit hg hobj hints (Nat.le_trans hlen hn2) hr hF hb fun H hO hS => hsp w H a ns hlen hO hS
end Orn

set_option linter.all false
set_option maxRecDepth 100000
set_option maxHeartbeats 4000000
namespace Orn
open L2 PySem PySem.Spec PyProof.Rows
section
variable {K : PySem.W.Frag} {mg : Str → Option Value} {F F' H H' H1 H2 : Hp} {v : V} {x : D}
theorem Rl.mono {m : Md} (e : Same F F') (e2 : Same H1 H2) (h : Rl K mg F H H1 v x m) : Rl K mg F' H H2 v x m := by
  cases m with
  | fz => exact Dv.mono e h
  | new =>
    obtain ⟨p, vs, xs, G, hv, hx, hn, h1, hf, hg, hp, hs⟩ := h
    exact ⟨p, vs, xs, G, hv, hx, hn, e2 _ _ h1, e _ _ hf, hg.trans e, hp, hs⟩
  | sh =>
    obtain ⟨p, vs, xs, hv, hx, h1, hs⟩ := h
    exact ⟨p, vs, xs, hv, hx, e2 _ _ h1, hs.mono e⟩
  | pk => exact Dv.mono e2 h
theorem Rl.start {m : Md} (e : Same H H') (h : Rl K mg F H' H1 v x m) : Rl K mg F H H1 v x m := by
  cases m with
  | fz => exact h
  | new =>
    obtain ⟨p, vs, xs, G, hv, hx, hn, h1⟩ := h
    exact ⟨p, vs, xs, G, hv, hx, e.free hn, h1⟩
  | sh => exact h
  | pk => exact h
theorem Rl.pk {m : Md} (e : Same F H1) (h : Rl K mg F H H1 v x m) : Dv K mg H1 v x := by
  cases m with
  | fz => exact Dv.mono e h
  | new =>
    obtain ⟨p, vs, xs, rfl, rfl, hn, h1, hf, hs⟩ := Nw.old h
    exact .lst h1 (hs.mono e)
  | sh =>
    obtain ⟨p, vs, xs, rfl, rfl, h1, hs⟩ := h
    exact .lst h1 (hs.mono e)
  | pk => exact h
theorem Rl.sh {m : Md} (hm : m ≠ .pk) (e : Same F H1) {xs : List D} (h : Rl K mg F H H1 v (.lst xs) m) : ∃ p vs, v = .ref p ∧ H1 p = some (.lst vs) ∧ Dvs K mg F vs xs := by
  cases m with
  | fz =>
    cases h with
    | lst h r => exact ⟨_, _, rfl, e _ _ h, r⟩
  | new =>
    obtain ⟨p, vs, ys, hv, hx, hn, h1, hf, hs⟩ := Nw.old h
    injection hx with hx
    subst hx
    exact ⟨p, vs, hv, h1, hs⟩
  | sh =>
    obtain ⟨p, vs, ys, hv, hx, h1, hs⟩ := h
    injection hx with hx
    subst hx
    exact ⟨p, vs, hv, h1, hs⟩
  | pk => exact absurd rfl hm
theorem Rl.rol {m : Md} (hm : m ≠ .pk) (e : Same F H1) {xs : List D} (h : Rl K mg F H H1 v (.rol xs) m) : ∃ p vs, v = .ref p ∧ SqL K H1 p vs ∧ Dvs K mg F vs xs := by
  cases m with
  | fz =>
    cases h with
    | rol h r => exact ⟨_, _, rfl, e.seq h, r⟩
  | new => obtain ⟨p, vs, ys, hv, hx, _⟩ := Nw.old h; cases hx
  | sh => obtain ⟨p, vs, ys, hv, hx, _⟩ := h; cases hx
  | pk => exact absurd rfl hm
theorem Rl.tup {m : Md} (hm : m ≠ .pk) (e : Same F H1) {xs : List D} (h : Rl K mg F H H1 v (.tup xs) m) : ∃ p vs, v = .ref p ∧ GT K F p vs ∧ Dvs K mg F vs xs := by
  cases m with
  | fz =>
    cases h with
    | tup h r => exact ⟨_, _, rfl, h, r⟩
  | new => obtain ⟨p, vs, ys, hv, hx, _⟩ := Nw.old h; cases hx
  | sh => obtain ⟨p, vs, ys, hv, hx, _⟩ := h; cases hx
  | pk => exact absurd rfl hm
/-- an own value without parts -/
def flat : D → Option V
  | .non => some .non
  | .bl b => some (.bl b)
  | .int i => some (.int i)
  | .str s => some (.str s)
  | _ => none
theorem Rl.flat {m : Md} {y : V} (hx : flat x = some y) (h : Rl K mg F H H1 v x m) : v = y := by
  have go : ∀ {F : Hp}, Dv K mg F v x → v = y := fun h => by cases h <;> simp_all [Orn.flat]
  cases m with
  | fz => exact go h
  | new => obtain ⟨p, vs, ys, hv, rfl, _⟩ := Nw.old h; cases hx
  | sh => obtain ⟨p, vs, ys, hv, rfl, _⟩ := h; cases hx
  | pk => exact go h
theorem Rl.int {m : Md} {i : Int} (h : Rl K mg F H H1 v (.int i) m) : v = .int i := h.flat rfl
theorem Rl.str {m : Md} {i : Str} (h : Rl K mg F H H1 v (.str i) m) : v = .str i := h.flat rfl
theorem Rl.bl {m : Md} {i : Bool} (h : Rl K mg F H H1 v (.bl i) m) : v = .bl i := h.flat rfl
theorem Rl.non {m : Md} (h : Rl K mg F H H1 v .non m) : v = .non := h.flat rfl
theorem Dv.flat {y : V} (hx : flat x = some y) : Dv K mg F y x := by
  cases x <;> simp_all [Orn.flat] <;> subst hx <;> constructor
end

/-! ### the readings -/
def Post (K : PySem.W.Frag) (mg : Str → Option Value) (W : L2.WX) (R : Addr → Prop) (H0 : HZ) (σ : L2.St) (env : En) (m : Md) (H : Hp) (Q : VK) : Rs D → Prop
  | .ok d => ∀ v H', Same H H' → Rl K mg (fz R σ env H') H H' v d m → Q v H'
  | .exc e => ∀ cls dd H', Same H H' → XW K mg (Ro R σ env) e cls dd H' → W cls dd σ H'
  | .bad => False
section
variable {K : PySem.W.Frag} {mg : Str → Option Value} {W : L2.WX} {R : Addr → Prop} {H0 : HZ} {H H1 : Hp} {σ : L2.St} {env : En} {m : Md} {Q : VK}
theorem Post.up (e : Same H H1) {r : Rs D} (h : Post K mg W R H0 σ env m H Q r) : Post K mg W R H0 σ env m H1 Q r := by
  cases r with
  | ok d => exact fun v H' e' r => h v H' (e.trans e') (r.start e)
  | exc x => exact fun c d H' e' => h c d H' (e.trans e')
  | bad => exact h
theorem Post.flat (S : StR K mg R H0 σ H env) {d : D} {y : V} (hx : flat d = some y) (h : Post K mg W R H0 σ env .fz H Q (.ok d)) : Q y H :=
  h y H (Same.refl H) (Dv.flat hx)
end
/-- an expression's reading -/
def rdP (K : PySem.W.Frag) (mg : Str → Option Value) (W : L2.WX) (m : Md) (f : En → Rs D) : TE := fun σ H Q => ∃ R H0 env, StR K mg R H0 σ H env ∧ Post K mg W R H0 σ env m H Q (f env)
def op2 (g : D → D → Rs D) (fa fb : En → Rs D) : En → Rs D := fun env => fa env >>= fun a => fb env >>= fun b => g a b
def op1 (g : D → Rs D) (fa : En → Rs D) : En → Rs D := fun env => fa env >>= g
section
variable {X : Cx} {W : L2.WX} {m ma mb : Md} {fa fb f : En → Rs D} {a b e : Expr} {pos : Pos}
/-- «the expression a computes f» -/
abbrev PR (X : Cx) (W : L2.WX) (m : Md) (a : Expr) (f : En → Rs D) : Prop := PE X a (rdP X.K X.mg W m f)
theorem rd_seq2 {g : D → D → Rs D} {R : Addr → Prop} {H0 : HZ} {H : Hp} {σ : L2.St} {env : En} {Q : VK} {K : PySem.W.Frag} {mg : Str → Option Value} {r : V → V → Hp → Prop}
    (S : StR K mg R H0 σ H env) (h : Post K mg W R H0 σ env m H Q (op2 g fa fb env))
    (k : ∀ x y a b H2, Same H H2 → StR K mg R H0 σ H2 env → Rl K mg (fz R σ env H2) H H2 x a ma → Rl K mg (fz R σ env H2) H H2 y b mb → Post K mg W R H0 σ env m H2 Q (g a b) → r x y H2) :
    rdP K mg W ma fa σ H fun x H1 => rdP K mg W mb fb σ H1 fun y H2 => r x y H2 := by
  refine ⟨R, H0, env, S, ?_⟩
  unfold op2 at h
  cases ea : fa env with
  | exc x => rw [ea] at h; exact h
  | bad => rw [ea] at h; exact h
  | ok da =>
    rw [ea] at h
    intro x H1 e1 r1
    refine ⟨R, H0, env, S.up e1, ?_⟩
    rw [Rs.bind_ok] at h
    cases eb : fb env with
    | exc x => rw [eb] at h; exact fun c d H' e' => h c d H' (e1.trans e')
    | bad => rw [eb] at h; exact h
    | ok db =>
      rw [eb] at h
      rw [Rs.bind_ok] at h
      intro y H2 e2 r2
      exact k x y da db H2 (e1.trans e2) (S.up (e1.trans e2)) (r1.mono (fz_same e2) e2) (r2.start e1) (Post.up (e1.trans e2) h)
theorem rd_seq1 {g : D → Rs D} {R : Addr → Prop} {H0 : HZ} {H : Hp} {σ : L2.St} {env : En} {Q : VK} {K : PySem.W.Frag} {mg : Str → Option Value} {r : V → Hp → Prop}
    (S : StR K mg R H0 σ H env) (h : Post K mg W R H0 σ env m H Q (op1 g fa env))
    (k : ∀ x a H2, Same H H2 → StR K mg R H0 σ H2 env → Rl K mg (fz R σ env H2) H H2 x a ma → Post K mg W R H0 σ env m H2 Q (g a) → r x H2) :
    rdP K mg W ma fa σ H fun x H1 => r x H1 := by
  refine ⟨R, H0, env, S, ?_⟩
  unfold op1 at h
  cases ea : fa env with
  | exc x => rw [ea] at h; exact h
  | bad => rw [ea] at h; exact h
  | ok da =>
    rw [ea] at h
    intro x H1 e1 r1
    exact k x da H1 e1 (S.up e1) r1 (Post.up e1 h)

/-! ### modes -/
theorem pr_mode {m m' : Md} (w : ∀ {K mg F H H' v d}, Same F H' → Rl K mg F H H' v d m → Rl K mg F H H' v d m') (h : PR X W m e f) : PR X W m' e f := pe_imp h fun σ H Q ⟨R, H0, env, S, q⟩ => ⟨R, H0, env, S, by
  cases hf : f env with
  | ok d =>
    rw [hf] at q
    exact fun v H' e r => q v H' e (w hid_le r)
  | exc x => rw [hf] at q; exact q
  | bad => rw [hf] at q; exact q⟩
theorem pr_fz (h : PR X W .new e f) : PR X W .fz e f := pr_mode (fun _ r => by
  obtain ⟨p, vs, xs, rfl, rfl, hn, h1, hF, hs⟩ := Nw.old r
  exact .lst hF hs) h
theorem pr_pk (h : PR X W m e f) : PR X W .pk e f := pr_mode (fun e r => r.pk e) h
end
end Orn

set_option linter.all false
set_option maxRecDepth 100000
set_option maxHeartbeats 4000000
namespace Orn
open L2 PySem PySem.Spec PyProof.Rows
section
variable {X : Cx} {W : L2.WX} {m ma mb : Md} {fa fb fc f : En → Rs D} {a b c e : Expr} {pos : Pos}

/-! ### names, constants -/
def varF (i : Nat) : En → Rs D := fun env => match env[i]? with
  | some (some (.d x)) => .ok x
  | _ => .bad
def varL (i : Nat) : En → Rs D := fun env => match env[i]? with
  | some (some (.d (.lst x))) => .ok (.lst x)
  | some (some (.l x)) => .ok (.lst x)
  | _ => .bad
def cF (d : D) : En → Rs D := fun _ => .ok d
theorem pr_name {i : Nat} (h : PE X e (tVar i)) : PR X W .fz e (varF i) := pe_imp h fun σ H Q ⟨R, H0, env, S, q⟩ => by
  unfold varF at q
  split at q
  · rename_i x hx
    obtain ⟨v, hv, hd⟩ := S.slot i _ hx
    exact ⟨v, hv, q v H (Same.refl H) hd⟩
  · exact q.elim
theorem pr_nameL {i : Nat} (h : PE X e (tVar i)) : PR X W .sh e (varL i) := pe_imp h fun σ H Q ⟨R, H0, env, S, q⟩ => by
  unfold varL at q
  split at q
  · rename_i x hx
    obtain ⟨v, hv, hd⟩ := S.slot i _ hx
    cases hd with
    | lst h r => exact ⟨_, hv, q _ H (Same.refl H) ⟨_, _, _, rfl, rfl, hid_le _ _ h, r⟩⟩
  · rename_i x hx
    obtain ⟨v, hv, p, vs, rfl, hp, hs⟩ := S.slot i _ hx
    exact ⟨_, hv, q _ H (Same.refl H) ⟨_, _, _, rfl, rfl, hp, hs⟩⟩
  · exact q.elim
theorem pr_c {d : D} {v : V} (hd : flat d = some v) (h : PE X e (tC v)) : PR X W .fz e (cF d) := pe_imp h fun σ H Q ⟨R, H0, env, S, q⟩ => q.flat S hd

/-! ### operations on two values -/
def orR (r r' : R2) : R2 := fun x y H Q => r x y H Q ∨ r' x y H Q
theorem opr_or {f : Value → Value → Sem Value} {r r' : R2} (h : OpR X f r) (h' : OpR X f r') : OpR X f (orR r r') := fun pins s σ H x y v u Q I rx ry q => q.elim (h pins s σ H x y v u Q I rx ry) (h' pins s σ H x y v u Q I rx ry)
theorem callr_or {f : Value} {r r' : List V → Hp → VK → Prop} (h : CallR X f r) (h' : CallR X f r') : CallR X f (fun xs H Q => r xs H Q ∨ r' xs H Q) := fun pins s σ H xs us Q I rx q => q.elim (h pins s σ H xs us Q I rx) (h' pins s σ H xs us Q I rx)
/-- what an operation on values must do for a mirror g -/
def Op2 (K : PySem.W.Frag) (mg : Str → Option Value) (W : L2.WX) (ma mb m : Md) (g : D → D → Rs D) (r : R2) : Prop :=
  ∀ {R H0 σ env H Hs x y da db Q}, StR K mg R H0 σ H env → Rl K mg (fz R σ env H) Hs H x da ma → Rl K mg (fz R σ env H) Hs H y db mb → Post K mg W R H0 σ env m H Q (g da db) → r x y H Q
def Op1 (K : PySem.W.Frag) (mg : Str → Option Value) (W : L2.WX) (ma m : Md) (g : D → Rs D) (r : V → Hp → VK → Prop) : Prop :=
  ∀ {R H0 σ env H Hs x da Q}, StR K mg R H0 σ H env → Rl K mg (fz R σ env H) Hs H x da ma → Post K mg W R H0 σ env m H Q (g da) → r x H Q
theorem pr_op {op : Operator} {g : D → D → Rs D} {r : R2} (ho : OpR X (binaryOp op) r) (hg : Op2 X.K X.mg W ma mb m g r) (ha : PR X W ma a fa) (hb : PR X W mb b fb) :
    PR X W m (.BinOp a op b pos) (op2 g fa fb) := pe_imp (pe_op (pos := pos) ho ha hb) fun σ H Q ⟨R, H0, env, S, q⟩ => rd_seq2 S q fun x y da db H2 e2 S2 ra rb q2 => hg S2 ra rb q2
theorem pr_cmp {op : CmpOp} {g : D → D → Rs D} {r : R2} (ho : OpR X (compareOp op) r) (hg : Op2 X.K X.mg W ma mb m g r) (ha : PR X W ma a fa) (hb : PR X W mb b fb) (hm : behindInMarks op b = false) :
    PR X W m (.Compare a [op] [b] pos) (op2 g fa fb) := pe_imp (pe_cmpR (pos := pos) ho ha hb hm) fun σ H Q ⟨R, H0, env, S, q⟩ => rd_seq2 S q fun x y da db H2 e2 S2 ra rb q2 => hg S2 ra rb q2
theorem pr_ix {g : D → D → Rs D} {r : R2} (ho : IxR X r) (hg : Op2 X.K X.mg W ma mb m g r) (ha : PR X W ma a fa) (hb : PR X W mb b fb) (hs : PlainIx b) :
    PR X W m (.Subscript a b pos) (op2 g fa fb) := pe_imp (pe_ix (pos := pos) ho ha hb hs) fun σ H Q ⟨R, H0, env, S, q⟩ => rd_seq2 S q fun x y da db H2 e2 S2 ra rb q2 => hg S2 ra rb q2
theorem pr_un {op : UnaryOp} {g : D → Rs D} {r : V → Hp → VK → Prop} (ho : UnR X (unaryOp op) r) (hg : Op1 X.K X.mg W ma m g r) (ha : PR X W ma a fa) :
    PR X W m (.UnaryOp op a pos) (op1 g fa) := pe_imp (pe_un (pos := pos) ho ha) fun σ H Q ⟨R, H0, env, S, q⟩ => rd_seq1 S q fun x da H2 e2 S2 ra q2 => hg S2 ra q2
/-- f(a), f a builtin; T(a), T a built-in type -/
theorem pr_b1 {id : String} {x : Str} {p : Pos} {g : D → Rs D} {r : List V → Hp → VK → Prop} (hc : CallR X (.builtin id) r) (hg : Op1 X.K X.mg W ma m g (fun x H Q => r [x] H Q)) (gl : Gl X x) (hm : X.mg x = none) (hv : bootBuiltins x = some (.builtin id)) (ha : PR X W ma a fa)
    (hn : x ≠ "__name__" := by decide) (hdb : (x == ("__debug__" : Str)) = false := by decide)
    (he : starEach (a :: []) X.env = (false, eval a X.env) :: starEach [] X.env := by rfl) (hpl : (backTo pos (starEach [] X.env)).any (·.1) = false := by rfl) :
    PR X W m (.Call (.Name x p) [a] [] pos) (op1 g fa) := pe_imp (pe_callB (p := p) (pos := pos) hc gl hm hv (pa_cons ha pa_nil he) hn hdb he hpl) fun σ H Q ⟨R, H0, env, S, q⟩ => rd_seq1 S q fun x da H2 e2 S2 ra q2 => hg S2 ra q2
theorem pr_ty1 {id : String} {x : Str} {p : Pos} {g : D → Rs D} {r : List V → Hp → VK → Prop} (hc : CallR X (.type id) r) (hg : Op1 X.K X.mg W ma m g (fun x H Q => r [x] H Q)) (gl : Gl X x) (hm : X.mg x = none) (hv : bootBuiltins x = some (.type id)) (ha : PR X W ma a fa)
    (hn : x ≠ "__name__" := by decide) (hdb : (x == ("__debug__" : Str)) = false := by decide)
    (he : starEach (a :: []) X.env = (false, eval a X.env) :: starEach [] X.env := by rfl) (hpl : (backTo pos (starEach [] X.env)).any (·.1) = false := by rfl) :
    PR X W m (.Call (.Name x p) [a] [] pos) (op1 g fa) := pe_imp (pe_callTy (p := p) (pos := pos) hc gl hm hv (pa_cons ha pa_nil he) hn hdb he hpl) fun σ H Q ⟨R, H0, env, S, q⟩ => rd_seq1 S q fun x da H2 e2 S2 ra q2 => hg S2 ra q2
theorem pr_b2 {id : String} {x : Str} {p : Pos} {g : D → D → Rs D} {r : List V → Hp → VK → Prop} (hc : CallR X (.builtin id) r) (hg : Op2 X.K X.mg W ma mb m g (fun x y H Q => r [x, y] H Q)) (gl : Gl X x) (hm : X.mg x = none) (hv : bootBuiltins x = some (.builtin id)) (ha : PR X W ma a fa) (hb : PR X W mb b fb)
    (hn : x ≠ "__name__" := by decide) (hdb : (x == ("__debug__" : Str)) = false := by decide)
    (he : starEach (a :: [b]) X.env = (false, eval a X.env) :: starEach [b] X.env := by rfl) (he2 : starEach (b :: []) X.env = (false, eval b X.env) :: starEach [] X.env := by rfl) (hpl : (backTo pos (starEach [b] X.env)).any (·.1) = false := by rfl) :
    PR X W m (.Call (.Name x p) [a, b] [] pos) (op2 g fa fb) := pe_imp (pe_callB (p := p) (pos := pos) hc gl hm hv (pa_cons ha (pa_cons hb pa_nil he2) he) hn hdb he hpl) fun σ H Q ⟨R, H0, env, S, q⟩ => rd_seq2 S q fun x y da db H2 e2 S2 ra rb q2 => hg S2 ra rb q2

/-! ### the operations -/
abbrev SL : Nat := 16777216
theorem sl_of {n : Nat} (h : n ≤ SL) : n ≤ sizeLine := by rw [sizeLine_eq]; exact h
def addD : D → D → Rs D
  | .int i, .int j => .ok (.int (i + j))
  | .str x, .str y => if x.length + y.length ≤ SL then .ok (.str (x ++ y)) else .bad
  | .lst x, .lst y => if x.length + y.length ≤ SL then .ok (.lst (x ++ y)) else .bad
  | .tup x, .tup y => if x.length + y.length ≤ SL then .ok (.tup (x ++ y)) else .bad
  | _, _ => .bad
def addL : D → D → Rs D
  | .lst x, .lst y => if x.length + y.length ≤ SL then .ok (.lst (x ++ y)) else .bad
  | _, _ => .bad
theorem post_lst {K : PySem.W.Frag} {mg : Str → Option Value} {W : L2.WX} {R : Addr → Prop} {H0 : HZ} {H : Hp} {σ : L2.St} {env : En} {Q : VK} {vs : List V} {xs : List D} {m : Md} (hm : m = .fz ∨ m = .new) (S : StR K mg R H0 σ H env) (hs : Dvs K mg (fz R σ env H) vs xs) (h : Post K mg W R H0 σ env m H Q (.ok (.lst xs))) :
    ∀ p, H p = none → Q (.ref p) (upd H p (.lst vs)) := fun p hp => by
  have e : Same H (upd H p (.lst vs)) := fun a o q => by
    rw [upd_ne (ne_of_none q hp)]
    exact q
  have hF : fz R σ env (upd H p (.lst vs)) p = some (.lst vs) := (S.newF e hp).trans upd_same
  refine h _ _ e ?_
  rcases hm with rfl | rfl
  · exact .lst hF (hs.mono (fz_same e))
  · exact ⟨p, vs, xs, fz R σ env H, rfl, rfl, hp, upd_same, hF, fz_same e, by
      cases q : fz R σ env H p with
      | none => rfl
      | some o => exact absurd (hid_le _ _ q) (by rw [hp]; intro z; cases z), hs⟩
theorem post_tup {K : PySem.W.Frag} {mg : Str → Option Value} {W : L2.WX} {R : Addr → Prop} {H0 : HZ} {H : Hp} {σ : L2.St} {env : En} {Q : VK} {vs : List V} {xs : List D} (S : StR K mg R H0 σ H env) (hs : Dvs K mg (fz R σ env H) vs xs) (h : Post K mg W R H0 σ env .fz H Q (.ok (.tup xs))) :
    rNewT vs H Q := fun p o hp hd => by
  have e : Same H (upd H p (.frz o (.tup vs))) := fun a o q => by
    rw [upd_ne (ne_of_none q hp)]
    exact q
  have hF : fz R σ env (upd H p (.frz o (.tup vs))) p = some (.frz o (.tup vs)) := (S.newF e hp).trans upd_same
  exact h _ _ e (Dv.tup (.inl ⟨o, hF, hd⟩) (hs.mono (fz_same e)))
theorem post_tupOld {K : PySem.W.Frag} {mg : Str → Option Value} {W : L2.WX} {R : Addr → Prop} {H0 : HZ} {H : Hp} {σ : L2.St} {env : En} {Q : VK} {vs : List V} {xs : List D} {p : Addr} (hp : GT K (fz R σ env H) p vs) (hs : Dvs K mg (fz R σ env H) vs xs) (h : Post K mg W R H0 σ env .fz H Q (.ok (.tup xs))) :
    Q (.ref p) H := h _ _ (Same.refl H) (Dv.tup hp hs)
theorem len0 {vs : List V} {xs : List D} {K : PySem.W.Frag} {mg : Str → Option Value} {F : Hp} (h : Dvs K mg F vs xs) (e : vs = []) : xs = [] := by
  subst e
  cases h
  rfl
theorem op_addD (na : ma ≠ .pk) (nb : mb ≠ .pk) : Op2 X.K X.mg W ma mb .fz addD (orR (rI0 fun i j => .int (i + j)) (orR (fun x y H Q => ∃ i j, x = .str i ∧ y = .str j ∧ i.length + j.length ≤ sizeLine ∧ Q (.str (i ++ j)) H) (orR rCat (rCatG X.K)))) := by
  intro R H0 σ env H Hs x y da db Q S ra rb q
  cases da <;> cases db <;> try exact q.elim
  · rename_i i j
    exact .inl ⟨i, j, ra.int, rb.int, q.flat S rfl⟩
  · rename_i i j
    unfold addD at q
    dsimp only at q
    split at q
    · rename_i hl
      exact .inr (.inl ⟨i, j, ra.str, rb.str, sl_of hl, q.flat S rfl⟩)
    · exact q.elim
  · rename_i xs ys
    unfold addD at q
    dsimp only at q
    split at q
    · rename_i hl
      obtain ⟨p, vs, rfl, hp, hv⟩ := ra.sh na hid_le
      obtain ⟨p', vs', rfl, hp', hv'⟩ := rb.sh nb hid_le
      exact .inr (.inr (.inl ⟨p, p', vs, vs', rfl, rfl, hp, hp', sl_of (by rw [hv.len, hv'.len]; exact hl), post_lst (.inl rfl) S (hv.app hv') q⟩))
    · exact q.elim
  · rename_i xs ys
    unfold addD at q
    dsimp only at q
    split at q
    · rename_i hl
      obtain ⟨p, vs, rfl, hp, hv⟩ := ra.tup na hid_le
      obtain ⟨p', vs', rfl, hp', hv'⟩ := rb.tup nb hid_le
      refine .inr (.inr (.inr ⟨p, p', vs, vs', rfl, rfl, same_t hid_le hp, same_t hid_le hp', sl_of (by rw [hv.len, hv'.len]; exact hl), fun e => ?_, fun e e2 => ?_, fun _ _ => post_tup S (hv.app hv') q⟩))
      · have z := len0 hv e
        subst z
        exact post_tupOld hp' hv' (by simpa using q)
      · have z := len0 hv' e2
        subst z
        exact post_tupOld hp hv (by simpa using q)
    · exact q.elim
theorem pr_add (ha : PR X W ma a fa) (hb : PR X W mb b fb) (na : ma ≠ .pk := by decide) (nb : mb ≠ .pk := by decide) : PR X W .fz (.BinOp a .Add b pos) (op2 addD fa fb) :=
  pr_op (opr_or op_add (opr_or op_add_str (opr_or op_cat op_catG))) (op_addD na nb) ha hb
theorem op_addL (na : ma ≠ .pk) (nb : mb ≠ .pk) : Op2 X.K X.mg W ma mb .new addL rCat := by
  intro R H0 σ env H Hs x y da db Q S ra rb q
  cases da <;> cases db <;> try exact q.elim
  rename_i xs ys
  unfold addL at q
  dsimp only at q
  split at q
  · rename_i hl
    obtain ⟨p, vs, rfl, hp, hv⟩ := ra.sh na hid_le
    obtain ⟨p', vs', rfl, hp', hv'⟩ := rb.sh nb hid_le
    exact ⟨p, p', vs, vs', rfl, rfl, hp, hp', sl_of (by rw [hv.len, hv'.len]; exact hl), post_lst (.inr rfl) S (hv.app hv') q⟩
  · exact q.elim
theorem pr_addL (ha : PR X W ma a fa) (hb : PR X W mb b fb) (na : ma ≠ .pk := by decide) (nb : mb ≠ .pk := by decide) : PR X W .new (.BinOp a .Add b pos) (op2 addL fa fb) :=
  pr_op op_cat (op_addL na nb) ha hb
end
end Orn

set_option linter.all false
set_option maxRecDepth 100000
set_option maxHeartbeats 4000000
namespace Orn
open L2 PySem PySem.Spec PyProof.Rows
section
variable {X : Cx} {W : L2.WX} {m ma mb : Md} {fa fb fc f : En → Rs D} {a b c e : Expr} {pos : Pos} {K : PySem.W.Frag} {mg : Str → Option Value}

/-! ### ints -/
def intD (g : Int → Int → D) : D → D → Rs D
  | .int i, .int j => .ok (g i j)
  | _, _ => .bad
def intDc (C : Int → Int → Prop) [∀ i j, Decidable (C i j)] (g : Int → Int → D) : D → D → Rs D
  | .int i, .int j => if C i j then .ok (g i j) else .bad
  | _, _ => .bad
theorem op_intD {g : Int → Int → D} {gv : Int → Int → V} (hg : ∀ i j, flat (g i j) = some (gv i j)) : Op2 K mg W ma mb .fz (intD g) (rI0 gv) := by
  intro R H0 σ env H Hs x y da db Q S ra rb q
  cases da <;> cases db <;> try exact q.elim
  rename_i i j
  exact ⟨i, j, ra.int, rb.int, q.flat S (hg i j)⟩
theorem op_intDc {C : Int → Int → Prop} [∀ i j, Decidable (C i j)] {g : Int → Int → D} {gv : Int → Int → V} (hg : ∀ i j, flat (g i j) = some (gv i j)) : Op2 K mg W ma mb .fz (intDc C g) (rI C gv) := by
  intro R H0 σ env H Hs x y da db Q S ra rb q
  cases da <;> cases db <;> try exact q.elim
  rename_i i j
  unfold intDc at q
  dsimp only at q
  split at q
  · rename_i hc
    exact ⟨i, j, ra.int, rb.int, hc, q.flat S (hg i j)⟩
  · exact q.elim
def subD : D → D → Rs D := intD fun i j => .int (i - j)
def ltD : D → D → Rs D := intD fun i j => .bl (decide (i < j))
def leD : D → D → Rs D := intD fun i j => .bl (decide (i ≤ j))
def gtD : D → D → Rs D := intD fun i j => .bl (decide (j < i))
def geD : D → D → Rs D := intD fun i j => .bl (decide (j ≤ i))
instance (i j : Int) : Decidable (CMul i j) := by unfold CMul; infer_instance
instance (i j : Int) : Decidable (CDivN i j) := by unfold CDivN; infer_instance
def mulD : D → D → Rs D := intDc CMul fun i j => .int (i * j)
def modD : D → D → Rs D := intDc (fun _ j => j ≠ 0) fun i j => .int (i.fmod j)
def divD : D → D → Rs D := intDc CDivN fun i j => .int (i.fdiv j)
theorem pr_sub (ha : PR X W ma a fa) (hb : PR X W mb b fb) : PR X W .fz (.BinOp a .Sub b pos) (op2 subD fa fb) := pr_op op_sub (op_intD fun _ _ => rfl) ha hb
theorem pr_mul (ha : PR X W ma a fa) (hb : PR X W mb b fb) : PR X W .fz (.BinOp a .Mult b pos) (op2 mulD fa fb) := pr_op op_mul (op_intDc fun _ _ => rfl) ha hb
theorem pr_mod (ha : PR X W ma a fa) (hb : PR X W mb b fb) : PR X W .fz (.BinOp a .Mod b pos) (op2 modD fa fb) := pr_op op_modN (op_intDc fun _ _ => rfl) ha hb
theorem pr_div (ha : PR X W ma a fa) (hb : PR X W mb b fb) : PR X W .fz (.BinOp a .FloorDiv b pos) (op2 divD fa fb) := pr_op op_fdivN (op_intDc fun _ _ => rfl) ha hb
theorem pr_lt (ha : PR X W ma a fa) (hb : PR X W mb b fb) : PR X W .fz (.Compare a [.Lt] [b] pos) (op2 ltD fa fb) := pr_cmp op_lt (op_intD fun _ _ => rfl) ha hb (nomark _)
theorem pr_le (ha : PR X W ma a fa) (hb : PR X W mb b fb) : PR X W .fz (.Compare a [.LtE] [b] pos) (op2 leD fa fb) := pr_cmp op_le (op_intD fun _ _ => rfl) ha hb (nomark _)
theorem pr_gt (ha : PR X W ma a fa) (hb : PR X W mb b fb) : PR X W .fz (.Compare a [.Gt] [b] pos) (op2 gtD fa fb) := pr_cmp op_gt (op_intD fun _ _ => rfl) ha hb (nomark _)
theorem pr_ge (ha : PR X W ma a fa) (hb : PR X W mb b fb) : PR X W .fz (.Compare a [.GtE] [b] pos) (op2 geD fa fb) := pr_cmp op_ge (op_intD fun _ _ => rfl) ha hb (nomark _)
def negD : D → Rs D
  | .int i => .ok (.int (-i))
  | _ => .bad
theorem pr_neg (ha : PR X W ma a fa) : PR X W .fz (.UnaryOp .USub a pos) (op1 negD fa) := pr_un un_neg (fun {R H0 σ env H Hs x da Q} S ra q => by
  cases da <;> try exact q.elim
  exact ⟨_, ra.int, q.flat S rfl⟩) ha
def powD : D → D → Rs D
  | .int i, .int j => if 0 ≤ j ∧ j ≤ 1000000 ∧ i.natAbs < 2 ^ 64 then .ok (.int (i ^ j.toNat)) else .bad
  | _, _ => .bad
theorem pr_pow (ha : PR X W ma a fa) (hb : PR X W mb b fb) : PR X W .fz (.BinOp a .Pow b pos) (op2 powD fa fb) := pr_op op_pow (fun {R H0 σ env H Hs x y da db Q} S ra rb q => by
  cases da <;> cases db <;> try exact q.elim
  rename_i i j
  unfold powD at q
  dsimp only at q
  split at q
  · rename_i hc
    exact ⟨i, j, ra.int, rb.int, hc, q.flat S rfl⟩
  · exact q.elim) ha hb

/-! ### data as the library's -/
mutual
def toPy : D → Option PyData
  | .non => some .none
  | .bl b => some (.bool b)
  | .int i => some (.int i)
  | .str x => some (.str x)
  | .lst xs => (toPys xs).map .list
  | .rol xs => (toPys xs).map .list
  | .tup xs => (toPys xs).map .tuple
  | .obj _ _ => none
def toPys : List D → Option (List PyData)
  | [] => some []
  | x :: xs => match toPy x, toPys xs with
    | some d, some ds => some (d :: ds)
    | _, _ => none
end
mutual
theorem Dv.dp {H : Hp} : ∀ (x : D) {v : V} {d : PyData}, Dv K mg H v x → toPy x = some d → Dp K H v d
  | .non, _, _, .non, e => by simp only [toPy, Option.some.injEq] at e; subst e; exact .non
  | .bl b, _, _, .bl _, e => by simp only [toPy, Option.some.injEq] at e; subst e; exact .bl b
  | .int i, _, _, .int _, e => by simp only [toPy, Option.some.injEq] at e; subst e; exact .int i
  | .str s, _, _, .str _, e => by simp only [toPy, Option.some.injEq] at e; subst e; exact .str s
  | .lst xs, _, d, .lst h r, e => by
    simp only [toPy] at e
    cases q : toPys xs with
    | none => rw [q] at e; cases e
    | some ds =>
      rw [q] at e
      simp only [Option.map_some, Option.some.injEq] at e
      subst e
      exact .lst (.inl (.inl h)) (Dvs.dp xs r q)
  | .rol xs, _, d, .rol h r, e => by
    simp only [toPy] at e
    cases q : toPys xs with
    | none => rw [q] at e; cases e
    | some ds =>
      rw [q] at e
      simp only [Option.map_some, Option.some.injEq] at e
      subst e
      exact .lst h (Dvs.dp xs r q)
  | .tup xs, _, d, .tup h r, e => by
    simp only [toPy] at e
    cases q : toPys xs with
    | none => rw [q] at e; cases e
    | some ds =>
      rw [q] at e
      simp only [Option.map_some, Option.some.injEq] at e
      subst e
      exact .tup h.sq (Dvs.dp xs r q)
  | .obj c fs, _, _, _, e => by simp [toPy] at e
theorem Dvs.dp {H : Hp} : ∀ (xs : List D) {vs : List V} {ds : List PyData}, Dvs K mg H vs xs → toPys xs = some ds → DpAll K H vs ds
  | [], _, _, .nil, e => by simp only [toPys, Option.some.injEq] at e; subst e; exact .nil
  | x :: xs, _, _, .cons h r, e => by
    simp only [toPys] at e
    cases q1 : toPy x with
    | none => rw [q1] at e; simp at e
    | some d =>
      cases q2 : toPys xs with
      | none => rw [q1, q2] at e; simp at e
      | some ds =>
        rw [q1, q2] at e
        simp only [Option.some.injEq] at e
        subst e
        exact .cons (Dv.dp x h q1) (Dvs.dp xs r q2)
end
def eqD : D → D → Rs D := fun x y => match flat x, flat y with
  | some u, some v => if scal u v = true then .ok (.bl (decide (u = v))) else .bad
  | _, _ => match toPy x, toPy y with
    | some d, some d' => if SeqAt.shaped d = true ∧ SeqAt.shaped d' = true then .ok (.bl (PyData.eqv d d')) else .bad
    | _, _ => .bad
def notR (r : Rs D) : Rs D := r >>= fun d => match d with
  | .bl b => .ok (.bl (!b))
  | _ => .bad
def neD : D → D → Rs D := fun x y => notR (eqD x y)
theorem op_eqDD : Op2 K mg W ma mb .fz eqD (orR rEq (rEqD K)) := by
  intro R H0 σ env H Hs x y da db Q S ra rb q
  unfold eqD at q
  split at q
  · rename_i u v hu hv
    split at q
    · rename_i hs
      refine .inl ?_
      rw [ra.flat hu, rb.flat hv]
      exact ⟨hs, q.flat S rfl⟩
    · exact q.elim
  · split at q
    · rename_i d d' hd hd'
      split at q
      · rename_i hs
        exact .inr ⟨d, d', Dv.dp _ (ra.pk hid_le) hd, Dv.dp _ (rb.pk hid_le) hd', hs.1, hs.2, q.flat S rfl⟩
      · exact q.elim
    · exact q.elim
theorem op_neDD : Op2 K mg W ma mb .fz neD (orR rNe (rNeD K)) := by
  intro R H0 σ env H Hs x y da db Q S ra rb q
  unfold neD eqD at q
  split at q
  · rename_i u v hu hv
    split at q
    · rename_i hs
      refine .inl ?_
      rw [ra.flat hu, rb.flat hv]
      exact ⟨hs, q.flat S rfl⟩
    · exact q.elim
  · split at q
    · rename_i d d' hd hd'
      split at q
      · rename_i hs
        exact .inr ⟨d, d', Dv.dp _ (ra.pk hid_le) hd, Dv.dp _ (rb.pk hid_le) hd', hs.1, hs.2, q.flat S rfl⟩
      · exact q.elim
    · exact q.elim
theorem pr_eq {k : Nat} (hr : Rm k X.A) (ha : PR X W ma a fa) (hb : PR X W mb b fb) : PR X W .fz (.Compare a [.Eq] [b] pos) (op2 eqD fa fb) := pr_cmp (opr_or op_eq (op_eqD hr.r.units)) op_eqDD ha hb (nomark _)
theorem pr_ne {k : Nat} (hr : Rm k X.A) (ha : PR X W ma a fa) (hb : PR X W mb b fb) : PR X W .fz (.Compare a [.NotEq] [b] pos) (op2 neD fa fb) := pr_cmp (opr_or op_ne (op_neD hr.r.units)) op_neDD ha hb (nomark _)
/-! ### is None -/
def isNonD : D → Bool
  | .non => true
  | _ => false
def isND : D → D → Rs D
  | x, .non => .ok (.bl (isNonD x))
  | _, _ => .bad
def notND : D → D → Rs D := fun x y => notR (isND x y)
theorem isN_dec {F H H1 : Hp} {v : V} {x : D} (h : Rl K mg F H H1 v x m) : decide (v = V.non) = isNonD x := by
  cases m <;> cases x <;> simp [Rl, Nw] at h <;> (try (obtain ⟨p, rfl, _⟩ := h; rfl)) <;> (try (obtain ⟨p, vs, xs, rfl, hx, _⟩ := h; simp at hx ⊢)) <;> (try (cases h <;> rfl)) <;> (obtain ⟨p, hp, _⟩ := h <;> subst hp <;> rfl)
end
end Orn

set_option linter.all false
set_option maxRecDepth 100000
set_option maxHeartbeats 4000000
namespace Orn
open L2 PySem PySem.Spec PyProof.Rows
section
variable {X : Cx} {W : L2.WX} {m ma mb : Md} {fa fb fc f : En → Rs D} {a b c e : Expr} {pos : Pos} {K : PySem.W.Frag} {mg : Str → Option Value}
theorem pr_isN (ha : PR X W ma a fa) (hb : PR X W mb b fb) : PR X W .fz (.Compare a [.Is] [b] pos) (op2 isND fa fb) := pr_cmp op_isN (fun {R H0 σ env H Hs x y da db Q} S ra rb q => by
  cases db <;> try exact q.elim
  refine ⟨rb.non, ?_⟩
  rw [isN_dec ra]
  exact q.flat S rfl) ha hb (nomark _)
theorem pr_notN (ha : PR X W ma a fa) (hb : PR X W mb b fb) : PR X W .fz (.Compare a [.IsNot] [b] pos) (op2 notND fa fb) := pr_cmp op_notN (fun {R H0 σ env H Hs x y da db Q} S ra rb q => by
  cases db <;> try exact q.elim
  refine ⟨rb.non, ?_⟩
  rw [isN_dec ra]
  exact q.flat S rfl) ha hb (nomark _)

/-! ### in: flat things in a list or tuple -/
def flats : List D → Option (List V)
  | [] => some []
  | x :: xs => match flat x, flats xs with
    | some v, some vs => some (v :: vs)
    | _, _ => none
theorem flats_is {H : Hp} : ∀ {xs : List D} {vs ws : List V}, flats xs = some ws → Dvs K mg H vs xs → vs = ws ∧ ws.all flatV = true
  | [], _, _, e, .nil => by simp only [flats, Option.some.injEq] at e; subst e; exact ⟨rfl, rfl⟩
  | x :: xs, _, _, e, .cons h r => by
    simp only [flats] at e
    cases q1 : flat x with
    | none => rw [q1] at e; simp at e
    | some d =>
      cases q2 : flats xs with
      | none => rw [q1, q2] at e; simp at e
      | some ds =>
        rw [q1, q2] at e
        simp only [Option.some.injEq] at e
        subst e
        obtain ⟨h1, h2⟩ := flats_is q2 r
        subst h1
        have e1 := Rl.flat (m := .fz) (H := H) (H1 := H) q1 h
        subst e1
        refine ⟨rfl, ?_⟩
        rw [List.all_cons, h2, Bool.and_true]
        cases x <;> simp [Orn.flat] at q1 <;> subst q1 <;> rfl
def flatsOf : D → Option (List V)
  | .lst xs => flats xs
  | .rol xs => flats xs
  | .tup xs => flats xs
  | _ => none
def inD : D → D → Rs D := fun x y => match flat x, flatsOf y with
  | some v, some vs => .ok (.bl (inV v vs))
  | _, _ => .bad
def notInD : D → D → Rs D := fun x y => notR (inD x y)
theorem flatV_of {x : D} {v : V} (h : flat x = some v) : flatV v = true := by cases x <;> simp [Orn.flat] at h <;> subst h <;> rfl
theorem seq_in (nb : mb ≠ .pk) {F Hs H : Hp} {y : V} {db : D} {ws : List V} (e : Same F H) (rb : Rl K mg F Hs H y db mb) (hw : flatsOf db = some ws) :
    ∃ p, y = .ref p ∧ (SqL K H p ws ∨ SqT K H p ws) ∧ ws.all flatV = true := by
  cases db <;> simp only [flatsOf, reduceCtorEq] at hw
  · obtain ⟨p, vs, rfl, hp, hv⟩ := rb.sh nb e
    obtain ⟨rfl, ha⟩ := flats_is hw hv
    exact ⟨p, rfl, .inl (.inl (.inl hp)), ha⟩
  · obtain ⟨p, vs, rfl, hp, hv⟩ := rb.rol nb e
    obtain ⟨rfl, ha⟩ := flats_is hw hv
    exact ⟨p, rfl, .inl hp, ha⟩
  · obtain ⟨p, vs, rfl, hp, hv⟩ := rb.tup nb e
    obtain ⟨rfl, ha⟩ := flats_is hw hv
    exact ⟨p, rfl, .inr (same_t e hp), ha⟩
theorem op_inDD (nb : mb ≠ .pk) : Op2 K mg W ma mb .fz inD (rIn K false) := by
  intro R H0 σ env H Hs x y da db Q S ra rb q
  unfold inD at q
  split at q
  · rename_i v vs hv hvs
    obtain ⟨p, rfl, hp, ha⟩ := seq_in nb hid_le rb hvs
    have e1 := ra.flat hv
    subst e1
    exact ⟨p, vs, rfl, hp, flatV_of hv, ha, q.flat S rfl⟩
  · exact q.elim
theorem op_notInDD (nb : mb ≠ .pk) : Op2 K mg W ma mb .fz notInD (rIn K true) := by
  intro R H0 σ env H Hs x y da db Q S ra rb q
  unfold notInD inD at q
  split at q
  · rename_i v vs hv hvs
    obtain ⟨p, rfl, hp, ha⟩ := seq_in nb hid_le rb hvs
    have e1 := ra.flat hv
    subst e1
    exact ⟨p, vs, rfl, hp, flatV_of hv, ha, q.flat S rfl⟩
  · exact q.elim
theorem pr_in (ha : PR X W ma a fa) (hb : PR X W mb b fb) (nb : mb ≠ .pk := by decide) (hm : behindInMarks .In b = false := by rfl) : PR X W .fz (.Compare a [.In] [b] pos) (op2 inD fa fb) := pr_cmp op_in_seq (op_inDD nb) ha hb hm
theorem pr_notIn (ha : PR X W ma a fa) (hb : PR X W mb b fb) (nb : mb ≠ .pk := by decide) (hm : behindInMarks .NotIn b = false := by rfl) : PR X W .fz (.Compare a [.NotIn] [b] pos) (op2 notInD fa fb) := pr_cmp op_notIn_seq (op_notInDD nb) ha hb hm

/-! ### and, or, not as values -/
def andF (fa fb : En → Rs D) : En → Rs D := fun env => fa env >>= fun d => match d with
  | .bl true => fb env
  | .bl false => .ok (.bl false)
  | _ => .bad
def orF (fa fb : En → Rs D) : En → Rs D := fun env => fa env >>= fun d => match d with
  | .bl true => .ok (.bl true)
  | .bl false => fb env
  | _ => .bad
def notD : D → Rs D
  | .bl b => .ok (.bl (!b))
  | _ => .bad
theorem pr_one {op} (h : PR X W m a f) : PR X W m (.BoolOp op [a] pos) f := pe_one h
theorem pr_and {rest : List Expr} (ha : PR X W ma a fa) (hb : PR X W m (.BoolOp .And (b :: rest) pos) fb) (hm : m = .fz := by rfl) : PR X W m (.BoolOp .And (a :: b :: rest) pos) (andF fa fb) := pe_imp (pe_and (pos := pos) ha hb) fun σ H Q ⟨R, H0, env, S, q⟩ => by
  subst hm
  refine ⟨R, H0, env, S, ?_⟩
  unfold andF at q
  cases ea : fa env with
  | exc x => rw [ea] at q; exact q
  | bad => rw [ea] at q; exact q
  | ok da =>
    rw [ea, Rs.bind_ok] at q
    intro x H1 e1 r1
    cases da <;> try exact q.elim
    rename_i k
    refine ⟨k, r1.bl, ?_⟩
    cases k with
    | true => exact ⟨R, H0, env, S.up e1, Post.up e1 q⟩
    | false => exact (Post.up e1 q).flat (S.up e1) rfl
theorem pr_or {rest : List Expr} (ha : PR X W ma a fa) (hb : PR X W m (.BoolOp .Or (b :: rest) pos) fb) (hm : m = .fz := by rfl) : PR X W m (.BoolOp .Or (a :: b :: rest) pos) (orF fa fb) := pe_imp (pe_or (pos := pos) ha hb) fun σ H Q ⟨R, H0, env, S, q⟩ => by
  subst hm
  refine ⟨R, H0, env, S, ?_⟩
  unfold orF at q
  cases ea : fa env with
  | exc x => rw [ea] at q; exact q
  | bad => rw [ea] at q; exact q
  | ok da =>
    rw [ea, Rs.bind_ok] at q
    intro x H1 e1 r1
    cases da <;> try exact q.elim
    rename_i k
    refine ⟨k, r1.bl, ?_⟩
    cases k with
    | true => exact (Post.up e1 q).flat (S.up e1) rfl
    | false => exact ⟨R, H0, env, S.up e1, Post.up e1 q⟩
theorem pr_not (ha : PR X W ma a fa) : PR X W .fz (.UnaryOp .Not a pos) (op1 notD fa) := pe_imp (pe_not (pos := pos) ha) fun σ H Q ⟨R, H0, env, S, q⟩ => rd_seq1 S q fun x da H2 e2 S2 ra q2 => by
  cases da <;> try exact q2.elim
  exact ⟨_, ra.bl, q2.flat S2 rfl⟩

/-! ### tests -/
def truth : D → Rs Bool
  | .non => .ok false
  | .bl b => .ok b
  | .int i => .ok (i != 0)
  | .str x => if x.length ≤ SL then .ok ((x.length : Int) != 0) else .bad
  | .lst xs => .ok (!xs.isEmpty)
  | .rol xs => .ok (!xs.isEmpty)
  | .tup xs => .ok (!xs.isEmpty)
  | .obj _ _ => .bad
def PostT {α : Type} (K : PySem.W.Frag) (mg : Str → Option Value) (W : L2.WX) (R : Addr → Prop) (H0 : HZ) (σ : L2.St) (env : En) (H : Hp) (Q : α → Hp → Prop) : Rs α → Prop
  | .ok d => ∀ H', Same H H' → Q d H'
  | .exc e => ∀ cls dd H', Same H H' → XW K mg (Ro R σ env) e cls dd H' → W cls dd σ H'
  | .bad => False
theorem PostT.up {α : Type} {R : Addr → Prop} {H0 : HZ} {H H1 : Hp} {σ : L2.St} {env : En} {Q : α → Hp → Prop} (e : Same H H1) {r : Rs α} (h : PostT K mg W R H0 σ env H Q r) : PostT K mg W R H0 σ env H1 Q r := by
  cases r with
  | ok d => exact fun H' e' => h H' (e.trans e')
  | exc x => exact fun c d H' e' => h c d H' (e.trans e')
  | bad => exact h
def rdT (K : PySem.W.Frag) (mg : Str → Option Value) (W : L2.WX) (f : En → Rs Bool) : TT := fun σ H Q => ∃ R H0 env, StR K mg R H0 σ H env ∧ PostT K mg W R H0 σ env H Q (f env)
abbrev PRT (X : Cx) (W : L2.WX) (a : Expr) (f : En → Rs Bool) : Prop := PT X a (rdT X.K X.mg W f)
theorem pt_imp {X : Cx} {e : Expr} {t t' : TT} (h : PT X e t) (i : ∀ σ H Q, t' σ H Q → t σ H Q) : PT X e t' := ⟨fun pins s σ H Q I q => h.run pins s σ H Q I (i σ H Q q)⟩
theorem pw_imp {X : Cx} {e : Expr} {t t' : TT} (h : PW X e t) (i : ∀ σ H Q, t' σ H Q → t σ H Q) : PW X e t' := ⟨fun wh pins s σ H Q I q => h.run wh pins s σ H Q I (i σ H Q q)⟩
def tstF (fa : En → Rs D) : En → Rs Bool := fun env => fa env >>= truth
theorem isE_len {vs : List V} {xs : List D} {F : Hp} (h : Dvs K mg F vs xs) : vs.isEmpty = xs.isEmpty := by cases h <;> rfl
/-- a value as a test -/
theorem pt_v (ha : PR X W ma a fa) (na : ma ≠ .pk := by decide) (he : ∀ whole, isTrue a X.env whole = (do let v ← whole; standAt a.pos; holding [v] (truthy v)) := by intro _; rfl) : PRT X W a (tstF fa) := pt_imp (pt_truth ha he) fun σ H Q ⟨R, H0, env, S, q⟩ => by
  refine ⟨R, H0, env, S, ?_⟩
  unfold tstF at q
  cases ea : fa env with
  | exc x => rw [ea] at q; exact q
  | bad => rw [ea] at q; exact q
  | ok da =>
    rw [ea, Rs.bind_ok] at q
    intro x H1 e1 r1
    have q := PostT.up e1 q
    cases da with
    | non => exact ⟨false, by rw [r1.non]; rfl, q H1 (Same.refl H1)⟩
    | bl b => exact ⟨b, by rw [r1.bl]; rfl, q H1 (Same.refl H1)⟩
    | int i => exact ⟨i != 0, by rw [r1.int]; rfl, q H1 (Same.refl H1)⟩
    | str y =>
      unfold truth at q
      dsimp only at q
      split at q
      · rename_i hl
        exact ⟨_, by rw [r1.str]; exact ⟨sl_of hl, rfl⟩, q H1 (Same.refl H1)⟩
      · exact q.elim
    | lst xs =>
      obtain ⟨p, vs, rfl, hp, hv⟩ := r1.sh na hid_le
      exact ⟨_, .inl ⟨vs, .inl (.inl hp), rfl⟩, by rw [isE_len hv]; exact q H1 (Same.refl H1)⟩
    | rol xs =>
      obtain ⟨p, vs, rfl, hp, hv⟩ := r1.rol na hid_le
      exact ⟨_, .inl ⟨vs, hp, rfl⟩, by rw [isE_len hv]; exact q H1 (Same.refl H1)⟩
    | tup xs =>
      obtain ⟨p, vs, rfl, hp, hv⟩ := r1.tup na hid_le
      exact ⟨_, .inr (.inl ⟨vs, same_t hid_le hp, rfl⟩), by rw [isE_len hv]; exact q H1 (Same.refl H1)⟩
    | obj c fs => exact q.elim
/-- a comparison as a test -/
theorem pt_of (ha : PR X W ma a fa) (he : ∀ whole, isTrue a X.env whole = (do let v ← whole; standAt a.pos; holding [v] (truthy v)) := by intro _; rfl) (na : ma ≠ .pk := by decide) : PRT X W a (tstF fa) := pt_v ha na he
def tcmp (g : D → D → Rs D) (fa fb : En → Rs D) : En → Rs Bool := fun env => op2 g fa fb env >>= fun d => match d with
  | .bl b => .ok b
  | _ => .bad
theorem pt_cmp {op : CmpOp} {g : D → D → Rs D} {r : R2} (ho : OpR X (compareOp op) r) (hg : Op2 X.K X.mg W ma mb .fz g r) (ha : PR X W ma a fa) (hb : PR X W mb b fb) (hm : behindInMarks op b = false) :
    PRT X W (.Compare a [op] [b] pos) (tcmp g fa fb) := pt_imp (pt_cmpR (pos := pos) ho ha hb hm) fun σ H Q ⟨R, H0, env, S, q⟩ => by
  have q' : Post X.K X.mg W R H0 σ env .fz H (fun x H' => ∃ k, x = .bl k ∧ Q k H') (op2 g fa fb env) := by
    unfold tcmp at q
    cases hq : op2 g fa fb env with
    | exc x => rw [hq] at q; exact q
    | bad => rw [hq] at q; exact q
    | ok d =>
      rw [hq, Rs.bind_ok] at q
      intro v H' e' rl
      cases d <;> try exact q.elim
      exact ⟨_, rl.bl, q H' e'⟩
  exact rd_seq2 S q' fun x y da db H2 e2 S2 ra rb q2 => hg S2 ra rb q2
def tand (fa fb : En → Rs Bool) : En → Rs Bool := fun env => fa env >>= fun d => if d = true then fb env else .ok false
def tor (fa fb : En → Rs Bool) : En → Rs Bool := fun env => fa env >>= fun d => if d = true then .ok true else fb env
def tnot (fa : En → Rs Bool) : En → Rs Bool := fun env => fa env >>= fun d => .ok (!d)
abbrev PRW (X : Cx) (W : L2.WX) (a : Expr) (f : En → Rs Bool) : Prop := PW X a (rdT X.K X.mg W f)
variable {ga gb : En → Rs Bool}
theorem prw_and1 (ha : PRT X W a ga) : PRW X W (.BoolOp .And [a] pos) ga := pw_and1 ha
theorem prw_or1 (ha : PRT X W a ga) : PRW X W (.BoolOp .Or [a] pos) ga := pw_or1 ha
theorem prw_and {rest : List Expr} (ha : PRT X W a ga) (hb : PRW X W (.BoolOp .And (b :: rest) pos) gb) : PRW X W (.BoolOp .And (a :: b :: rest) pos) (tand ga gb) := pw_imp (pw_and (pos := pos) ha hb) fun σ H Q ⟨R, H0, env, S, q⟩ => by
  refine ⟨R, H0, env, S, ?_⟩
  unfold tand at q
  cases ea : ga env with
  | exc x => rw [ea] at q; exact q
  | bad => rw [ea] at q; exact q
  | ok k =>
    rw [ea, Rs.bind_ok] at q
    intro H1 e1
    cases k with
    | true => exact ⟨R, H0, env, S.up e1, PostT.up e1 q⟩
    | false => exact q H1 e1
theorem prw_or {rest : List Expr} (ha : PRT X W a ga) (hb : PRW X W (.BoolOp .Or (b :: rest) pos) gb) : PRW X W (.BoolOp .Or (a :: b :: rest) pos) (tor ga gb) := pw_imp (pw_or (pos := pos) ha hb) fun σ H Q ⟨R, H0, env, S, q⟩ => by
  refine ⟨R, H0, env, S, ?_⟩
  unfold tor at q
  cases ea : ga env with
  | exc x => rw [ea] at q; exact q
  | bad => rw [ea] at q; exact q
  | ok k =>
    rw [ea, Rs.bind_ok] at q
    intro H1 e1
    cases k with
    | true => exact q H1 e1
    | false => exact ⟨R, H0, env, S.up e1, PostT.up e1 q⟩
theorem prt_w (h : PRW X W a ga) : PRT X W a ga := PW.pt h
theorem prt_not (ha : PRT X W a ga) : PRT X W (.UnaryOp .Not a pos) (tnot ga) := pt_imp (pt_not (pos := pos) ha) fun σ H Q ⟨R, H0, env, S, q⟩ => by
  refine ⟨R, H0, env, S, ?_⟩
  unfold tnot at q
  cases ea : ga env with
  | exc x => rw [ea] at q; exact q
  | bad => rw [ea] at q; exact q
  | ok k =>
    rw [ea, Rs.bind_ok] at q
    exact q
def ifF (t : En → Rs Bool) (fa fb : En → Rs D) : En → Rs D := fun env => t env >>= fun d => if d = true then fa env else fb env
theorem pr_if {t : Expr} (ht : PRT X W t ga) (ha : PR X W m a fa) (hb : PR X W m b fb) : PR X W m (.IfExp t a b pos) (ifF ga fa fb) := pe_imp (pe_ifExp (pos := pos) ht ha hb) fun σ H Q ⟨R, H0, env, S, q⟩ => by
  refine ⟨R, H0, env, S, ?_⟩
  unfold ifF at q
  cases ea : ga env with
  | exc x => rw [ea] at q; exact q
  | bad => rw [ea] at q; exact q
  | ok k =>
    rw [ea, Rs.bind_ok] at q
    intro H1 e1
    cases k with
    | true => exact ⟨R, H0, env, S.up e1, Post.up e1 q⟩
    | false => exact ⟨R, H0, env, S.up e1, Post.up e1 q⟩
end
end Orn

set_option linter.all false
set_option maxRecDepth 100000
set_option maxHeartbeats 4000000
namespace Orn
open L2 PySem PySem.Spec PyProof.Rows
section
variable {X : Cx} {W : L2.WX} {m ma mb : Md} {fa fb fc f : En → Rs D} {a b c e : Expr} {pos : Pos} {K : PySem.W.Frag} {mg : Str → Option Value}
/-! ### items -/
def idxD : D → D → Rs D
  | .lst xs, .int i => match atI xs i with | some d => .ok d | none => .bad
  | .rol xs, .int i => match atI xs i with | some d => .ok d | none => .bad
  | .tup xs, .int i => match atI xs i with | some d => .ok d | none => .bad
  | .str z, .int i => if z.length ≤ SL then match atI z.cps.toList i with | some c => .ok (.str ⟨#[c]⟩) | none => .bad else .bad
  | _, _ => .bad
theorem atI_dvs {F : Hp} {vs : List V} {xs : List D} {i : Int} {d : D} (h : Dvs K mg F vs xs) (e : atI xs i = some d) : ∃ v, atI vs i = some v ∧ Dv K mg F v d := by
  unfold atI at e ⊢
  rw [h.len]
  cases q : ixN xs.length i with
  | none => rw [q] at e; simp at e
  | some j =>
    rw [q] at e
    exact h.get e
theorem op_idxD (na : ma ≠ .pk) : Op2 K mg W ma mb .fz idxD (rIx K) := by
  intro R H0 σ env H Hs x y da db Q S ra rb q
  cases da <;> cases db <;> try exact q.elim
  · rename_i z i
    unfold idxD at q
    dsimp only at q
    split at q
    · rename_i hl
      split at q
      · rename_i c hc
        exact .inr (.inr ⟨z, i, c, ra.str, rb.int, sl_of hl, hc, q.flat S rfl⟩)
      · exact q.elim
    · exact q.elim
  · rename_i xs i
    unfold idxD at q
    dsimp only at q
    split at q
    · rename_i d hd
      obtain ⟨p, vs, rfl, hp, hv⟩ := ra.sh na hid_le
      obtain ⟨v, hv1, hv2⟩ := atI_dvs hv hd
      exact .inl ⟨p, vs, i, v, rfl, rb.int, .inl (.inl hp), hv1, q v H (Same.refl H) hv2⟩
    · exact q.elim
  · rename_i xs i
    unfold idxD at q
    dsimp only at q
    split at q
    · rename_i d hd
      obtain ⟨p, vs, rfl, hp, hv⟩ := ra.rol na hid_le
      obtain ⟨v, hv1, hv2⟩ := atI_dvs hv hd
      exact .inl ⟨p, vs, i, v, rfl, rb.int, hp, hv1, q v H (Same.refl H) hv2⟩
    · exact q.elim
  · rename_i xs i
    unfold idxD at q
    dsimp only at q
    split at q
    · rename_i d hd
      obtain ⟨p, vs, rfl, hp, hv⟩ := ra.tup na hid_le
      obtain ⟨v, hv1, hv2⟩ := atI_dvs hv hd
      exact .inr (.inl ⟨p, vs, i, v, rfl, rb.int, same_t hid_le hp, hv1, q v H (Same.refl H) hv2⟩)
    · exact q.elim
theorem pr_idx (ha : PR X W ma a fa) (hb : PR X W mb b fb) (hs : PlainIx b := by exact (fun _ _ => rfl)) (na : ma ≠ .pk := by decide) : PR X W .fz (.Subscript a b pos) (op2 idxD fa fb) := pr_ix ix_seq (op_idxD na) ha hb hs

/-! ### slices -/
def rdO (K : PySem.W.Frag) (mg : Str → Option Value) (W : L2.WX) (f : En → Rs (Option Int)) : L2.TO := fun σ H Q => ∃ R H0 env, StR K mg R H0 σ H env ∧ PostT K mg W R H0 σ env H Q (f env)
abbrev PRO (X : Cx) (W : L2.WX) (a : Option Expr) (f : En → Rs (Option Int)) : Prop := PO X a (rdO X.K X.mg W f)
theorem po_imp {e : Option Expr} {t t' : L2.TO} (h : PO X e t) (i : ∀ σ H Q, t' σ H Q → t σ H Q) : PO X e t' := ⟨fun pins s σ H Q I q => h.run pins s σ H Q I (i σ H Q q)⟩
def noF : En → Rs (Option Int) := fun _ => .ok none
def someF (fa : En → Rs D) : En → Rs (Option Int) := fun env => fa env >>= fun d => match d with
  | .int i => .ok (some i)
  | _ => .bad
theorem pr_none : PRO X W none noF := po_imp po_none fun σ H Q ⟨R, H0, env, S, q⟩ => q H (Same.refl H)
theorem pr_some (ha : PR X W ma a fa) : PRO X W (some a) (someF fa) := po_imp (po_some ha) fun σ H Q ⟨R, H0, env, S, q⟩ => by
  refine ⟨R, H0, env, S, ?_⟩
  unfold someF at q
  cases ea : fa env with
  | exc x => rw [ea] at q; exact q
  | bad => rw [ea] at q; exact q
  | ok da =>
    rw [ea, Rs.bind_ok] at q
    intro x H1 e1 r1
    cases da <;> try exact q.elim
    exact ⟨_, r1.int, q H1 e1⟩
def cutD {α : Type} (xs : List α) (lo hi : Option Int) : List α := (xs.drop (HT.sIx xs.length 0 lo)).take (HT.sIx xs.length xs.length hi - HT.sIx xs.length 0 lo)
theorem Dvs.cut {F : Hp} {vs : List V} {xs : List D} (h : Dvs K mg F vs xs) (lo hi : Option Int) : Dvs K mg F (cutV vs lo hi) (cutD xs lo hi) := by
  unfold cutV cutD
  rw [h.len]
  exact (h.drop _).take _
def sliceD (lo hi : Option Int) : D → Rs D
  | .lst xs => .ok (.lst (cutD xs lo hi))
  | .rol xs => .ok (.lst (cutD xs lo hi))
  | .tup xs => .ok (.tup (cutD xs lo hi))
  | .str z => if z.length ≤ SL then .ok (.str (cutS z lo hi)) else .bad
  | _ => .bad
def sliceL (lo hi : Option Int) : D → Rs D
  | .lst xs => .ok (.lst (cutD xs lo hi))
  | .rol xs => .ok (.lst (cutD xs lo hi))
  | _ => .bad
def sliceF (g : Option Int → Option Int → D → Rs D) (fe : En → Rs D) (fl fh : En → Rs (Option Int)) : En → Rs D := fun env => fe env >>= fun x => fl env >>= fun l => fh env >>= fun h => g l h x
def Op3 (K : PySem.W.Frag) (mg : Str → Option Value) (W : L2.WX) (ma m : Md) (g : Option Int → Option Int → D → Rs D) (r : V → Option Int → Option Int → Hp → VK → Prop) : Prop :=
  ∀ {R H0 σ env H Hs x da lo hi Q}, StR K mg R H0 σ H env → Rl K mg (fz R σ env H) Hs H x da ma → Post K mg W R H0 σ env m H Q (g lo hi da) → r x lo hi H Q
theorem pr_sl {r : V → Option Int → Option Int → Hp → VK → Prop} {g : Option Int → Option Int → D → Rs D} {lo hi : Option Expr} {fl fh : En → Rs (Option Int)} {p2 : Pos} (hr : SlR X r) (hg : Op3 X.K X.mg W ma m g r) (ha : PR X W ma a fa) (hl : PRO X W lo fl) (hh : PRO X W hi fh) :
    PR X W m (.Subscript a (.Slice lo hi none p2) pos) (sliceF g fa fl fh) := pe_imp (pe_slice (pos := pos) (p2 := p2) hr ha hl hh) fun σ H Q ⟨R, H0, env, S, q⟩ => by
  refine ⟨R, H0, env, S, ?_⟩
  unfold sliceF at q
  cases ea : fa env with
  | exc x => rw [ea] at q; exact q
  | bad => rw [ea] at q; exact q
  | ok da =>
    rw [ea, Rs.bind_ok] at q
    intro x H1 e1 r1
    refine ⟨R, H0, env, S.up e1, ?_⟩
    cases el : fl env with
    | exc x => rw [el] at q; exact fun c d H' e' => q c d H' (e1.trans e')
    | bad => rw [el] at q; exact q
    | ok l =>
      rw [el, Rs.bind_ok] at q
      intro H2 e2
      refine ⟨R, H0, env, (S.up e1).up e2, ?_⟩
      cases eh : fh env with
      | exc x => rw [eh] at q; exact fun c d H' e' => q c d H' ((e1.trans e2).trans e')
      | bad => rw [eh] at q; exact q
      | ok h =>
        rw [eh, Rs.bind_ok] at q
        intro H3 e3
        exact hg (((S.up e1).up e2).up e3) ((r1.mono (fz_same e2) e2).mono (fz_same e3) e3) (Post.up ((e1.trans e2).trans e3) q)
def orS (r r' : V → Option Int → Option Int → Hp → VK → Prop) : V → Option Int → Option Int → Hp → VK → Prop := fun x lo hi H Q => r x lo hi H Q ∨ r' x lo hi H Q
theorem cut_all {α : Type} {xs : List α} {lo hi : Option Int} (h : HT.sIx xs.length 0 lo = 0 ∧ HT.sIx xs.length xs.length hi = xs.length) : cutD xs lo hi = xs := by
  unfold cutD
  rw [h.1, h.2]
  simp
theorem op_sliceD (na : ma ≠ .pk) : Op3 K mg W ma .fz sliceD (orS (rSlL K) (orS (rSlG K) rSlS)) := by
  intro R H0 σ env H Hs x da lo hi Q S ra q
  cases da <;> try exact q.elim
  · rename_i z
    unfold sliceD at q
    dsimp only at q
    split at q
    · rename_i hl
      exact .inr (.inr ⟨z, ra.str, sl_of hl, q.flat S rfl⟩)
    · exact q.elim
  · rename_i xs
    obtain ⟨p, vs, rfl, hp, hv⟩ := ra.sh na hid_le
    exact .inl ⟨p, vs, rfl, .inl (.inl hp), post_lst (.inl rfl) S (hv.cut lo hi) q⟩
  · rename_i xs
    obtain ⟨p, vs, rfl, hp, hv⟩ := ra.rol na hid_le
    exact .inl ⟨p, vs, rfl, hp, post_lst (.inl rfl) S (hv.cut lo hi) q⟩
  · rename_i xs
    obtain ⟨p, vs, rfl, hp, hv⟩ := ra.tup na hid_le
    refine .inr (.inl ⟨p, vs, rfl, same_t hid_le hp, fun h => ?_, fun _ => post_tup S (hv.cut lo hi) q⟩)
    rw [hv.len] at h
    have q' : Post K mg W R H0 σ env .fz H Q (.ok (.tup xs)) := by
      have e := cut_all h
      unfold sliceD at q
      dsimp only at q
      rw [e] at q
      exact q
    exact post_tupOld hp hv q'
theorem op_sliceL (na : ma ≠ .pk) : Op3 K mg W ma .new sliceL (rSlL K) := by
  intro R H0 σ env H Hs x da lo hi Q S ra q
  cases da <;> try exact q.elim
  · rename_i xs
    obtain ⟨p, vs, rfl, hp, hv⟩ := ra.sh na hid_le
    exact ⟨p, vs, rfl, .inl (.inl hp), post_lst (.inr rfl) S (hv.cut lo hi) q⟩
  · rename_i xs
    obtain ⟨p, vs, rfl, hp, hv⟩ := ra.rol na hid_le
    exact ⟨p, vs, rfl, hp, post_lst (.inr rfl) S (hv.cut lo hi) q⟩
theorem pr_slice {lo hi : Option Expr} {fl fh : En → Rs (Option Int)} {p2 : Pos} (ha : PR X W ma a fa) (hl : PRO X W lo fl) (hh : PRO X W hi fh) (na : ma ≠ .pk := by decide) :
    PR X W .fz (.Subscript a (.Slice lo hi none p2) pos) (sliceF sliceD fa fl fh) := pr_sl (sl_list.or (sl_tupG.or sl_str)) (op_sliceD na) ha hl hh
theorem pr_sliceL {lo hi : Option Expr} {fl fh : En → Rs (Option Int)} {p2 : Pos} (ha : PR X W ma a fa) (hl : PRO X W lo fl) (hh : PRO X W hi fh) (na : ma ≠ .pk := by decide) :
    PR X W .new (.Subscript a (.Slice lo hi none p2) pos) (sliceF sliceL fa fl fh) := pr_sl sl_list (op_sliceL na) ha hl hh

/-! ### argument lists, displays -/
def PostA (K : PySem.W.Frag) (mg : Str → Option Value) (W : L2.WX) (R : Addr → Prop) (H0 : HZ) (σ : L2.St) (env : En) (H : Hp) (Q : List V → Hp → Prop) : Rs (List D) → Prop
  | .ok ds => ∀ vs H', Same H H' → Dvs K mg (fz R σ env H') vs ds → Q vs H'
  | .exc e => ∀ cls dd H', Same H H' → XW K mg (Ro R σ env) e cls dd H' → W cls dd σ H'
  | .bad => False
def rdA (K : PySem.W.Frag) (mg : Str → Option Value) (W : L2.WX) (f : En → Rs (List D)) : TA := fun σ H Q => ∃ R H0 env, StR K mg R H0 σ H env ∧ PostA K mg W R H0 σ env H Q (f env)
abbrev PRA (X : Cx) (W : L2.WX) (es : List Expr) (f : En → Rs (List D)) : Prop := PA X es (rdA X.K X.mg W f)
theorem pa_imp {es : List Expr} {t t' : TA} (h : PA X es t) (i : ∀ σ H Q, t' σ H Q → t σ H Q) : PA X es t' := ⟨fun pos pins s σ H Q I q => h.run pos pins s σ H Q I (i σ H Q q)⟩
def nilA : En → Rs (List D) := fun _ => .ok []
def consA (fa : En → Rs D) (fs : En → Rs (List D)) : En → Rs (List D) := fun env => fa env >>= fun d => fs env >>= fun ds => .ok (d :: ds)
theorem pra_nil : PRA X W [] nilA := pa_imp pa_nil fun σ H Q ⟨R, H0, env, S, q⟩ => q [] H (Same.refl H) .nil
theorem pra_cons {es : List Expr} {fs : En → Rs (List D)} (ha : PR X W .fz a fa) (hs : PRA X W es fs) (he : starEach (a :: es) X.env = (false, eval a X.env) :: starEach es X.env := by rfl) : PRA X W (a :: es) (consA fa fs) := pa_imp (pa_cons ha hs he) fun σ H Q ⟨R, H0, env, S, q⟩ => by
  refine ⟨R, H0, env, S, ?_⟩
  unfold consA at q
  cases ea : fa env with
  | exc x => rw [ea] at q; exact q
  | bad => rw [ea] at q; exact q
  | ok da =>
    rw [ea, Rs.bind_ok] at q
    intro x H1 e1 r1
    refine ⟨R, H0, env, S.up e1, ?_⟩
    cases es : fs env with
    | exc x => rw [es] at q; exact fun c d H' e' => q c d H' (e1.trans e')
    | bad => rw [es] at q; exact q
    | ok ds =>
      rw [es, Rs.bind_ok] at q
      intro vs H2 e2 r2
      exact q (x :: vs) H2 (e1.trans e2) (.cons (Dv.mono (fz_same e2) r1) r2)
/-- *a, .. in a display -/
def itemsD : D → Option (List D)
  | .lst xs => some xs
  | .rol xs => some xs
  | .tup xs => some xs
  | _ => none
def starA (fa : En → Rs D) (fs : En → Rs (List D)) : En → Rs (List D) := fun env => fa env >>= fun d => match itemsD d with
  | some xs => fs env >>= fun ds => .ok (xs ++ ds)
  | none => .bad
theorem seq_items (na : ma ≠ .pk) {F Hs H : Hp} {y : V} {db : D} {xs : List D} (e : Same F H) (rb : Rl K mg F Hs H y db ma) (hw : itemsD db = some xs) :
    ∃ p vs, y = .ref p ∧ (SqL K H p vs ∨ SqT K H p vs) ∧ Dvs K mg F vs xs := by
  cases db <;> simp only [itemsD, reduceCtorEq, Option.some.injEq] at hw
  · subst hw
    obtain ⟨p, vs, rfl, hp, hv⟩ := rb.sh na e
    exact ⟨p, vs, rfl, .inl (.inl (.inl hp)), hv⟩
  · subst hw
    obtain ⟨p, vs, rfl, hp, hv⟩ := rb.rol na e
    exact ⟨p, vs, rfl, .inl hp, hv⟩
  · subst hw
    obtain ⟨p, vs, rfl, hp, hv⟩ := rb.tup na e
    exact ⟨p, vs, rfl, .inr (same_t e hp), hv⟩
theorem pra_star {es : List Expr} {fs : En → Rs (List D)} {p : Pos} (ha : PR X W ma a fa) (hs : PRA X W es fs) (na : ma ≠ .pk := by decide) (he : starEach (.Starred a p :: es) X.env = (true, eval a X.env) :: starEach es X.env := by rfl) : PRA X W (.Starred a p :: es) (starA fa fs) := pa_imp (StX.pa_star ha hs he) fun σ H Q ⟨R, H0, env, S, q⟩ => by
  refine ⟨R, H0, env, S, ?_⟩
  unfold starA at q
  cases ea : fa env with
  | exc x => rw [ea] at q; exact q
  | bad => rw [ea] at q; exact q
  | ok da =>
    rw [ea, Rs.bind_ok] at q
    intro x H1 e1 r1
    split at q
    · rename_i xs ei
      obtain ⟨p, vs, rfl, hp, hv⟩ := seq_items na hid_le r1 ei
      refine ⟨p, vs, rfl, hp.symm, R, H0, env, S.up e1, ?_⟩
      cases es : fs env with
      | exc x => rw [es] at q; exact fun c d H' e' => q c d H' (e1.trans e')
      | bad => rw [es] at q; exact q
      | ok ds =>
        rw [es, Rs.bind_ok] at q
        intro ws H2 e2 r2
        exact q (vs ++ ws) H2 (e1.trans e2) ((hv.mono (fz_same e2)).app r2)
    · exact q.elim
end
end Orn

set_option linter.all false
set_option maxRecDepth 100000
set_option maxHeartbeats 4000000
namespace Orn
open L2 PySem PySem.Spec PyProof.Rows
section
variable {X : Cx} {W : L2.WX} {m ma mb : Md} {fa fb fc f : En → Rs D} {a b c e : Expr} {es : List Expr} {fs : En → Rs (List D)} {pos : Pos} {K : PySem.W.Frag} {mg : Str → Option Value}
/-! ### displays -/
def tupF (fs : En → Rs (List D)) : En → Rs D := fun env => fs env >>= fun ds => if ds.length ≤ SL then .ok (.tup ds) else .bad
def lstF (fs : En → Rs (List D)) : En → Rs D := fun env => fs env >>= fun ds => if ds.length ≤ SL then .ok (.lst ds) else .bad
theorem pr_tup {x1} (h : PRA X W es fs) : PR X W .fz (.Tuple es x1 pos) (tupF fs) := pe_imp (pe_tupG (pos := pos) (x1 := x1) h) fun σ H Q ⟨R, H0, env, S, q⟩ => by
  refine ⟨R, H0, env, S, ?_⟩
  unfold tupF at q
  cases ea : fs env with
  | exc x => rw [ea] at q; exact q
  | bad => rw [ea] at q; exact q
  | ok ds =>
    rw [ea, Rs.bind_ok] at q
    intro vs H1 e1 r1
    split at q
    · rename_i hl
      exact ⟨sl_of (by rw [r1.len]; exact hl), post_tup (S.up e1) r1 (Post.up e1 q)⟩
    · exact q.elim
theorem pr_lst (h : PRA X W es fs) : PR X W .new (.List es pos) (lstF fs) := pe_imp (pe_lst (pos := pos) h) fun σ H Q ⟨R, H0, env, S, q⟩ => by
  refine ⟨R, H0, env, S, ?_⟩
  unfold lstF at q
  cases ea : fs env with
  | exc x => rw [ea] at q; exact q
  | bad => rw [ea] at q; exact q
  | ok ds =>
    rw [ea, Rs.bind_ok] at q
    intro vs H1 e1 r1
    split at q
    · rename_i hl
      exact ⟨sl_of (by rw [r1.len]; exact hl), post_lst (.inr rfl) (S.up e1) r1 (Post.up e1 q)⟩
    · exact q.elim

/-! ### built-ins -/
def lenD : D → Rs D
  | .lst xs => .ok (.int xs.length)
  | .rol xs => .ok (.int xs.length)
  | .tup xs => .ok (.int xs.length)
  | .str z => if z.length ≤ SL then .ok (.int z.length) else .bad
  | _ => .bad
theorem Dv.lst_of {F : Hp} {v : V} {xs : List D} (h : Dv K mg F v (.lst xs)) : ∃ p vs, v = .ref p ∧ F p = some (.lst vs) ∧ Dvs K mg F vs xs := by
  cases h with
  | lst h r => exact ⟨_, _, rfl, h, r⟩
theorem Dv.rol_of {F : Hp} {v : V} {xs : List D} (h : Dv K mg F v (.rol xs)) : ∃ p vs, v = .ref p ∧ SqL K F p vs ∧ Dvs K mg F vs xs := by
  cases h with
  | rol h r => exact ⟨_, _, rfl, h, r⟩
theorem Dv.tup_of {F : Hp} {v : V} {xs : List D} (h : Dv K mg F v (.tup xs)) : ∃ p vs, v = .ref p ∧ GT K F p vs ∧ Dvs K mg F vs xs := by
  cases h with
  | tup h r => exact ⟨_, _, rfl, h, r⟩
theorem op_lenD : Op1 K mg W ma .fz lenD (fun x H Q => (∃ p ys, [x] = [V.ref p] ∧ (SqL K H p ys ∨ SqT K H p ys) ∧ Q (.int ys.length) H) ∨ (∃ z : Str, [x] = [V.str z] ∧ z.length ≤ sizeLine ∧ Q (.int z.length) H)) := by
  intro R H0 σ env H Hs x da Q S ra q
  have rp := ra.pk hid_le
  cases da <;> try exact q.elim
  · rename_i z
    unfold lenD at q
    dsimp only at q
    split at q
    · rename_i hl
      exact .inr ⟨z, by rw [ra.str], sl_of hl, q.flat S rfl⟩
    · exact q.elim
  · obtain ⟨p, vs, rfl, hp, hv⟩ := rp.lst_of
    exact .inl ⟨p, vs, rfl, .inl (.inl (.inl hp)), by rw [hv.len]; exact q.flat S rfl⟩
  · obtain ⟨p, vs, rfl, hp, hv⟩ := rp.rol_of
    exact .inl ⟨p, vs, rfl, .inl hp, by rw [hv.len]; exact q.flat S rfl⟩
  · obtain ⟨p, vs, rfl, hp, hv⟩ := rp.tup_of
    exact .inl ⟨p, vs, rfl, .inr hp.sq, by rw [hv.len]; exact q.flat S rfl⟩
theorem call_lenBoth : CallR X (.builtin "len") (fun xs H Q => (∃ p ys, xs = [V.ref p] ∧ (SqL X.K H p ys ∨ SqT X.K H p ys) ∧ Q (.int ys.length) H) ∨ (∃ z : Str, xs = [V.str z] ∧ z.length ≤ sizeLine ∧ Q (.int z.length) H)) :=
  callr_or call_len_seq fun pins s σ H xs us Q I rx ⟨z, hz, hl, q⟩ => call_len pins s σ H xs us Q I rx ⟨.str z, z.length, hz, ⟨hl, rfl⟩, q⟩
def listD : D → Rs D
  | .lst xs => .ok (.lst xs)
  | .rol xs => .ok (.lst xs)
  | .tup xs => .ok (.lst xs)
  | _ => .bad
theorem op_listD (na : ma ≠ .pk) : Op1 K mg W ma .new listD (fun x H Q => ∃ p ys, [x] = [V.ref p] ∧ (SqL K H p ys ∨ SqT K H p ys) ∧ ∀ l, H l = none → Q (.ref l) (upd H l (.lst ys))) := by
  intro R H0 σ env H Hs x da Q S ra q
  cases da <;> try exact q.elim
  · obtain ⟨p, vs, rfl, hp, hv⟩ := ra.sh na hid_le
    exact ⟨p, vs, rfl, .inl (.inl (.inl hp)), post_lst (.inr rfl) S hv q⟩
  · obtain ⟨p, vs, rfl, hp, hv⟩ := ra.rol na hid_le
    exact ⟨p, vs, rfl, .inl hp, post_lst (.inr rfl) S hv q⟩
  · obtain ⟨p, vs, rfl, hp, hv⟩ := ra.tup na hid_le
    exact ⟨p, vs, rfl, .inr (same_t hid_le hp), post_lst (.inr rfl) S hv q⟩
def tupleD : D → Rs D
  | .lst xs => .ok (.tup xs)
  | .rol xs => .ok (.tup xs)
  | .tup xs => .ok (.tup xs)
  | _ => .bad
theorem op_tupleD (na : ma ≠ .pk) : Op1 K mg W ma .fz tupleD (fun x H Q => rTupleG K [x] H Q) := by
  intro R H0 σ env H Hs x da Q S ra q
  cases da <;> try exact q.elim
  · obtain ⟨p, vs, rfl, hp, hv⟩ := ra.sh na hid_le
    exact ⟨p, vs, rfl, .inl ⟨.inl (.inl hp), post_tup S hv q⟩⟩
  · obtain ⟨p, vs, rfl, hp, hv⟩ := ra.rol na hid_le
    exact ⟨p, vs, rfl, .inl ⟨hp, post_tup S hv q⟩⟩
  · obtain ⟨p, vs, rfl, hp, hv⟩ := ra.tup na hid_le
    exact ⟨p, vs, rfl, .inr ⟨same_t hid_le hp, post_tupOld hp hv q⟩⟩
def b2i (b : Bool) : Int := if b then 1 else 0
def toIntD : D → Rs D
  | .int i => .ok (.int i)
  | .bl b => .ok (.int (b2i b))
  | _ => .bad
theorem op_toIntD : Op1 K mg W ma .fz toIntD (fun x H Q => (∃ i, [x] = [V.int i] ∧ Q (.int i) H) ∨ ∃ k, [x] = [V.bl k] ∧ Q (.int (if k then 1 else 0)) H) := by
  intro R H0 σ env H Hs x da Q S ra q
  cases da <;> try exact q.elim
  · rename_i k
    exact .inr ⟨k, by rw [ra.bl], q.flat S rfl⟩
  · rename_i i
    exact .inl ⟨i, by rw [ra.int], q.flat S rfl⟩
def absD : D → Rs D
  | .int i => .ok (.int (if i < 0 then -i else i))
  | _ => .bad
def strD : D → Rs D
  | .int i => if i.natAbs.log2 < 1920 then .ok (.str (toString i)) else .bad
  | _ => .bad
/-- sorted, whole numbers -/
def insI (x : Int) : List Int → List Int
  | [] => [x]
  | y :: ys => if x ≤ y then x :: y :: ys else y :: insI x ys
def isort : List Int → List Int
  | [] => []
  | x :: xs => insI x (isort xs)
theorem insI_perm (x : Int) : ∀ l : List Int, (insI x l).Perm (x :: l)
  | [] => .refl _
  | y :: ys => by
    unfold insI
    split
    · exact .refl _
    · exact ((insI_perm x ys).cons y).trans (.swap x y ys)
theorem isort_perm : ∀ l : List Int, (isort l).Perm l
  | [] => .refl _
  | x :: xs => (insI_perm x _).trans ((isort_perm xs).cons x)
theorem insI_sorted (x : Int) : ∀ l : List Int, l.Pairwise (· ≤ ·) → (insI x l).Pairwise (· ≤ ·)
  | [], _ => by unfold insI; simp
  | y :: ys, h => by
    unfold insI
    rw [List.pairwise_cons] at h
    split
    · rename_i q
      rw [List.pairwise_cons, List.pairwise_cons]
      exact ⟨fun z hz => by
        rcases List.mem_cons.mp hz with e | e
        · omega
        · have := h.1 z e
          omega, h⟩
    · rename_i q
      rw [List.pairwise_cons]
      refine ⟨fun z hz => ?_, insI_sorted x ys h.2⟩
      rcases List.mem_cons.mp ((insI_perm x ys).mem_iff.mp hz) with e | e
      · omega
      · exact h.1 z e
theorem isort_sorted : ∀ l : List Int, (isort l).Pairwise (· ≤ ·)
  | [] => .nil
  | x :: xs => insI_sorted x _ (isort_sorted xs)
theorem perm_sorted_eq : ∀ {l l' : List Int}, l.Perm l' → l.Pairwise (· ≤ ·) → l'.Pairwise (· ≤ ·) → l = l'
  | [], l', h, _, _ => (List.Perm.nil_eq h)
  | x :: xs, [], h, _, _ => by have := h.length_eq; simp at this
  | x :: xs, y :: ys, h, h1, h2 => by
    rw [List.pairwise_cons] at h1 h2
    have e : x = y := by
      have hx : x ∈ y :: ys := h.mem_iff.mp List.mem_cons_self
      have hy : y ∈ x :: xs := h.mem_iff.mpr List.mem_cons_self
      rcases List.mem_cons.mp hx with e | e
      · exact e
      · rcases List.mem_cons.mp hy with e2 | e2
        · exact e2.symm
        · have a := h2.1 x e
          have b := h1.1 y e2
          omega
    subst e
    rw [perm_sorted_eq (List.Perm.cons_inv h) h1.2 h2.2]
def intsOf : List D → Option (List Int)
  | [] => some []
  | .int i :: xs => (intsOf xs).map (i :: ·)
  | _ => none
theorem intsOf_is : ∀ {xs : List D} {ns : List Int}, intsOf xs = some ns → xs = ns.map D.int
  | [], ns, h => by simp only [intsOf, Option.some.injEq] at h; subst h; rfl
  | .int i :: xs, ns, h => by
    simp only [intsOf] at h
    cases q : intsOf xs with
    | none => rw [q] at h; cases h
    | some ms =>
      rw [q] at h
      simp only [Option.map_some, Option.some.injEq] at h
      subst h
      rw [intsOf_is q]
      rfl
  | .non :: xs, ns, h => by simp [intsOf] at h
  | .bl _ :: xs, ns, h => by simp [intsOf] at h
  | .str _ :: xs, ns, h => by simp [intsOf] at h
  | .lst _ :: xs, ns, h => by simp [intsOf] at h
  | .rol _ :: xs, ns, h => by simp [intsOf] at h
  | .tup _ :: xs, ns, h => by simp [intsOf] at h
  | .obj _ _ :: xs, ns, h => by simp [intsOf] at h
theorem intsOf_map : ∀ ns : List Int, intsOf (ns.map D.int) = some ns
  | [] => rfl
  | n :: ns => by
    rw [List.map_cons]
    simp only [intsOf, intsOf_map ns, Option.map_some]
def sortedD : D → Rs D
  | .lst xs => match intsOf xs with
    | some ns => .ok (.lst ((isort ns).map D.int))
    | none => .bad
  | _ => .bad
theorem op_sortedD (na : ma ≠ .pk) : Op1 K mg W ma .new sortedD (fun x H Q => rSortedI K [x] H Q) := by
  intro R H0 σ env H Hs x da Q S ra q
  cases da <;> try exact q.elim
  rename_i xs
  unfold sortedD at q
  dsimp only at q
  split at q
  · rename_i ns hns
    have e := intsOf_is hns
    subst e
    obtain ⟨p, vs, rfl, hp, hv⟩ := ra.sh na hid_le
    have e2 := hv.ints
    subst e2
    refine ⟨p, ns, rfl, .inl (.inl hp), fun ns' l pm pw hl => ?_⟩
    have e3 : ns' = isort ns := perm_sorted_eq (pm.trans (isort_perm ns).symm) pw (isort_sorted ns)
    subst e3
    exact post_lst (.inr rfl) S (Dvs.of_ints _) q l hl
  · exact q.elim
end
end Orn

set_option linter.all false
set_option maxRecDepth 100000
set_option maxHeartbeats 4000000
namespace Orn
open L2 PySem PySem.Spec PyProof.Rows
/-! ### defs: what they promise -/
def spD (K : PySem.W.Frag) (mg : Str → Option Value) (n : Nat) (nw : Bool) (g : List D → Rs D) : Sp := fun vs H Q E => ∃ (R : Addr → Prop) (ds : List D), vs.length = n ∧ (∀ a, R a → H a ≠ none) ∧ Dvs K mg (hid R H) vs ds ∧ match g ds with
  | .ok d => ∀ v H', Same H H' → Dv K mg (hid R H') v d → (nw = true → Nw K mg (hid R H') H H' v d) → Q v H'
  | .exc e => ∀ cls dd H', Same H H' → XW K mg R e cls dd H' → E cls dd H'
  | .bad => False
/-- «x is a def (of the text) whose mirror is g» -/
structure Dn (P : Program) (w : World) (K : PySem.W.Frag) (mg : Str → Option Value) (base : Heap) (k : Nat) (x : Str) (n : Nat) (nw : Bool) (g : List D → Rs D) : Prop where
  ex : ∃ f fd ps, FnG P w K mg base k f fd ps (spD K mg n nw g) ∧ mg x = some (.ref f) ∧ PySem.W.keepIn K (.ref f) = true ∧ Binds K fd ps []
section
variable {X : Cx} {W : L2.WX} {m ma mb : Md} {fa fb fc f : En → Rs D} {a b c e : Expr} {es : List Expr} {fs : En → Rs (List D)} {pos : Pos} {K : PySem.W.Frag} {mg : Str → Option Value}
theorem ro_res {R : Addr → Prop} {H0 : HZ} {H : Hp} {σ : L2.St} {env : En} (S : StR K mg R H0 σ H env) : ∀ a, Ro R σ env a → H a ≠ none := fun a h => S.resH h
def callF (g : List D → Rs D) (fs : En → Rs (List D)) : En → Rs D := fun env => fs env >>= g
def callL (g : List D → Rs D) (fs : En → Rs (List D)) : En → Rs D := fun env => fs env >>= g >>= fun d => match d with
  | .lst xs => .ok (.lst xs)
  | _ => .bad
theorem pr_call {k n : Nat} {nw : Bool} {g : List D → Rs D} {x : Str} {p : Pos} (F : Dn X.prog X.w X.K X.mg X.base k x n nw g) (hr : Rm k X.A) (gl : Gl X x) (tk : Takes X W) (hs : PRA X W (e :: es) fs) (hn : ∀ env ds, fs env = .ok ds → ds.length = n)
    (hdb : (x == ("__debug__" : Str)) = false := by decide) (he : starEach (e :: es) X.env = (false, eval e X.env) :: starEach es X.env := by rfl) (hpl : (backTo pos (starEach es X.env)).any (·.1) = false := by rfl) :
    PR X W .fz (.Call (.Name x p) (e :: es) [] pos) (callF g fs) := by
  obtain ⟨f, fd, ps, F, hm, hk, hb⟩ := F.ex
  refine pe_imp (pe_callG (p := p) (pos := pos) F hr gl hm hk hb tk hs hdb he hpl) fun σ H Q ⟨R, H0, env, S, q⟩ => ?_
  refine ⟨R, H0, env, S, ?_⟩
  unfold callF at q
  cases ea : fs env with
  | exc x => rw [ea] at q; exact q
  | bad => rw [ea] at q; exact q
  | ok ds =>
    rw [ea, Rs.bind_ok] at q
    intro vs H1 e1 r1
    refine ⟨Ro R σ env, ds, by rw [r1.len]; exact hn env ds ea, ro_res (S.up e1), r1, ?_⟩
    cases eg : g ds with
    | exc x =>
      rw [eg] at q
      exact fun cls dd H' e' xw => q cls dd H' (e1.trans e') xw
    | bad => rw [eg] at q; exact q
    | ok d =>
      rw [eg] at q
      exact fun v H' e' r _ => q v H' (e1.trans e') r
theorem pr_callL {k n : Nat} {g : List D → Rs D} {x : Str} {p : Pos} (F : Dn X.prog X.w X.K X.mg X.base k x n true g) (hr : Rm k X.A) (gl : Gl X x) (tk : Takes X W) (hs : PRA X W (e :: es) fs) (hn : ∀ env ds, fs env = .ok ds → ds.length = n)
    (hdb : (x == ("__debug__" : Str)) = false := by decide) (he : starEach (e :: es) X.env = (false, eval e X.env) :: starEach es X.env := by rfl) (hpl : (backTo pos (starEach es X.env)).any (·.1) = false := by rfl) :
    PR X W .new (.Call (.Name x p) (e :: es) [] pos) (callL g fs) := by
  obtain ⟨f, fd, ps, F, hm, hk, hb⟩ := F.ex
  refine pe_imp (pe_callG (p := p) (pos := pos) F hr gl hm hk hb tk hs hdb he hpl) fun σ H Q ⟨R, H0, env, S, q⟩ => ?_
  refine ⟨R, H0, env, S, ?_⟩
  unfold callL at q
  cases ea : fs env with
  | exc x => rw [ea] at q; exact q
  | bad => rw [ea] at q; exact q
  | ok ds =>
    rw [ea, Rs.bind_ok] at q
    intro vs H1 e1 r1
    refine ⟨Ro R σ env, ds, by rw [r1.len]; exact hn env ds ea, ro_res (S.up e1), r1, ?_⟩
    cases eg : g ds with
    | exc x =>
      rw [eg] at q
      exact fun cls dd H' e' xw => q cls dd H' (e1.trans e') xw
    | bad => rw [eg] at q; exact q
    | ok d =>
      rw [eg, Rs.bind_ok] at q
      cases d <;> try exact fun v H' e' r _ => q.elim
      rename_i xs
      intro v H' e' r hnew
      obtain ⟨p, vs, xs, G, hv, hx, hn, hh⟩ := hnew rfl
      exact q _ H' (e1.trans e') ⟨p, vs, xs, G, hv, hx, e1.free hn, hh⟩
/-! ### statements -/
inductive Fl where
  | next (env : En) | ret (d : D) | raise (e : Exn) (env : En)
/-- what is wanted behind a statement; R0: the def's reserve, Fs: what was frozen ahead of it stays so -/
def PostS (K : PySem.W.Frag) (mg : Str → Option Value) (W : L2.WX) (nw : Bool) (R0 : Addr → Prop) (H0 : HZ) (Fs : Hp) (Dd : Ends) : Rs Fl → Prop
  | .ok (.next env) => ∀ R σ H, (∀ a, R0 a → R a ∧ H0 a ≠ none) → StR K mg R H0 σ H env → Same Fs (fz R σ env H) → Dd.nx σ H
  | .ok (.ret d) => ∀ v H, Same H0 H → Dv K mg (hid R0 H) v d → (nw = true → Nw K mg (hid R0 H) H0 H v d) → Dd.rt v H
  | .ok (.raise e env) => ∀ cls dd R σ H, (∀ a, R0 a → R a ∧ H0 a ≠ none) → StR K mg R H0 σ H env → Same Fs (fz R σ env H) → XW K mg (Ro R σ env) e cls dd H → W cls dd σ H
  | .exc _ => False
  | .bad => False
theorem PostS.up {R0 : Addr → Prop} {H0 : HZ} {Fs F1 : Hp} {Dd : Ends} {nw : Bool} {r : Rs Fl} (e : Same Fs F1) (q : PostS K mg W nw R0 H0 Fs Dd r) : PostS K mg W nw R0 H0 F1 Dd r := by
  cases r with
  | ok r =>
    cases r with
    | next env => exact fun R σ H sb S f => q R σ H sb S (e.trans f)
    | ret d => exact q
    | raise x env => exact fun cls dd R σ H sb S f xw => q cls dd R σ H sb S (e.trans f) xw
  | exc x => exact q
  | bad => exact q
def rdS (K : PySem.W.Frag) (mg : Str → Option Value) (W : L2.WX) (nw : Bool) (g : En → Rs Fl) : TS := fun Dd σ H => ∃ R0 R H0 env, (∀ a, R0 a → R a ∧ H0 a ≠ none) ∧ StR K mg R H0 σ H env ∧ PostS K mg W nw R0 H0 (fz R σ env H) Dd (g env)
abbrev PRS (X : Cx) (W : L2.WX) (nw : Bool) (s : Stmt) (g : En → Rs Fl) : Prop := PS X s (rdS X.K X.mg W nw g)
abbrev PRB (X : Cx) (W : L2.WX) (nw : Bool) (s : List Stmt) (g : En → Rs Fl) : Prop := PSs X s (rdS X.K X.mg W nw g)
theorem ps_imp {s : Stmt} {t t' : TS} (h : PS X s t) (i : ∀ Dd σ H, t' Dd σ H → t Dd σ H) : PS X s t' := ⟨fun pins s σ H Dd I q => h.run pins s σ H Dd I (i Dd σ H q)⟩
theorem pss_imp {s : List Stmt} {t t' : TS} (h : PSs X s t) (i : ∀ Dd σ H, t' Dd σ H → t Dd σ H) : PSs X s t' := ⟨fun pins s σ H Dd I q => h.run pins s σ H Dd I (i Dd σ H q)⟩
def seqS (g1 g2 : En → Rs Fl) : En → Rs Fl := fun env => g1 env >>= fun r => match r with
  | .next env' => g2 env'
  | r => .ok r
def nilS : En → Rs Fl := fun env => .ok (.next env)
variable {nw : Bool} {s : Stmt} {ss : List Stmt} {g g1 g2 : En → Rs Fl} {ga gb : En → Rs Bool}
theorem prb_nil : PRB X W nw [] nilS := pss_imp pss_nil fun Dd σ H ⟨R0, R, H0, env, sb, S, q⟩ => q R σ H sb S (Same.refl _)
theorem prb_cons (h1 : PRS X W nw s g1) (h2 : PRB X W nw ss g2) : PRB X W nw (s :: ss) (seqS g1 g2) := pss_imp (pss_cons h1 h2) fun Dd σ H ⟨R0, R, H0, env, sb, S, q⟩ => by
  refine ⟨R0, R, H0, env, sb, S, ?_⟩
  unfold seqS at q
  cases ea : g1 env with
  | exc x => rw [ea] at q; exact q
  | bad => rw [ea] at q; exact q
  | ok r =>
    rw [ea, Rs.bind_ok] at q
    cases r with
    | next env' => exact fun R' σ' H' sb' S' f => ⟨R0, R', H0, env', sb', S', q.up f⟩
    | ret d => exact q
    | raise e env' => exact q
theorem prb_one (h1 : PRS X W nw s g1) : PRB X W nw [s] g1 := pss_imp (pss_one h1) fun Dd σ H q => q
/-- an expression's value handed to a statement -/
def withE (fa : En → Rs D) (k : D → En → Rs Fl) : En → Rs Fl := fun env => match fa env with
  | .ok d => k d env
  | .exc e => .ok (.raise e env)
  | .bad => .bad
theorem rd_with {R0 R : Addr → Prop} {H0 : HZ} {H : Hp} {σ : L2.St} {env : En} {Dd : Ends} {k : D → En → Rs Fl} {r : V → Hp → Prop} (sb : ∀ a, R0 a → R a ∧ H0 a ≠ none) (S : StR K mg R H0 σ H env) {Fs : Hp} (hF : Same Fs (fz R σ env H)) (q : PostS K mg W nw R0 H0 Fs Dd (withE fa k env))
    (h : ∀ v d H1, Same H H1 → StR K mg R H0 σ H1 env → Rl K mg (fz R σ env H1) H H1 v d ma → PostS K mg W nw R0 H0 (fz R σ env H1) Dd (k d env) → r v H1) : rdP K mg W ma fa σ H r := by
  refine ⟨R, H0, env, S, ?_⟩
  unfold withE at q
  cases ea : fa env with
  | exc x =>
    rw [ea] at q
    exact fun cls dd H' e xw => q cls dd R σ H' sb (S.up e) (hF.trans (fz_same e)) xw
  | bad => rw [ea] at q; exact q
  | ok d =>
    rw [ea] at q
    exact fun v H1 e1 r1 => h v d H1 e1 (S.up e1) r1 (q.up (hF.trans (fz_same e1)))
def retF (fa : En → Rs D) : En → Rs Fl := withE fa fun d _ => .ok (.ret d)
theorem prs_ret (ha : PR X W .fz a fa) : PRS X W false (.Return (some a) pos) (retF fa) := ps_imp (ps_ret (pos := pos) ha) fun Dd σ H ⟨R0, R, H0, env, sb, S, q⟩ => rd_with sb S (Same.refl _) q fun v d H1 e1 S1 r1 q1 =>
  q1 v H1 S1.ex (Dv.mono (hid_sub fun a h => .inl (sb a h).1) r1) (fun z => by cases z)
theorem prs_retN (ha : PR X W .new a fa) : PRS X W nw (.Return (some a) pos) (retF fa) := ps_imp (ps_ret (pos := pos) ha) fun Dd σ H ⟨R0, R, H0, env, sb, S, q⟩ => rd_with sb S (Same.refl _) q fun v d H1 e1 S1 r1 q1 => by
  obtain ⟨p, vs, xs, G, rfl, rfl, hp, h1, hF, hg, hgp, hs⟩ := r1
  have sub : Same (fz R σ env H1) (hid R0 H1) := hid_sub fun a h => .inl (sb a h).1
  exact q1 _ H1 S1.ex (Dv.lst (sub _ _ hF) ((hs.mono hg).mono sub)) fun _ => ⟨p, vs, xs, G, rfl, rfl, S.ex.free hp, h1, sub _ _ hF, hg.trans sub, hgp, hs⟩
/-- return x, x a list of one's own -/
def retL (i : Nat) : En → Rs Fl := fun env => match env[i]? with
  | some (some (.l xs)) => .ok (.ret (.lst xs))
  | _ => .bad
theorem prs_retL {i : Nat} (h : PE X a (tVar i)) : PRS X W nw (.Return (some a) pos) (retL i) := ps_imp (ps_ret (pos := pos) h) fun Dd σ H ⟨R0, R, H0, env, sb, S, q⟩ => by
  unfold retL at q
  split at q
  · rename_i xs hx
    obtain ⟨v, hv, p, vs, rfl, hp, hs⟩ := S.slot i _ hx
    refine ⟨.ref p, hv, ?_⟩
    have hn := S.new p ⟨i, xs, hx, hv⟩
    have hR : ¬ R0 p := fun h => S.dis p ⟨i, xs, hx, hv⟩ (sb p h).1
    have sub : Same (fz R σ env H) (hid R0 H) := hid_sub fun a h => .inl (sb a h).1
    exact q _ H S.ex (.lst ((hid_no hR).trans hp) (hs.mono sub)) fun _ => ⟨p, vs, xs, fz R σ env H, rfl, rfl, hn, hp, (hid_no hR).trans hp, sub, hid_yes (.inr ⟨i, xs, hx, hv⟩), hs⟩
  · exact q.elim
def retNone : En → Rs Fl := fun _ => .ok (.ret .non)
theorem prs_ret0 : PRS X W false (.Return none pos) retNone := ps_imp ps_retN fun Dd σ H ⟨R0, R, H0, env, sb, S, q⟩ => q .non H S.ex .non (fun z => by cases z)
def ifS (t : En → Rs Bool) (g1 g2 : En → Rs Fl) : En → Rs Fl := fun env => match t env with
  | .ok true => g1 env
  | .ok false => g2 env
  | .exc e => .ok (.raise e env)
  | .bad => .bad
theorem prs_if {t : Expr} {sa sb : List Stmt} (ht : PRT X W t ga) (h1 : PRB X W nw sa g1) (h2 : PRB X W nw sb g2) : PRS X W nw (.If t sa sb pos) (ifS ga g1 g2) := ps_imp (ps_if (pos := pos) ht h1 h2) fun Dd σ H ⟨R0, R, H0, env, sb, S, q⟩ => by
  refine ⟨R, H0, env, S, ?_⟩
  unfold ifS at q
  cases ea : ga env with
  | exc x =>
    rw [ea] at q
    exact fun cls dd H' e xw => q cls dd R σ H' sb (S.up e) (fz_same e) xw
  | bad => rw [ea] at q; exact q
  | ok k =>
    rw [ea] at q
    intro H1 e1
    cases k with
    | true => exact ⟨R0, R, H0, env, sb, S.up e1, q.up (fz_same e1)⟩
    | false => exact ⟨R0, R, H0, env, sb, S.up e1, q.up (fz_same e1)⟩
end
end Orn

set_option linter.all false
set_option maxRecDepth 100000
set_option maxHeartbeats 4000000
namespace Orn
open L2 PySem PySem.Spec PyProof.Rows
section
variable {X : Cx} {W : L2.WX} {m ma mb : Md} {fa fb fc f : En → Rs D} {a b c e : Expr} {es : List Expr} {fs : En → Rs (List D)} {pos : Pos} {K : PySem.W.Frag} {mg : Str → Option Value}
variable {nw : Bool} {s : Stmt} {ss : List Stmt} {g g1 g2 : En → Rs Fl} {ga gb : En → Rs Bool} {R : Addr → Prop} {H0 : HZ} {H H' : Hp} {σ : L2.St} {env : En}
/-! ### a slot that is set -/
theorem own_setD {i : Nat} {v : V} {x : D} {p : Addr} (h : own (σ.set i (some v)) (env.set i (some (.d x))) p) : own σ env p := by
  obtain ⟨j, xs, h1, h2⟩ := h
  by_cases e : i = j
  · subst e
    rw [List.getElem?_set_self'] at h1
    cases q : env[i]? with
    | none => rw [q] at h1; simp at h1
    | some z => rw [q] at h1; simp at h1
  · rw [List.getElem?_set_ne e] at h1 h2
    exact ⟨j, xs, h1, h2⟩
theorem fz_setD {i : Nat} {v : V} {x : D} : Same (fz R σ env H) (fz R (σ.set i (some v)) (env.set i (some (.d x))) H) := hid_sub fun a h => h.imp id own_setD
theorem StR.setD (S : StR K mg R H0 σ H env) {i : Nat} {v : V} {x : D} (hv : Dv K mg (fz R σ env H) v x) : StR K mg R H0 (σ.set i (some v)) H (env.set i (some (.d x))) := by
  refine ⟨S.ex, S.res, fun p h => S.dis p (own_setD h), one_set S.one (fun t z => by cases z; rfl), fun p h => S.new p (own_setD h), fun j k xs ys p h1 h2 h3 h4 => ?_, fun j t h => ?_, by rw [List.length_set, List.length_set]; exact S.len⟩
  · have e1 : i ≠ j := fun e => by
      subst e
      rw [List.getElem?_set_self'] at h1
      cases q : env[i]? <;> rw [q] at h1 <;> simp at h1
    have e2 : i ≠ k := fun e => by
      subst e
      rw [List.getElem?_set_self'] at h2
      cases q : env[i]? <;> rw [q] at h2 <;> simp at h2
    rw [List.getElem?_set_ne e1] at h1 h3
    rw [List.getElem?_set_ne e2] at h2 h4
    exact S.inj j k xs ys p h1 h2 h3 h4
  · by_cases e : i = j
    · subst e
      rw [List.getElem?_set_self'] at h
      cases q : env[i]? with
      | none => rw [q] at h; simp at h
      | some z =>
        rw [q] at h
        have h := Option.some.inj h
        have h := Option.some.inj h
        subst h
        have hl : i < σ.length := by
          rw [S.len]
          exact (List.getElem?_eq_some_iff.mp q).1
        exact ⟨v, by rw [List.getElem?_set_self hl], hv.mono fz_setD⟩
    · rw [List.getElem?_set_ne e] at h
      obtain ⟨w, hw, ht⟩ := S.slot j t h
      exact ⟨w, by rw [List.getElem?_set_ne e]; exact hw, ht.mono fz_setD (Same.refl _)⟩
theorem own_setL {i : Nat} {p q : Addr} {x : List D} (h : own (σ.set i (some (.ref p))) (env.set i (some (.l x))) q) : own σ env q ∨ q = p := by
  obtain ⟨j, xs, h1, h2⟩ := h
  by_cases e : i = j
  · subst e
    rw [List.getElem?_set_self'] at h2
    cases z : σ[i]? with
    | none => rw [z] at h2; simp at h2
    | some y =>
      rw [z] at h2
      have h2 := Option.some.inj (Option.some.inj h2)
      injection h2 with h2
      exact .inr h2.symm
  · rw [List.getElem?_set_ne e] at h1 h2
    exact .inl ⟨j, xs, h1, h2⟩
/-- a new list becomes one's own -/
theorem StR.setL {Hs : Hp} (S0 : StR K mg R H0 σ Hs env) (e0 : Same Hs H) {i : Nat} {p : Addr} {vs : List V} {x : List D} {G : Hp} (hn : Hs p = none) (hp : H p = some (.lst vs)) (hG : Same G (fz R σ env H)) (hGp : G p = none) (hs : Dvs K mg G vs x) :
    StR K mg R H0 (σ.set i (some (.ref p))) H (env.set i (some (.l x))) ∧ ∀ F, Same F (fz R σ env H) → F p = none → Same F (fz R (σ.set i (some (.ref p))) (env.set i (some (.l x))) H) := by
  have S := S0.up e0
  have h0 : H0 p = none := S0.ex.free hn
  have ho : ¬ own σ env p := fun h => S0.resH (.inr h) hn
  have sub : ∀ F, Same F (fz R σ env H) → F p = none → Same F (fz R (σ.set i (some (.ref p))) (env.set i (some (.l x))) H) := fun F e hF a o h => by
    have h1 := e a o h
    have ne : a ≠ p := fun z => by
      rw [z, hF] at h
      cases h
    have na : ¬ (R a ∨ own σ env a) := fun z => by
      rw [show fz R σ env H a = none from hid_yes z] at h1
      cases h1
    rw [show fz R σ env H a = H a from hid_no na] at h1
    have nb : ¬ (R a ∨ own (σ.set i (some (.ref p))) (env.set i (some (.l x))) a) := fun z => by
      rcases z with z | z
      · exact na (.inl z)
      · rcases own_setL z with z | z
        · exact na (.inr z)
        · exact ne z
    show hid _ H a = some o
    rw [hid_no nb]
    exact h1
  have hR : ¬ R p := fun h => S0.res p h hn
  refine ⟨⟨S.ex, S.res, fun q h => ?_, one_set S.one (fun t z => by cases z; rfl), fun q h => ?_, fun j k xs ys q h1 h2 h3 h4 => ?_, fun j t h => ?_, by rw [List.length_set, List.length_set]; exact S.len⟩, sub⟩
  · rcases own_setL h with z | z
    · exact S.dis q z
    · rw [z]; exact hR
  · rcases own_setL h with z | z
    · exact S.new q z
    · rw [z]; exact h0
  · by_cases e1 : i = j
    · by_cases e2 : i = k
      · exact e1.symm.trans e2
      · exfalso
        subst e1
        rw [List.getElem?_set_ne e2] at h2 h4
        rw [List.getElem?_set_self'] at h3
        cases z : σ[i]? with
        | none => rw [z] at h3; simp at h3
        | some y =>
          rw [z] at h3
          have h3 := Option.some.inj (Option.some.inj h3)
          injection h3 with h3
          subst h3
          exact ho ⟨k, ys, h2, h4⟩
    · by_cases e2 : i = k
      · exfalso
        subst e2
        rw [List.getElem?_set_ne e1] at h1 h3
        rw [List.getElem?_set_self'] at h4
        cases z : σ[i]? with
        | none => rw [z] at h4; simp at h4
        | some y =>
          rw [z] at h4
          have h4 := Option.some.inj (Option.some.inj h4)
          injection h4 with h4
          subst h4
          exact ho ⟨j, xs, h1, h3⟩
      · rw [List.getElem?_set_ne e1] at h1 h3
        rw [List.getElem?_set_ne e2] at h2 h4
        exact S.inj j k xs ys q h1 h2 h3 h4
  · by_cases e : i = j
    · subst e
      rw [List.getElem?_set_self'] at h
      cases q : env[i]? with
      | none => rw [q] at h; simp at h
      | some z =>
        rw [q] at h
        have h := Option.some.inj h
        have h := Option.some.inj h
        subst h
        have hl : i < σ.length := by
          rw [S.len]
          exact (List.getElem?_eq_some_iff.mp q).1
        exact ⟨.ref p, by rw [List.getElem?_set_self hl], p, vs, rfl, hp, hs.mono (sub G hG hGp)⟩
    · rw [List.getElem?_set_ne e] at h
      obtain ⟨w, hw, ht⟩ := S.slot j t h
      obtain ⟨w, hw, ht⟩ := S0.slot j t h
      have f0 : fz R σ env Hs p = none := by
        cases q : fz R σ env Hs p with
        | none => rfl
        | some o => exact absurd (hid_le _ _ q) (by rw [hn]; intro z; cases z)
      exact ⟨w, by rw [List.getElem?_set_ne e]; exact hw, ht.mono (sub _ (fz_same e0) f0) e0⟩
theorem own_putL {i : Nat} {xs ys : List D} (hi : env[i]? = some (some (.l xs))) {q : Addr} : own σ (env.set i (some (.l ys))) q ↔ own σ env q := by
  constructor
  · rintro ⟨j, zs, h1, h2⟩
    by_cases e : i = j
    · subst e
      exact ⟨i, xs, hi, h2⟩
    · rw [List.getElem?_set_ne e] at h1
      exact ⟨j, zs, h1, h2⟩
  · rintro ⟨j, zs, h1, h2⟩
    by_cases e : i = j
    · subst e
      have hl := (List.getElem?_eq_some_iff.mp hi).1
      exact ⟨i, ys, by rw [List.getElem?_set_self hl], h2⟩
    · exact ⟨j, zs, by rw [List.getElem?_set_ne e]; exact h1, h2⟩
/-- one's own list changes -/
theorem StR.putL (S : StR K mg R H0 σ H env) {i : Nat} {xs ys : List D} {p : Addr} {ws : List V} (hi : env[i]? = some (some (.l xs))) (hv : σ[i]? = some (some (.ref p))) (hw : Dvs K mg (fz R σ env H) ws ys) :
    StR K mg R H0 σ (upd H p (.lst ws)) (env.set i (some (.l ys))) ∧ Same (fz R σ env H) (fz R σ (env.set i (some (.l ys))) (upd H p (.lst ws))) := by
  have op : own σ env p := ⟨i, xs, hi, hv⟩
  have n0 : H0 p = none := S.new p op
  have sub : Same (fz R σ env H) (fz R σ (env.set i (some (.l ys))) (upd H p (.lst ws))) := fun a o h => by
    have na : ¬ (R a ∨ own σ env a) := fun z => by
      rw [show fz R σ env H a = none from hid_yes z] at h
      cases h
    have ne : a ≠ p := fun z => na (.inr (z ▸ op))
    have nb : ¬ (R a ∨ own σ (env.set i (some (.l ys))) a) := fun z => na (z.imp id (own_putL hi).mp)
    rw [show fz R σ env H a = H a from hid_no na] at h
    show hid _ _ a = some o
    rw [hid_no nb, upd_ne ne]
    exact h
  refine ⟨⟨fun a o h => ?_, fun a h => ?_, fun q h => S.dis q ((own_putL hi).mp h), one_set S.one (fun t z => by cases z; rfl), fun q h => S.new q ((own_putL hi).mp h), fun j k as bs q h1 h2 h3 h4 => ?_, fun j t h => ?_, by rw [List.length_set]; exact S.len⟩, sub⟩
  · rw [upd_ne (ne_of_none h n0)]
    exact S.ex a o h
  · by_cases z : a = p
    · rw [z, upd_same]
      intro z; cases z
    · rw [upd_ne z]
      exact S.res a h
  · have g : ∀ (j : Nat) (as : List D), (env.set i (some (T.l ys)))[j]? = some (some (T.l as)) → ∃ as, env[j]? = some (some (T.l as)) := fun j as h => by
      by_cases e : i = j
      · subst e
        exact ⟨xs, hi⟩
      · rw [List.getElem?_set_ne e] at h
        exact ⟨as, h⟩
    obtain ⟨as', h1⟩ := g j as h1
    obtain ⟨bs', h2⟩ := g k bs h2
    exact S.inj j k as' bs' q h1 h2 h3 h4
  · by_cases e : i = j
    · subst e
      have hl := (List.getElem?_eq_some_iff.mp hi).1
      rw [List.getElem?_set_self hl] at h
      have h := Option.some.inj (Option.some.inj h)
      subst h
      exact ⟨.ref p, hv, p, ws, rfl, upd_same, hw.mono sub⟩
    · rw [List.getElem?_set_ne e] at h
      obtain ⟨v, hv2, ht⟩ := S.slot j t h
      refine ⟨v, hv2, ?_⟩
      cases t with
      | d x => exact Dv.mono sub ht
      | l zs =>
        obtain ⟨p2, vs2, rfl, hp2, hs2⟩ := ht
        have ne : p2 ≠ p := fun z => e (S.inj i j xs zs p hi h hv (z ▸ hv2))
        exact ⟨p2, vs2, rfl, by rw [upd_ne ne]; exact hp2, hs2.mono sub⟩
      | ll xss =>
        obtain ⟨p2, qs, rfl, hp2, b1, b2, b3, b4, b5, b7, b8, b6⟩ := ht
        have nR : ∀ a, R a → a ≠ p := fun a h z => S.dis p op (z ▸ h)
        refine ⟨p2, qs, rfl, by rw [upd_ne (nR _ b1)]; exact hp2, b1, b2, b3, b4, b5, b7, b8, fun k q zs h1 h2 => ?_⟩
        obtain ⟨vs2, hq, hs2⟩ := b6 k q zs h1 h2
        exact ⟨vs2, by rw [upd_ne (nR _ (b2 q (List.mem_of_getElem? h1)))]; exact hq, hs2.mono sub⟩
      | p => exact ht
      | sl xs => exact SnL.mono (fun _ h => h) sub (fun a o r q => (upd_ne (fun z => S.dis p op (by rw [← z]; exact r))).trans q) ht
      | so c fs => exact SnO.mono (fun _ h => h) sub (fun a o r q => (upd_ne (fun z => S.dis p op (by rw [← z]; exact r))).trans q) ht
      | sd kvs => exact SnD.mono (fun _ h => h) sub (fun a o r q => (upd_ne (fun z => S.dis p op (by rw [← z]; exact r))).trans q) ht
/-- one's own list is let go: it stays as it is from here on -/
theorem StR.freeze (S : StR K mg R H0 σ H env) {i : Nat} {xs : List D} (hi : env[i]? = some (some (.l xs))) : StR K mg R H0 σ H (env.set i (some (.d (.lst xs)))) ∧ Same (fz R σ env H) (fz R σ (env.set i (some (.d (.lst xs)))) H) := by
  have g : ∀ {q}, own σ (env.set i (some (.d (.lst xs)))) q → own σ env q := by
    rintro q ⟨j, zs, h1, h2⟩
    by_cases e : i = j
    · subst e
      have hl := (List.getElem?_eq_some_iff.mp hi).1
      rw [List.getElem?_set_self hl] at h1
      have h1 := Option.some.inj (Option.some.inj h1)
      cases h1
    · rw [List.getElem?_set_ne e] at h1
      exact ⟨j, zs, h1, h2⟩
  have sub : Same (fz R σ env H) (fz R σ (env.set i (some (.d (.lst xs)))) H) := hid_sub fun a h => h.imp id g
  refine ⟨⟨S.ex, S.res, fun q h => S.dis q (g h), one_set S.one (fun t z => by cases z; rfl), fun q h => S.new q (g h), fun j k as bs q h1 h2 h3 h4 => ?_, fun j t h => ?_, by rw [List.length_set]; exact S.len⟩, sub⟩
  · have g : ∀ (j : Nat) (as : List D), (env.set i (some (T.d (.lst xs))))[j]? = some (some (T.l as)) → env[j]? = some (some (T.l as)) := fun j as h => by
      by_cases e : i = j
      · subst e
        have hl := (List.getElem?_eq_some_iff.mp hi).1
        rw [List.getElem?_set_self hl] at h
        have h := Option.some.inj (Option.some.inj h)
        cases h
      · rw [List.getElem?_set_ne e] at h
        exact h
    exact S.inj j k as bs q (g j as h1) (g k bs h2) h3 h4
  · by_cases e : i = j
    · subst e
      have hl := (List.getElem?_eq_some_iff.mp hi).1
      rw [List.getElem?_set_self hl] at h
      have h := Option.some.inj (Option.some.inj h)
      subst h
      obtain ⟨v, hv, p, vs, rfl, hp, hs⟩ := S.slot i _ hi
      refine ⟨.ref p, hv, Dv.lst ?_ (hs.mono sub)⟩
      have nb : ¬ (R p ∨ own σ (env.set i (some (.d (.lst xs)))) p) := fun z => by
        rcases z with z | ⟨k, zs, h1, h2⟩
        · exact S.dis p ⟨i, xs, hi, hv⟩ z
        · by_cases e : i = k
          · subst e
            rw [List.getElem?_set_self hl] at h1
            have h1 := Option.some.inj (Option.some.inj h1)
            cases h1
          · rw [List.getElem?_set_ne e] at h1
            exact e (S.inj i k xs zs p hi h1 hv h2)
      exact (hid_no nb).trans hp
    · rw [List.getElem?_set_ne e] at h
      obtain ⟨v, hv, ht⟩ := S.slot j t h
      exact ⟨v, hv, ht.mono sub (Same.refl _)⟩

/-! ### assignments -/
def asgF (i : Nat) (fa : En → Rs D) : En → Rs Fl := withE fa fun d env => .ok (.next (env.set i (some (.d d))))
def asgL (i : Nat) (fa : En → Rs D) : En → Rs Fl := withE fa fun d env => match d with
  | .lst xs => .ok (.next (env.set i (some (.l xs))))
  | _ => .bad
theorem prs_asg' {t : TE} {i : Nat} (h : PS X s (tAsg t (gName i))) (ht : ∀ σ H Q, rdP X.K X.mg W .fz fa σ H Q → t σ H Q) : PRS X W nw s (asgF i fa) := ps_imp h fun Dd σ H ⟨R0, R, H0, env, sb, S, q⟩ =>
  ht _ _ _ (rd_with (ma := .fz) sb S (Same.refl _) q fun v d H1 e1 S1 r1 q1 => q1 _ _ _ sb (S1.setD r1) fz_setD)
theorem prs_asgL' {t : TE} {i : Nat} (h : PS X s (tAsg t (gName i))) (ht : ∀ σ H Q, rdP X.K X.mg W .new fa σ H Q → t σ H Q) : PRS X W nw s (asgL i fa) := ps_imp h fun Dd σ H ⟨R0, R, H0, env, sb, S, q⟩ =>
  ht _ _ _ (by
    refine ⟨R, H0, env, S, ?_⟩
    unfold asgL withE at q
    cases ea : fa env with
    | exc x =>
      rw [ea] at q
      exact fun cls dd H' e xw => q cls dd R σ H' sb (S.up e) (fz_same e) xw
    | bad => rw [ea] at q; exact q
    | ok d =>
      rw [ea] at q
      intro v H1 e1 r1
      obtain ⟨p, vs, xs, G, rfl, rfl, hn, hp, hF, hG, hGp, hs⟩ := r1
      obtain ⟨S2, sub⟩ := StR.setL (i := i) S e1 hn hp hG hGp hs
      exact q _ _ _ sb S2 (sub _ (fz_same e1) (by
        cases z : fz R σ env H p with
        | none => rfl
        | some o => exact absurd (hid_le _ _ z) (by rw [hn]; intro z; cases z))))
theorem prs_asg {i : Nat} (h : PS X s (tAsg (rdP X.K X.mg W .fz fa) (gName i))) : PRS X W nw s (asgF i fa) := prs_asg' h fun _ _ _ q => q
theorem prs_asgL {i : Nat} (h : PS X s (tAsg (rdP X.K X.mg W .new fa) (gName i))) : PRS X W nw s (asgL i fa) := prs_asgL' h fun _ _ _ q => q
/-- a list of one's own let go, ahead of the next statement -/
def frzS (i : Nat) : En → Rs Fl := fun env => match env[i]? with
  | some (some (.l xs)) => .ok (.next (env.set i (some (.d (.lst xs)))))
  | _ => .bad
theorem prb_frz (i : Nat) (h : PRB X W nw ss g) : PRB X W nw ss (seqS (frzS i) g) := pss_imp h fun Dd σ H ⟨R0, R, H0, env, sb, S, q⟩ => by
  unfold seqS frzS at q
  split at q
  · rename_i xs hi
    obtain ⟨S2, sub⟩ := S.freeze hi
    rw [Rs.bind_ok] at q
    exact ⟨R0, R, H0, _, sb, S2, q.up sub⟩
  · exact q.elim

/-! ### a list of one's own, changed -/
/-- a statement upon the list of one's own in slot i -/
def withL (i : Nat) (k : List D → En → Rs Fl) : En → Rs Fl := fun env => match env[i]? with
  | some (some (.l xs)) => k xs env
  | _ => .bad
def appF (i : Nat) (fa : En → Rs D) : En → Rs Fl := withL i fun xs => withE fa fun d env => if xs.length < SL then .ok (.next (env.set i (some (.l (xs ++ [d]))))) else .bad
theorem StR.lst (S : StR K mg R H0 σ H env) {i : Nat} {xs : List D} (h : env[i]? = some (some (.l xs))) : ∃ p vs, σ[i]? = some (some (.ref p)) ∧ H p = some (.lst vs) ∧ Dvs K mg (fz R σ env H) vs xs := by
  obtain ⟨v, hv, p, vs, rfl, hp, hs⟩ := S.slot i _ h
  exact ⟨p, vs, hv, hp, hs⟩
theorem lt_sl {n : Nat} (h : n < SL) : n < sizeLine := by rw [sizeLine_eq]; exact h
theorem prs_app {i : Nat} (h : PS X s (tDrop (tBM X.K "list" rAppend (tVar i) (tCons (rdP X.K X.mg W .fz fa) tNil)))) : PRS X W nw s (appF i fa) := ps_imp h fun Dd σ H ⟨R0, R, H0, env, sb, S, q⟩ => by
  unfold appF withL at q
  split at q
  · rename_i xs hi
    obtain ⟨p, vs, hv, hp, hs⟩ := S.lst hi
    refine ⟨.ref p, hv, .inl ⟨rfl, vs, .inl (.inl hp)⟩, ?_⟩
    refine rd_with (ma := .fz) sb S (Same.refl _) q fun v d H1 e1 S1 r1 q1 => ?_
    split at q1
    · rename_i hl
      obtain ⟨p', vs', hv', hp', hs'⟩ := S1.lst hi
      rw [hv] at hv'
      have z := Option.some.inj (Option.some.inj hv')
      injection z with z
      subst z
      obtain ⟨S2, sub⟩ := S1.putL hi hv (hs'.app (.cons r1 .nil))
      exact ⟨p, vs', v, rfl, rfl, hp', lt_sl (by rw [hs'.len]; exact hl), q1 _ _ _ sb S2 sub⟩
    · exact q1.elim
  · exact q.elim
/-- x.pop(i), as a statement -/
def popF (i : Nat) (fa : En → Rs D) : En → Rs Fl := withL i fun xs => withE fa fun d env => match d with
  | .int k => if -(2 ^ 63) ≤ k ∧ k < 2 ^ 63 then match seqIndex? k xs.length with
    | some j => if j < xs.length then .ok (.next (env.set i (some (.l (xs.eraseIdx j))))) else .bad
    | none => .bad
    else .bad
  | _ => .bad
theorem prs_pop {i : Nat} (h : PS X s (tDrop (tBM X.K "list" rPopAt (tVar i) (tCons (rdP X.K X.mg W .fz fa) tNil)))) : PRS X W nw s (popF i fa) := ps_imp h fun Dd σ H ⟨R0, R, H0, env, sb, S, q⟩ => by
  unfold popF withL at q
  split at q
  · rename_i xs hi
    obtain ⟨p, vs, hv, hp, hs⟩ := S.lst hi
    refine ⟨.ref p, hv, .inl ⟨rfl, vs, .inl (.inl hp)⟩, ?_⟩
    refine rd_with (ma := .fz) sb S (Same.refl _) q fun v d H1 e1 S1 r1 q1 => ?_
    cases d <;> try exact q1.elim
    rename_i k
    dsimp only at q1
    split at q1
    · rename_i hk
      split at q1
      · rename_i j hj
        split at q1
        · rename_i hl
          obtain ⟨p', vs', hv', hp', hs'⟩ := S1.lst hi
          rw [hv] at hv'
          have z := Option.some.inj (Option.some.inj hv')
          injection z with z
          subst z
          obtain ⟨S2, sub⟩ := S1.putL hi hv (hs'.erase j)
          have hl' : j < vs'.length := by rw [hs'.len]; exact hl
          have e := Rl.int (m := .fz) (H := H) (H1 := H1) r1
          subst e
          exact ⟨p, vs', k, j, vs'[j], rfl, rfl, hp', hk.1, hk.2, by rw [hs'.len]; exact hj, List.getElem?_eq_getElem hl', q1 _ _ _ sb S2 sub⟩
        · exact q1.elim
      · exact q1.elim
    · exact q1.elim
  · exact q.elim
/-- y.append(x.pop(i)) -/
def appPopF (y i : Nat) (fa : En → Rs D) : En → Rs Fl := withL y fun ys => withL i fun xs => withE fa fun d env => match d with
  | .int k => if -(2 ^ 63) ≤ k ∧ k < 2 ^ 63 ∧ ys.length < SL ∧ y ≠ i then match seqIndex? k xs.length with
    | some j => match xs[j]? with
      | some x => .ok (.next ((env.set i (some (.l (xs.eraseIdx j)))).set y (some (.l (ys ++ [x])))))
      | none => .bad
    | none => .bad
    else .bad
  | _ => .bad
theorem prs_appPop {y i : Nat} (h : PS X s (tDrop (tBM X.K "list" rAppend (tVar y) (tCons (tBM X.K "list" rPopAt (tVar i) (tCons (rdP X.K X.mg W .fz fa) tNil)) tNil)))) : PRS X W nw s (appPopF y i fa) := ps_imp h fun Dd σ H ⟨R0, R, H0, env, sb, S, q⟩ => by
  unfold appPopF withL at q
  split at q
  · rename_i ys hy
    dsimp only at q
    split at q
    · rename_i xs hi
      obtain ⟨p, vs, hv, hp, hs⟩ := S.lst hi
      obtain ⟨p2, vs2, hv2, hp2, hs2⟩ := S.lst hy
      refine ⟨.ref p2, hv2, .inl ⟨rfl, vs2, .inl (.inl hp2)⟩, .ref p, hv, .inl ⟨rfl, vs, .inl (.inl hp)⟩, ?_⟩
      refine rd_with (ma := .fz) sb S (Same.refl _) q fun v d H1 e1 S1 r1 q1 => ?_
      cases d <;> try exact q1.elim
      rename_i k
      dsimp only at q1
      split at q1
      · rename_i hk
        split at q1
        · rename_i j hj
          split at q1
          · rename_i x hx
            obtain ⟨p', vs', hv', hp', hs'⟩ := S1.lst hi
            rw [hv] at hv'
            have z := Option.some.inj (Option.some.inj hv')
            injection z with z
            subst z
            obtain ⟨w, hw, hwx⟩ := hs'.get hx
            obtain ⟨S2, sub⟩ := S1.putL hi hv (hs'.erase j)
            have hy2 : (env.set i (some (T.l (xs.eraseIdx j))))[y]? = some (some (T.l ys)) := by rw [List.getElem?_set_ne (Ne.symm hk.2.2.2)]; exact hy
            obtain ⟨p3, vs3, hv3, hp3, hs3⟩ := S2.lst hy2
            rw [hv2] at hv3
            have z := Option.some.inj (Option.some.inj hv3)
            injection z with z
            subst z
            obtain ⟨S3, sub3⟩ := S2.putL hy2 hv2 (hs3.app (.cons (hwx.mono sub) .nil))
            have e := Rl.int (m := .fz) (H := H) (H1 := H1) r1
            subst e
            refine ⟨p, vs', k, j, w, rfl, rfl, hp', hk.1, hk.2.1, by rw [hs'.len]; exact hj, hw, ?_⟩
            exact ⟨p2, vs3, w, rfl, rfl, hp3, lt_sl (by rw [hs3.len]; exact hk.2.2.1), q1 _ _ _ sb S3 (sub.trans sub3)⟩
          · exact q1.elim
        · exact q1.elim
      · exact q1.elim
    · exact q.elim
  · exact q.elim
/-- x[i] = e -/
def setF (i : Nat) (fi fa : En → Rs D) : En → Rs Fl := withE fa fun d => withL i fun xs => withE fi fun k env => match k with
  | .int k => match ixN xs.length k with
    | some j => .ok (.next (env.set i (some (.l (xs.set j d)))))
    | none => .bad
  | _ => .bad
theorem prs_set {i : Nat} {fi : En → Rs D} (h : PS X s (tAsg (rdP X.K X.mg W .fz fa) (gSub (tVar i) (rdP X.K X.mg W .fz fi) rSetL))) : PRS X W nw s (setF i fi fa) := ps_imp h fun Dd σ H ⟨R0, R, H0, env, sb, S, q⟩ => by
  unfold setF at q
  refine rd_with (ma := .fz) sb S (Same.refl _) q fun v d H1 e1 S1 r1 q1 => ?_
  unfold withL at q1
  split at q1
  · rename_i xs hi
    obtain ⟨p, vs, hv, hp, hs⟩ := S1.lst hi
    refine ⟨.ref p, hv, ?_⟩
    refine rd_with (ma := .fz) sb S1 (Same.refl _) q1 fun u k H2 e2 S2 r2 q2 => ?_
    cases k <;> try exact q2.elim
    rename_i k
    dsimp only at q2
    split at q2
    · rename_i j hj
      obtain ⟨p', vs', hv', hp', hs'⟩ := S2.lst hi
      rw [hv] at hv'
      have z := Option.some.inj (Option.some.inj hv')
      injection z with z
      subst z
      obtain ⟨S3, sub⟩ := S2.putL hi hv (hs'.set j (Dv.mono (fz_same e2) r1))
      have e := Rl.int (m := .fz) (H := H) (H1 := H2) r2
      subst e
      exact ⟨p, vs', k, j, rfl, rfl, hp', by rw [hs'.len]; exact hj, q2 _ _ _ sb S3 sub⟩
    · exact q2.elim
  · exact q1.elim
end
end Orn

set_option linter.all false
set_option maxRecDepth 100000
set_option maxHeartbeats 4000000
namespace Orn
open L2 PySem PySem.Spec PyProof.Rows
section
variable {X : Cx} {W : L2.WX} {m ma mb : Md} {fa fb fc f : En → Rs D} {a b c e : Expr} {es : List Expr} {fs : En → Rs (List D)} {pos : Pos} {K : PySem.W.Frag} {mg : Str → Option Value}
variable {nw : Bool} {s : Stmt} {ss : List Stmt} {g g1 g2 : En → Rs Fl} {ga gb : En → Rs Bool} {R : Addr → Prop} {H0 : HZ} {H H' : Hp} {σ : L2.St} {env : En}
/-! ### targets -/
/-- where a value goes: names, tuples of targets -/
inductive Tg where
  | nm (i : Nat) | tp (ts : List Tg)
mutual
def Tg.put : Tg → D → En → Rs En
  | .nm i, d, env => .ok (env.set i (some (.d d)))
  | .tp ts, d, env => match d with
    | .tup xs => Tg.puts ts xs env
    | .lst xs => Tg.puts ts xs env
    | .rol xs => Tg.puts ts xs env
    | _ => .bad
def Tg.puts : List Tg → List D → En → Rs En
  | [], [], env => .ok env
  | t :: ts, x :: xs, env => Tg.put t x env >>= fun env' => Tg.puts ts xs env'
  | _, _, _ => .bad
end
mutual
def Tg.slots : Tg → List Nat
  | .nm i => [i]
  | .tp ts => Tg.slotss ts
def Tg.slotss : List Tg → List Nat
  | [] => []
  | t :: ts => Tg.slots t ++ Tg.slotss ts
end
/-- a target's reading: js the slots that it may write -/
def rdG (K : PySem.W.Frag) (mg : Str → Option Value) (js : List Nat) (t : D → En → Rs En) : TG := fun v σ H Q => ∃ R H0 env d env', StR K mg R H0 σ H env ∧ Dv K mg (fz R σ env H) v d ∧ t d env = .ok env' ∧
  ∀ σ', StR K mg R H0 σ' H env' → Same (fz R σ env H) (fz R σ' env' H) → (∀ j, j ∉ js → σ'[j]? = σ[j]?) → σ'.length = σ.length → Q σ' H
def rdGs (K : PySem.W.Frag) (mg : Str → Option Value) (js : List Nat) (t : List D → En → Rs En) : TGs := fun vs σ H Q => ∃ R H0 env ds env', StR K mg R H0 σ H env ∧ Dvs K mg (fz R σ env H) vs ds ∧ t ds env = .ok env' ∧
  ∀ σ', StR K mg R H0 σ' H env' → Same (fz R σ env H) (fz R σ' env' H) → (∀ j, j ∉ js → σ'[j]? = σ[j]?) → σ'.length = σ.length → Q σ' H
abbrev PRG (X : Cx) (a : Expr) (t : Tg) : Prop := PG X a (rdG X.K X.mg t.slots t.put)
abbrev PRGs (X : Cx) (as : List Expr) (ts : List Tg) : Prop := PGs X as (rdGs X.K X.mg (Tg.slotss ts) (Tg.puts ts))
theorem pg_imp {a : Expr} {t t' : TG} (h : PG X a t) (i : ∀ v σ H Q, t' v σ H Q → t v σ H Q) : PG X a t' := ⟨fun pins s σ H v u Q I r q => h.run pins s σ H v u Q I r (i v σ H Q q)⟩
theorem pgs_imp {as : List Expr} {t t' : TGs} (h : PGs X as t) (i : ∀ v σ H Q, t' v σ H Q → t v σ H Q) : PGs X as t' := ⟨fun pins s σ H v u Q I r q => h.run pins s σ H v u Q I r (i v σ H Q q)⟩
theorem prg_nm {i : Nat} (h : PG X a (gName i)) : PRG X a (.nm i) := pg_imp h fun v σ H Q ⟨R, H0, env, d, env', S, hv, ht, q⟩ => by
  unfold Tg.put at ht
  injection ht with ht
  subst ht
  exact q _ (S.setD hv) fz_setD (fun j hj => by
    unfold Tg.slots at hj
    rw [List.getElem?_set_ne (fun z => hj (by rw [z]; exact List.mem_cons_self))]) (by rw [List.length_set])
theorem prgs_nil : PRGs X [] [] := pgs_imp pgs_nil fun vs σ H Q ⟨R, H0, env, d, env', S, hv, ht, q⟩ => by
  cases d with
  | nil =>
    unfold Tg.puts at ht
    injection ht with ht
    subst ht
    cases hv
    exact ⟨rfl, q _ S (Same.refl _) (fun _ _ => rfl) rfl⟩
  | cons x xs => unfold Tg.puts at ht; cases ht
theorem prgs_cons {as : List Expr} {t : Tg} {ts : List Tg} (h1 : PRG X a t) (h2 : PRGs X as ts) (hs : (assignEach (a :: as) X.env).map (·.2) = assign a X.env :: (assignEach as X.env).map (·.2) := by rfl) : PRGs X (a :: as) (t :: ts) :=
  pgs_imp (pgs_cons h1 h2 hs) fun vs σ H Q ⟨R, H0, env, d, env', S, hv, ht, q⟩ => by
  cases d with
  | nil => unfold Tg.puts at ht; cases ht
  | cons x xs =>
    unfold Tg.puts at ht
    cases e1 : Tg.put t x env with
    | exc z => rw [e1] at ht; cases ht
    | bad => rw [e1] at ht; cases ht
    | ok env1 =>
      rw [e1, Rs.bind_ok] at ht
      cases hv with
      | cons h r =>
        refine ⟨_, _, rfl, R, H0, env, x, env1, S, h, e1, fun σ1 S1 f1 n1 l1 => ?_⟩
        refine ⟨R, H0, env1, xs, env', S1, r.mono f1, ht, fun σ2 S2 f2 n2 l2 => ?_⟩
        refine q σ2 S2 (f1.trans f2) (fun j hj => ?_) (l2.trans l1)
        unfold Tg.slotss at hj
        rw [n2 j (fun z => hj (List.mem_append_right _ z)), n1 j (fun z => hj (List.mem_append_left _ z))]
theorem puts_len : ∀ (ts : List Tg) (xs : List D) (env env' : En), Tg.puts ts xs env = .ok env' → xs.length = ts.length
  | [], [], _, _, _ => rfl
  | [], _ :: _, _, _, h => by unfold Tg.puts at h; cases h
  | _ :: _, [], _, _, h => by unfold Tg.puts at h; cases h
  | t :: ts, x :: xs, env, env', h => by
    unfold Tg.puts at h
    cases e1 : Tg.put t x env with
    | exc z => rw [e1] at h; cases h
    | bad => rw [e1] at h; cases h
    | ok env1 =>
      rw [e1, Rs.bind_ok] at h
      rw [List.length_cons, List.length_cons, puts_len ts xs _ _ h]
theorem pg_or {a : Expr} {t t' : TG} (h : PG X a t) (h' : PG X a t') : PG X a (fun v σ H Q => t v σ H Q ∨ t' v σ H Q) := ⟨fun pins s σ H v u Q I r q => q.elim (h.run pins s σ H v u Q I r) (h'.run pins s σ H v u Q I r)⟩
theorem prg_tp {as : List Expr} {ts : List Tg} {k : Nat} (hc : X.calm = true) (h : PRGs X as ts) (hn : (assignEach as X.env).length = ts.length := by rfl) (hst : (assignEach as X.env).findIdx? (·.1) = none := by rfl) : PRG X (.Tuple as k pos) (.tp ts) :=
  pg_imp (pg_or (pg_tup (pos := pos) (k := k) hc h hn hst) (pg_unl (pos := pos) (k := k) hc h hn hst)) fun v σ H Q ⟨R, H0, env, d, env', S, hv, ht, q⟩ => by
  unfold Tg.put at ht
  cases d <;> try (cases ht; done)
  · rename_i xs
    dsimp only at ht
    obtain ⟨p, vs, rfl, hp, hs⟩ := hv.lst_of
    exact .inr ⟨p, vs, rfl, .inl (.inl (hid_le _ _ hp)), by rw [hs.len]; exact puts_len _ _ _ _ ht, R, H0, env, xs, env', S, hs, ht, q⟩
  · rename_i xs
    dsimp only at ht
    obtain ⟨p, vs, rfl, hp, hs⟩ := hv.rol_of
    exact .inr ⟨p, vs, rfl, hid_le.seq hp, by rw [hs.len]; exact puts_len _ _ _ _ ht, R, H0, env, xs, env', S, hs, ht, q⟩
  · rename_i xs
    dsimp only at ht
    obtain ⟨p, vs, rfl, hp, hs⟩ := hv.tup_of
    exact .inl ⟨p, vs, rfl, same_t hid_le hp, by rw [hs.len]; exact puts_len _ _ _ _ ht, R, H0, env, xs, env', S, hs, ht, q⟩
/-- a, b = e -/
def unpF (t : Tg) (fa : En → Rs D) : En → Rs Fl := withE fa fun d env => match t.put d env with
  | .ok env' => .ok (.next env')
  | _ => .bad
theorem prs_unp {t : Tg} (h : PS X s (tAsg (rdP X.K X.mg W .fz fa) (rdG X.K X.mg t.slots t.put))) : PRS X W nw s (unpF t fa) := ps_imp h fun Dd σ H ⟨R0, R, H0, env, sb, S, q⟩ => by
  refine rd_with (ma := .fz) sb S (Same.refl _) q fun v d H1 e1 S1 r1 q1 => ?_
  split at q1
  · rename_i env' he
    exact ⟨R, H0, env, d, env', S1, r1, he, fun σ' S' f _ _ => q1 R σ' H1 sb S' f⟩
  · exact q1.elim

/-! ### for -/
def loopF (t : D → En → Rs En) (g : En → Rs Fl) : List D → En → Rs Fl
  | [], env => .ok (.next env)
  | x :: xs, env => match t x env with
    | .ok env1 => seqS g (loopF t g xs) env1
    | _ => .bad
def forF (t : Tg) (g : En → Rs Fl) (fa : En → Rs D) : En → Rs Fl := withE fa fun d => match itemsD d with
  | some xs => loopF t.put g xs
  | none => fun _ => .bad
/-- one turn and the rest -/
def LoopAt (K : PySem.W.Frag) (mg : Str → Option Value) (W : L2.WX) (nw : Bool) (R0 : Addr → Prop) (H0 : HZ) (Fs : Hp) (Dd : Ends) (t : D → En → Rs En) (g : En → Rs Fl) (xs : List D) (i : Nat) (σ : L2.St) (H : Hp) : Prop :=
  ∃ R env, (∀ a, R0 a → R a ∧ H0 a ≠ none) ∧ StR K mg R H0 σ H env ∧ Same Fs (fz R σ env H) ∧ PostS K mg W nw R0 H0 Fs Dd (loopF t g (xs.drop i) env)
theorem loop_turn {R0 : Addr → Prop} {H0 : HZ} {Fs : Hp} {Dd : Ends} {t : D → En → Rs En} {js : List Nat} {xs : List D} {i : Nat} {x : D} {v : V} (hx : xs[i]? = some x) (L : LoopAt K mg W nw R0 H0 Fs Dd t g xs i σ H) (hv : Dv K mg Fs v x) :
    rdG K mg js t v σ H fun σ2 H2 => rdS K mg W nw g { Dd with nx := LoopAt K mg W nw R0 H0 Fs Dd t g xs (i + 1), ct := LoopAt K mg W nw R0 H0 Fs Dd t g xs (i + 1), bk := Dd.nx } σ2 H2 := by
  obtain ⟨R, env, sb, S, f, q⟩ := L
  have hd : xs.drop i = x :: xs.drop (i + 1) := by
    obtain ⟨hl, e⟩ := List.getElem?_eq_some_iff.mp hx
    rw [List.drop_eq_getElem_cons hl, e]
  rw [hd] at q
  unfold loopF at q
  cases e1 : t x env with
  | exc z => rw [e1] at q; exact q.elim
  | bad => rw [e1] at q; exact q.elim
  | ok env1 =>
    rw [e1] at q
    dsimp only at q
    refine ⟨R, H0, env, x, env1, S, hv.mono f, e1, fun σ2 S2 f2 _ _ => ⟨R0, R, H0, env1, sb, S2, ?_⟩⟩
    unfold seqS at q
    cases eg : g env1 with
    | exc z => rw [eg] at q; exact q.elim
    | bad => rw [eg] at q; exact q.elim
    | ok r =>
      rw [eg, Rs.bind_ok] at q
      cases r with
      | next env2 => exact fun R3 σ3 H3 sb3 S3 f3 => ⟨R3, env2, sb3, S3, (f.trans f2).trans f3, q⟩
      | ret d => exact q
      | raise ex env2 => exact fun cls dd R3 σ3 H3 sb3 S3 f3 xw => q cls dd R3 σ3 H3 sb3 S3 ((f.trans f2).trans f3) xw
theorem loop_end {R0 : Addr → Prop} {H0 : HZ} {Fs : Hp} {Dd : Ends} {t : D → En → Rs En} {xs : List D} (L : LoopAt K mg W nw R0 H0 Fs Dd t g xs xs.length σ H) : Dd.nx σ H := by
  obtain ⟨R, env, sb, S, f, q⟩ := L
  rw [List.drop_length] at q
  exact q R σ H sb S f
theorem pi_either {tg iter : Expr} {wi wi' : TI} (h : PI X tg iter wi) (h' : PI X tg iter wi') : PI X tg iter (fun σ H R => wi σ H R ∨ wi' σ H R) := ⟨fun pins s σ H R I q => q.elim (h.run pins s σ H R I) (h'.run pins s σ H R I)⟩
theorem prs_for {t : Tg} {tg iter : Expr} {body : List Stmt} (hp : PassesOwn (model X.prog X.w) X.A X.env X.xe) (hc : X.calm = true) (ha : PR X W .fz iter fa) (hg : PRG X tg t) (hb : PRB X W nw body g)
    (hs : ∀ x, foldedSetIterable iter X.env x = pure x := by intro _; rfl) : PRS X W nw (.For tg iter body [] pos) (forF t g fa) :=
  ps_imp (ps_for (pos := pos) hp hc (pi_either (pi_list ha) (pi_tup ha)) hg hb hs) fun Dd σ H ⟨R0, R, H0, env, sb, S, q⟩ => by
  show (iList X.K (rdP X.K X.mg W .fz fa) σ H _) ∨ (iTup X.K (rdP X.K X.mg W .fz fa) σ H _)
  have q0 := q
  unfold forF withE at q0
  cases ea : fa env with
  | exc x =>
    rw [ea] at q0
    left
    refine ⟨R, H0, env, S, ?_⟩
    rw [ea]
    exact fun cls dd H' e xw => q0 cls dd R σ H' sb (S.up e) (fz_same e) xw
  | bad => rw [ea] at q0; exact q0.elim
  | ok d =>
    rw [ea] at q0
    dsimp only at q0
    cases ei : itemsD d with
    | none => rw [ei] at q0; exact q0.elim
    | some xs =>
      have q2 : ∀ H1, Same H H1 → PostS X.K X.mg W nw R0 H0 (fz R σ env H1) Dd (loopF t.put g xs env) := fun H1 e1 => by
        rw [ei] at q0
        exact q0.up (fz_same e1)
      cases d <;> simp only [itemsD, reduceCtorEq, Option.some.injEq] at ei
      · subst ei
        left
        refine ⟨R, H0, env, S, ?_⟩
        rw [ea]
        intro v H1 e1 r1
        obtain ⟨p, vs, rfl, hp, hs⟩ := Dv.lst_of r1
        refine ⟨p, rfl, ⟨vs, .inl (.inl (hid_le _ _ hp))⟩, for_list (K := X.K) (a := p) (xs := vs) (LoopAt X.K X.mg W nw R0 H0 (fz R σ env H1) Dd t.put g _) ⟨R, env, sb, S.up e1, Same.refl _, q2 H1 e1⟩ (fun i σ' H' _ L => ?_) (fun i x σ' H' hx L => ?_) (fun σ' H' L => ?_)⟩
        · obtain ⟨R', env', sb', S', f, _⟩ := L
          exact .inl (.inl (hid_le _ _ (f _ _ hp)))
        · obtain ⟨d, hd, hv⟩ := hs.getV hx
          exact loop_turn hd L hv
        · rw [hs.len] at L
          exact loop_end L
      · subst ei
        left
        refine ⟨R, H0, env, S, ?_⟩
        rw [ea]
        intro v H1 e1 r1
        obtain ⟨p, vs, rfl, hp, hs⟩ := Dv.rol_of r1
        refine ⟨p, rfl, ⟨vs, hid_le.seq hp⟩, for_list (K := X.K) (a := p) (xs := vs) (LoopAt X.K X.mg W nw R0 H0 (fz R σ env H1) Dd t.put g _) ⟨R, env, sb, S.up e1, Same.refl _, q2 H1 e1⟩ (fun i σ' H' _ L => ?_) (fun i x σ' H' hx L => ?_) (fun σ' H' L => ?_)⟩
        · obtain ⟨R', env', sb', S', f, _⟩ := L
          exact hid_le.seq (f.seq hp)
        · obtain ⟨d, hd, hv⟩ := hs.getV hx
          exact loop_turn hd L hv
        · rw [hs.len] at L
          exact loop_end L
      · subst ei
        right
        refine ⟨R, H0, env, S, ?_⟩
        rw [ea]
        intro v H1 e1 r1
        obtain ⟨p, vs, rfl, hp, hs⟩ := Dv.tup_of r1
        refine ⟨p, rfl, ⟨vs, same_t hid_le hp⟩, for_tup (K := X.K) (a := p) (xs := vs) (LoopAt X.K X.mg W nw R0 H0 (fz R σ env H1) Dd t.put g _) ⟨R, env, sb, S.up e1, Same.refl _, q2 H1 e1⟩ (fun i σ' H' _ L => ?_) (fun i x σ' H' hx L => ?_) (fun σ' H' L => ?_)⟩
        · obtain ⟨R', env', sb', S', f, _⟩ := L
          exact same_t hid_le (same_g f hp)
        · obtain ⟨d, hd, hv⟩ := hs.getV hx
          exact loop_turn hd L hv
        · rw [hs.len] at L
          exact loop_end L
/-- for x in range(n), range(a, b) -/
def rangeL (lo : Int) (n : Nat) : List D := (List.range n).map fun (i : Nat) => D.int (lo + (i : Int))
theorem rangeL_at {lo : Int} {n i : Nat} (h : i < n) : (rangeL lo n)[i]? = some (.int (lo + (i : Int))) := by
  unfold rangeL
  rw [List.getElem?_map, List.getElem?_range h]
  rfl
theorem rangeL_len {lo : Int} {n : Nat} : (rangeL lo n).length = n := by
  unfold rangeL
  rw [List.length_map, List.length_range]
def rg1 : List D → Rs (List D)
  | [.int j] => if -(2 ^ 62) ≤ j ∧ j < 2 ^ 62 then .ok (rangeL 0 j.toNat) else .bad
  | _ => .bad
def rg2 : List D → Rs (List D)
  | [.int i, .int j] => if -(2 ^ 62) ≤ i ∧ i < 2 ^ 62 ∧ -(2 ^ 62) ≤ j ∧ j < 2 ^ 62 then .ok (rangeL i (j - i).toNat) else .bad
  | _ => .bad
def withA (fs : En → Rs (List D)) (k : List D → En → Rs Fl) : En → Rs Fl := fun env => match fs env with
  | .ok d => k d env
  | .exc e => .ok (.raise e env)
  | .bad => .bad
def forR (rg : List D → Rs (List D)) (t : Tg) (g : En → Rs Fl) (fs : En → Rs (List D)) : En → Rs Fl := withA fs fun ds env => match rg ds with
  | .ok xs => loopF t.put g xs env
  | _ => .bad
theorem rdA_with {R0 R : Addr → Prop} {H0 : HZ} {H : Hp} {σ : L2.St} {env : En} {Dd : Ends} {k : List D → En → Rs Fl} {r : List V → Hp → Prop} (sb : ∀ a, R0 a → R a ∧ H0 a ≠ none) (S : StR K mg R H0 σ H env) (q : PostS K mg W nw R0 H0 (fz R σ env H) Dd (withA fs k env))
    (h : ∀ vs ds H1, Same H H1 → StR K mg R H0 σ H1 env → Dvs K mg (fz R σ env H1) vs ds → PostS K mg W nw R0 H0 (fz R σ env H1) Dd (k ds env) → r vs H1) : rdA K mg W fs σ H r := by
  refine ⟨R, H0, env, S, ?_⟩
  unfold withA at q
  cases ea : fs env with
  | exc x =>
    rw [ea] at q
    exact fun cls dd H' e xw => q cls dd R σ H' sb (S.up e) (fz_same e) xw
  | bad => rw [ea] at q; exact q
  | ok d =>
    rw [ea] at q
    exact fun v H1 e1 r1 => h v d H1 e1 (S.up e1) r1 (q.up (fz_same e1))
theorem prs_forR1 {t : Tg} {tg a : Expr} {body : List Stmt} {p pos2 : Pos} (hp : PassesOwn (model X.prog X.w) X.A X.env X.xe) (hc : X.calm = true) (gl : Gl X "range") (hm : X.mg "range" = none) (ha : PRA X W [a] fs) (hg : PRG X tg t) (hb : PRB X W nw body g)
    (hs1 : starEach [a] X.env = [(false, eval a X.env)] := by rfl)
    (hs : ∀ x, foldedSetIterable (.Call (.Name "range" p) [a] [] pos2) X.env x = pure x := by intro _; rfl) : PRS X W nw (.For tg (.Call (.Name "range" p) [a] [] pos2) body [] pos) (forR rg1 t g fs) :=
  ps_imp (ps_for (pos := pos) hp hc (pi_range1 (p := p) (pos := pos2) gl hm ha hs1) hg hb hs) fun Dd σ H ⟨R0, R, H0, env, sb, S, q⟩ => by
  refine rdA_with sb S q fun vs ds H1 e1 S1 r1 q1 => ?_
  unfold rg1 at q1
  split at q1
  · rename_i xs hxs
    split at hxs
    · rename_i j
      split at hxs
      · rename_i hj
        injection hxs with hxs
        subst hxs
        cases r1 with
        | cons h r =>
          cases r
          cases h
          exact ⟨j, rfl, hj.1, hj.2, for_range (lo := 0) (n := j.toNat) (LoopAt X.K X.mg W nw R0 H0 (fz R σ env H1) Dd t.put g (rangeL 0 j.toNat)) ⟨R, env, sb, S1, Same.refl _, q1⟩ (fun i σ' H' hi L => loop_turn (rangeL_at hi) L (.int _)) (fun σ' H' L => loop_end (by rw [rangeL_len]; exact L))⟩
      · cases hxs
    · cases hxs
  · exact q1.elim
theorem prs_forR2 {t : Tg} {tg a b : Expr} {body : List Stmt} {p pos2 : Pos} (hp : PassesOwn (model X.prog X.w) X.A X.env X.xe) (hc : X.calm = true) (gl : Gl X "range") (hm : X.mg "range" = none) (ha : PRA X W [a, b] fs) (hg : PRG X tg t) (hb : PRB X W nw body g)
    (hs1 : starEach [a, b] X.env = [(false, eval a X.env), (false, eval b X.env)] := by rfl) (hs2 : starEach [b] X.env = [(false, eval b X.env)] := by rfl)
    (hs : ∀ x, foldedSetIterable (.Call (.Name "range" p) [a, b] [] pos2) X.env x = pure x := by intro _; rfl) : PRS X W nw (.For tg (.Call (.Name "range" p) [a, b] [] pos2) body [] pos) (forR rg2 t g fs) :=
  ps_imp (ps_for (pos := pos) hp hc (pi_range2 (p := p) (pos := pos2) gl hm ha hs1 hs2) hg hb hs) fun Dd σ H ⟨R0, R, H0, env, sb, S, q⟩ => by
  refine rdA_with sb S q fun vs ds H1 e1 S1 r1 q1 => ?_
  unfold rg2 at q1
  split at q1
  · rename_i xs hxs
    split at hxs
    · rename_i lo j
      split at hxs
      · rename_i hj
        injection hxs with hxs
        subst hxs
        cases r1 with
        | cons h r =>
          cases r with
          | cons h2 r2 =>
            cases r2
            cases h
            cases h2
            exact ⟨lo, j, rfl, hj, for_range (lo := lo) (n := (j - lo).toNat) (LoopAt X.K X.mg W nw R0 H0 (fz R σ env H1) Dd t.put g (rangeL lo (j - lo).toNat)) ⟨R, env, sb, S1, Same.refl _, q1⟩ (fun i σ' H' hi L => loop_turn (rangeL_at hi) L (.int _)) (fun σ' H' L => loop_end (by rw [rangeL_len]; exact L))⟩
      · cases hxs
    · cases hxs
  · exact q1.elim

end
end Orn

set_option linter.all false
set_option maxRecDepth 100000
set_option maxHeartbeats 4000000
namespace Orn
open L2 PySem PySem.Spec PyProof.Rows
section
variable {X : Cx} {W : L2.WX} {m ma mb : Md} {fa fb fc f fe : En → Rs D} {a b c e : Expr} {es : List Expr} {fs : En → Rs (List D)} {pos : Pos} {K : PySem.W.Frag} {mg : Str → Option Value}
variable {nw : Bool} {s : Stmt} {ss : List Stmt} {g g1 g2 : En → Rs Fl} {ga gb tt : En → Rs Bool} {R : Addr → Prop} {H0 : HZ} {H H' H1 : Hp} {σ : L2.St} {env : En}
/-! ### comprehensions -/
/-- the block's own slots forgotten -/
def wipeE (env : En) : List Nat → En
  | [] => env
  | v :: vs => (wipeE env vs).set v none
def noL (env : En) (vs : List Nat) : Bool := vs.all fun i => match env[i]? with
  | some (some (.l _)) => false
  | _ => true
theorem wipe_at {vs : List Nat} {j : Nat} (h : j ∉ vs) : (wipe σ vs)[j]? = σ[j]? ∧ (wipeE env vs)[j]? = env[j]? := by
  induction vs with
  | nil => exact ⟨rfl, rfl⟩
  | cons v vs ih =>
    have h1 : v ≠ j := fun z => h (by rw [z]; exact List.mem_cons_self)
    have h2 : j ∉ vs := fun z => h (List.mem_cons_of_mem _ z)
    unfold wipe wipeE
    rw [List.getElem?_set_ne h1, List.getElem?_set_ne h1]
    exact ih h2
theorem wipe_in {vs : List Nat} {j : Nat} {t : T} (h : j ∈ vs) : (wipeE env vs)[j]? ≠ some (some t) := by
  induction vs with
  | nil => cases h
  | cons v vs ih =>
    unfold wipeE
    by_cases e : v = j
    · subst e
      rw [List.getElem?_set_self']
      cases q : (wipeE env vs)[v]? with
      | none => intro z; cases z
      | some y => intro z; simp at z
    · rw [List.getElem?_set_ne e]
      rcases List.mem_cons.mp h with z | z
      · exact absurd z.symm e
      · exact ih z
theorem wipe_lens {vs : List Nat} : (wipe σ vs).length = σ.length ∧ (wipeE env vs).length = env.length := by
  induction vs with
  | nil => exact ⟨rfl, rfl⟩
  | cons v vs ih =>
    unfold wipe wipeE
    rw [List.length_set, List.length_set]
    exact ih
theorem own_wipe {vs : List Nat} (hn : noL env vs = true) {p : Addr} : own (wipe σ vs) (wipeE env vs) p ↔ own σ env p := by
  constructor
  · rintro ⟨j, xs, h1, h2⟩
    have hj : j ∉ vs := fun z => wipe_in z h1
    rw [(wipe_at (σ := σ) hj).2] at h1
    rw [(wipe_at (env := env) hj).1] at h2
    exact ⟨j, xs, h1, h2⟩
  · rintro ⟨j, xs, h1, h2⟩
    have hj : j ∉ vs := fun z => by
      have q := List.all_eq_true.mp hn j z
      rw [h1] at q
      cases q
    exact ⟨j, xs, by rw [(wipe_at (σ := σ) hj).2]; exact h1, by rw [(wipe_at (env := env) hj).1]; exact h2⟩
theorem fz_wipe {vs : List Nat} (hn : noL env vs = true) : fz R (wipe σ vs) (wipeE env vs) H = fz R σ env H := by
  unfold fz
  congr 1
  funext a
  rw [own_wipe hn]
theorem StR.wipe {vs : List Nat} (S : StR K mg R H0 σ H env) (hn : noL env vs = true) : StR K mg R H0 (wipe σ vs) H (wipeE env vs) := by
  have out : ∀ (j : Nat) (t : T), (wipeE env vs)[j]? = some (some t) → j ∉ vs := fun j t h z => wipe_in z h
  refine ⟨S.ex, S.res, fun p h => S.dis p ((own_wipe hn).mp h), fun j k as t h1 h2 h3 => ?_, fun p h => S.new p ((own_wipe hn).mp h), fun j k as bs q h1 h2 h3 h4 => ?_, fun j t h => ?_, by rw [(wipe_lens (σ := σ) (env := env)).1, (wipe_lens (σ := σ) (env := env)).2]; exact S.len⟩
  · have a1 := out j _ h1
    have a2 := out k _ h2
    rw [(wipe_at (σ := σ) a1).2] at h1
    rw [(wipe_at (σ := σ) a2).2] at h2
    exact S.one j k as t h1 h2 h3
  · have a1 := out j _ h1
    have a2 := out k _ h2
    rw [(wipe_at (σ := σ) a1).2] at h1
    rw [(wipe_at (σ := σ) a2).2] at h2
    rw [(wipe_at (env := env) a1).1] at h3
    rw [(wipe_at (env := env) a2).1] at h4
    exact S.inj j k as bs q h1 h2 h3 h4
  · have a1 := out j _ h
    rw [(wipe_at (σ := σ) a1).2] at h
    obtain ⟨v, hv, ht⟩ := S.slot j t h
    rw [fz_wipe hn]
    exact ⟨v, by rw [(wipe_at (env := env) a1).1]; exact hv, ht⟩
/-- one address more is put aside -/
theorem StR.aside (S : StR K mg R H0 σ H1 env) (e : Same H1 H) {p : Addr} {o : HO} (hn : H1 p = none) (hp : H p = some o) :
    StR K mg (fun a => R a ∨ a = p) ⟨upd H0 p o, H0.z⟩ σ H env ∧ Same (fz R σ env H1) (fz (fun a => R a ∨ a = p) σ env H) := by
  have no : ¬ own σ env p := fun h => S.resH (.inr h) hn
  have n0 : H0 p = none := S.ex.free hn
  have sub : Same (fz R σ env H1) (fz (fun a => R a ∨ a = p) σ env H) := fun a o h => by
    have na : ¬ (R a ∨ own σ env a) := fun z => by
      rw [show fz R σ env H1 a = none from hid_yes z] at h
      cases h
    rw [show fz R σ env H1 a = H1 a from hid_no na] at h
    have ne : a ≠ p := ne_of_none h hn
    show hid _ _ a = some o
    rw [hid_no (fun z => by
      rcases z with (z | z) | z
      · exact na (.inl z)
      · exact ne z
      · exact na (.inr z))]
    exact e _ _ h
  refine ⟨⟨fun a o' h => ?_, fun a h => ?_, fun q h z => ?_, S.one, fun q h => ?_, S.inj, fun j t h => ?_, S.len⟩, sub⟩
  · have h : upd H0.h p o a = some o' := h
    by_cases z : a = p
    · subst z
      rw [upd_same] at h
      rw [hp, ← h]
    · rw [upd_ne z] at h
      exact e _ _ (S.ex _ _ h)
  · rcases h with h | h
    · exact fun z => S.res a h (e.free z)
    · subst h
      rw [hp]
      intro z; cases z
  · rcases z with z | z
    · exact S.dis q h z
    · exact no (z ▸ h)
  · have z : q ≠ p := fun z => no (z ▸ h)
    show upd H0.h p o q = none
    rw [upd_ne z]
    exact S.new q h
  · obtain ⟨v, hv, ht⟩ := S.slot j t h
    refine ⟨v, hv, ?_⟩
    have ht := ht.mono sub e
    cases t with
    | d x => exact ht
    | l xs => exact ht
    | ll xss =>
      obtain ⟨p2, qs, a1, a2, a3, a4, a5, a6, a7, a8, a9, aa⟩ := ht
      have nn : ∀ q, R q → q ≠ p := fun q h z => S.res q h (z ▸ hn)
      exact ⟨p2, qs, a1, a2, .inl a3, fun q h => .inl (a4 q h), a5, a6, a7, by show upd H0.h p o p2 = none; rw [upd_ne (nn _ a3)]; exact a8, fun q h => by show upd H0.h p o q = none; rw [upd_ne (nn _ (a4 q h))]; exact a9 q h, aa⟩
    | p => exact ht
    | sl xs => exact SnL.mono (fun _ h => .inl h) (Same.refl _) (fun a o _ q => q) ht
    | so c fs => exact SnO.mono (fun _ h => .inl h) (Same.refl _) (fun a o _ q => q) ht
    | sd kvs => exact SnD.mono (fun _ h => .inl h) (Same.refl _) (fun a o _ q => q) ht
mutual
theorem put_out : ∀ (t : Tg) (d : D) (env env' : En), t.put d env = .ok env' → ∀ j, j ∉ t.slots → env'[j]? = env[j]?
  | .nm i, d, env, env', h, j, hj => by
    unfold Tg.put at h
    injection h with h
    subst h
    unfold Tg.slots at hj
    rw [List.getElem?_set_ne (fun z => hj (by rw [z]; exact List.mem_cons_self))]
  | .tp ts, d, env, env', h, j, hj => by
    unfold Tg.put at h
    cases d <;> try (cases h; done)
    · rename_i xs
      exact puts_out ts xs env env' h j (by unfold Tg.slots at hj; exact hj)
    · rename_i xs
      exact puts_out ts xs env env' h j (by unfold Tg.slots at hj; exact hj)
    · rename_i xs
      exact puts_out ts xs env env' h j (by unfold Tg.slots at hj; exact hj)
theorem puts_out : ∀ (ts : List Tg) (ds : List D) (env env' : En), Tg.puts ts ds env = .ok env' → ∀ j, j ∉ Tg.slotss ts → env'[j]? = env[j]?
  | [], [], env, env', h, j, hj => by
    unfold Tg.puts at h
    injection h with h
    subst h
    rfl
  | [], _ :: _, env, env', h, j, hj => by unfold Tg.puts at h; cases h
  | _ :: _, [], env, env', h, j, hj => by unfold Tg.puts at h; cases h
  | t :: ts, x :: xs, env, env', h, j, hj => by
    unfold Tg.puts at h
    cases e1 : Tg.put t x env with
    | exc z => rw [e1] at h; cases h
    | bad => rw [e1] at h; cases h
    | ok env1 =>
      rw [e1, Rs.bind_ok] at h
      unfold Tg.slotss at hj
      rw [puts_out ts xs env1 env' h j (fun z => hj (List.mem_append_right _ z)), put_out t x env env1 e1 j (fun z => hj (List.mem_append_left _ z))]
end
/-- the items that a comprehension gives -/
def compL (t : Tg) (tt : En → Rs Bool) (fe : En → Rs D) (env : En) : List D → Rs (List D)
  | [] => .ok []
  | x :: xs => match t.put x env with
    | .ok env1 => match tt env1 with
      | .ok true => match fe env1 with
        | .ok y => compL t tt fe env xs >>= fun ys => .ok (y :: ys)
        | _ => .bad
      | .ok false => compL t tt fe env xs
      | _ => .bad
    | _ => .bad
def compB (t : Tg) (vs : List Nat) (tt : En → Rs Bool) (fe : En → Rs D) (xs : List D) (env : En) : Rs D :=
  if noL env vs = true ∧ xs.length ≤ SL then compL t tt fe (wipeE env vs) xs >>= fun ys => .ok (.lst ys) else .bad
def compF (t : Tg) (vs : List Nat) (tt : En → Rs Bool) (fe : En → Rs D) (fa : En → Rs D) : En → Rs D := fun env => fa env >>= fun d => match itemsD d with
  | some xs => compB t vs tt fe xs env
  | none => .bad
def compR (rg : List D → Rs (List D)) (t : Tg) (vs : List Nat) (tt : En → Rs Bool) (fe : En → Rs D) (fs : En → Rs (List D)) : En → Rs D := fun env => fs env >>= fun ds => match rg ds with
  | .ok xs => compB t vs tt fe xs env
  | _ => .bad
/-- nothing flies -/
abbrev W0 : L2.WX := fun _ _ _ _ => False
def dl (p : Addr) (H : Hp) : Hp := fun a => if a = p then none else H a
/-- a comprehension's list so far: at p -/
def CompAt (K : PySem.W.Frag) (mg : Str → Option Value) (R : Addr → Prop) (σ : L2.St) (env : En) (H1 : Hp) (p : Addr) (t : Tg) (vs : List Nat) (tt : En → Rs Bool) (fe : En → Rs D) (xs ys : List D) (i : Nat) (H : Hp) : Prop :=
  Same H1 H ∧ ∃ acc done rest, H p = some (.lst acc) ∧ Dvs K mg (dl p (fz R σ env H)) acc done ∧ done.length ≤ i ∧ compL t tt fe (wipeE env vs) (xs.drop i) = .ok rest ∧ done ++ rest = ys
theorem wipe_back {vs js : List Nat} {σ2 : L2.St} (hj : ∀ j, j ∈ js → j ∈ vs) (h : ∀ j, j ∉ js → σ2[j]? = (wipe σ vs)[j]?) (hl : σ2.length = (wipe σ vs).length) : wipe σ2 vs = wipe σ vs := by
  apply List.ext_getElem?
  intro j
  by_cases q : j ∈ vs
  · have g : ∀ (τ : L2.St) (us : List Nat), j ∈ us → (wipe τ us)[j]? = if j < τ.length then some none else none := by
      intro τ us
      induction us with
      | nil => intro h; cases h
      | cons v us ih =>
        intro h
        unfold wipe
        by_cases e : v = j
        · subst e
          rw [List.getElem?_set_self']
          by_cases l : v < τ.length
          · rw [if_pos l, List.getElem?_eq_getElem (by rw [wipe_length]; exact l)]
            rfl
          · rw [if_neg l, List.getElem?_eq_none (by rw [wipe_length]; omega)]
            rfl
        · rw [List.getElem?_set_ne e]
          rcases List.mem_cons.mp h with z | z
          · exact absurd z.symm e
          · exact ih z
    rw [g σ2 vs q, g σ vs q]
    rw [wipe_length] at hl
    rw [hl]
  · rw [(wipe_at (σ := σ2) (env := []) q).1, h j (fun z => q (hj j z))]
theorem comp_turn {t : Tg} {vs : List Nat} {p : Addr} {xs ys : List D} {i : Nat} {x : D} {v : V} (S : StR K mg R H0 σ H1 env) (hn : noL env vs = true) (hl : xs.length ≤ SL) (hp : H1 p = none) (hj : ∀ j, j ∈ t.slots → j ∈ vs)
    (hx : xs[i]? = some x) (hv : Dv K mg (fz R σ env H1) v x) (C : CompAt K mg R σ env H1 p t vs tt fe xs ys i H) :
    rdG K mg t.slots t.put v (wipe σ vs) H fun σ2 H2 => wipe σ2 vs = wipe σ vs ∧ rdT K mg W0 tt σ2 H2 fun b H3 =>
      if b = true then rdP K mg W0 .fz fe σ2 H3 fun y H4 => ∃ acc, H4 p = some (.lst acc) ∧ acc.length < sizeLine ∧ CompAt K mg R σ env H1 p t vs tt fe xs ys (i + 1) (upd H4 p (.lst (acc ++ [y]))) else CompAt K mg R σ env H1 p t vs tt fe xs ys (i + 1) H3 := by
  obtain ⟨eH, acc, done, rest, ha, hd, hlen, hr, hy⟩ := C
  have hi : i < xs.length := (List.getElem?_eq_some_iff.mp hx).1
  have hd0 : xs.drop i = x :: xs.drop (i + 1) := by
    obtain ⟨hl, e⟩ := List.getElem?_eq_some_iff.mp hx
    rw [List.drop_eq_getElem_cons hl, e]
  rw [hd0] at hr
  unfold compL at hr
  obtain ⟨S2, sub2⟩ := S.aside eH hp ha
  have S3 := S2.wipe hn
  split at hr
  · rename_i env1 he1
    have hv3 : Dv K mg (fz (fun a => R a ∨ a = p) (wipe σ vs) (wipeE env vs) H) v x := by
      rw [fz_wipe hn]
      exact hv.mono sub2
    refine ⟨_, _, _, x, env1, S3, hv3, he1, fun σ2 S4 f4 n4 l4 => ?_⟩
    refine ⟨wipe_back hj n4 l4, ?_⟩
    refine ⟨_, _, env1, S4, ?_⟩
    -- what is one's own stays hidden
    have ownS : ∀ q, own σ env q → own σ2 env1 q := fun q h => by
      obtain ⟨j, zs, h1, h2⟩ := (own_wipe hn).mpr h
      have hjv : j ∉ t.slots := fun z => wipe_in (hj j z) h1
      exact ⟨j, zs, by rw [put_out t x _ env1 he1 j hjv]; exact h1, by rw [n4 j hjv]; exact h2⟩
    have back : ∀ H4, Same (fz (fun a => R a ∨ a = p) σ2 env1 H4) (dl p (fz R σ env H4)) := fun H4 a o h => by
      have na : ¬ ((R a ∨ a = p) ∨ own σ2 env1 a) := fun z => by
        rw [show fz (fun a => R a ∨ a = p) σ2 env1 H4 a = none from hid_yes z] at h
        cases h
      rw [show fz (fun a => R a ∨ a = p) σ2 env1 H4 a = H4 a from hid_no na] at h
      unfold dl
      rw [if_neg (fun z => na (.inl (.inr z)))]
      show hid _ _ a = some o
      rw [hid_no (fun z => na (z.imp .inl (ownS a)))]
      exact h
    split at hr
    · rename_i hb
      rw [hb]
      intro H3 e3
      show if true = true then _ else _
      rw [if_pos rfl]
      split at hr
      · rename_i y hfe
        refine ⟨_, _, env1, S4.up e3, ?_⟩
        rw [hfe]
        intro w H4 e4 r4
        cases hc : compL t tt fe (wipeE env vs) (List.drop (i + 1) xs) with
        | exc z => rw [hc] at hr; cases hr
        | bad => rw [hc] at hr; cases hr
        | ok rest2 =>
          rw [hc, Rs.bind_ok] at hr
          injection hr with hr
          subst hr
          have e5 : Same H (upd H4 p (.lst (acc ++ [w]))) → True := fun _ => trivial
          have h4 := e4 _ _ (e3 _ _ ha)
          have z1 : Same (dl p (fz R σ env H)) (dl p (fz R σ env (upd H4 p (.lst (acc ++ [w]))))) := fun a o h => by
            unfold dl at h ⊢
            by_cases z : a = p
            · rw [if_pos z] at h; cases h
            · rw [if_neg z] at h ⊢
              have na : ¬ (R a ∨ own σ env a) := fun z => by
                rw [show fz R σ env H a = none from hid_yes z] at h
                cases h
              rw [show fz R σ env H a = H a from hid_no na] at h
              show hid _ _ a = some o
              rw [hid_no na, upd_ne z]
              exact e4 _ _ (e3 _ _ h)
          have z2 : Same (dl p (fz R σ env H4)) (dl p (fz R σ env (upd H4 p (.lst (acc ++ [w]))))) := fun a o h => by
            unfold dl at h ⊢
            by_cases z : a = p
            · rw [if_pos z] at h; cases h
            · rw [if_neg z] at h ⊢
              have na : ¬ (R a ∨ own σ env a) := fun z => by
                rw [show fz R σ env H4 a = none from hid_yes z] at h
                cases h
              rw [show fz R σ env H4 a = H4 a from hid_no na] at h
              show hid _ _ a = some o
              rw [hid_no na, upd_ne z]
              exact h
          refine ⟨acc, h4, lt_sl (by rw [hd.len]; omega), fun a o h => ?_, acc ++ [w], done ++ [y], rest2, upd_same, (hd.mono z1).app (.cons ((Dv.mono (back H4) r4).mono z2) .nil), by rw [List.length_append]; show done.length + 1 ≤ i + 1; omega, hc, by rw [List.append_assoc]; exact hy⟩
          rw [upd_ne (ne_of_none h hp)]
          exact e4 _ _ (e3 _ _ (eH _ _ h))
      · cases hr
    · rename_i hb
      rw [hb]
      intro H3 e3
      show if false = true then _ else _
      rw [if_neg Bool.false_ne_true]
      refine ⟨eH.trans e3, acc, done, rest, e3 _ _ ha, hd.mono (fun a o h => ?_), by omega, hr, hy⟩
      unfold dl at h ⊢
      by_cases z : a = p
      · rw [if_pos z] at h; cases h
      · rw [if_neg z] at h ⊢
        exact fz_same e3 _ _ h
    · cases hr
  · cases hr
theorem comp_end {t : Tg} {vs : List Nat} {p : Addr} {xs ys : List D} {Q : VK} {W : L2.WX} (hp : H1 p = none) (q : Post K mg W R H0 σ env .new H1 Q (.ok (.lst ys))) (C : CompAt K mg R σ env H1 p t vs tt fe xs ys xs.length H) (S : StR K mg R H0 σ H1 env) : Q (.ref p) H := by
  obtain ⟨eH, acc, done, rest, ha, hd, hlen, hr, hy⟩ := C
  rw [List.drop_length] at hr
  unfold compL at hr
  injection hr with hr
  subst hr
  rw [List.append_nil] at hy
  subst hy
  refine q _ H eH ⟨p, acc, done, dl p (fz R σ env H), rfl, rfl, hp, ha, (S.newF eH hp).trans ha, fun a o h => ?_, if_pos rfl, hd⟩
  unfold dl at h
  by_cases z : a = p
  · rw [if_pos z] at h; cases h
  · rw [if_neg z] at h; exact h
theorem comp_start {t : Tg} {vs : List Nat} {p : Addr} {xs ys : List D} (hc : compL t tt fe (wipeE env vs) xs = .ok ys) (hp : H1 p = none) : CompAt K mg R σ env H1 p t vs tt fe xs ys 0 (upd H1 p (.lst [])) :=
  ⟨fun a o h => by
    rw [upd_ne (ne_of_none h hp)]
    exact h, [], [], ys, upd_same, .nil, Nat.le_refl _, hc, rfl⟩
theorem compB_ok {t : Tg} {vs : List Nat} {xs : List D} {Q : VK} (q : Post K mg W R H0 σ env .new H Q (compB t vs tt fe xs env)) :
    noL env vs = true ∧ xs.length ≤ SL ∧ ∃ ys, compL t tt fe (wipeE env vs) xs = .ok ys ∧ Post K mg W R H0 σ env .new H Q (.ok (.lst ys)) := by
  have ne : ∀ (xs : List D) z, compL t tt fe (wipeE env vs) xs ≠ .exc z := by
    intro xs
    induction xs with
    | nil => intro z h; unfold compL at h; cases h
    | cons x xs ih =>
      intro z h
      unfold compL at h
      split at h
      · split at h
        · split at h
          · cases hc : compL t tt fe (wipeE env vs) xs with
            | exc y => exact ih y hc
            | bad => rw [hc] at h; cases h
            | ok r => rw [hc] at h; cases h
          · cases h
        · exact ih z h
        · cases h
      · cases h
  unfold compB at q
  split at q
  · rename_i hn
    refine ⟨hn.1, hn.2, ?_⟩
    cases hc : compL t tt fe (wipeE env vs) xs with
    | exc z => exact absurd hc (ne xs z)
    | bad => rw [hc] at q; exact q.elim
    | ok ys =>
      rw [hc] at q
      exact ⟨ys, rfl, q⟩
  · exact q.elim
def iSeq (K : PySem.W.Frag) (tl : TE) : TI := fun σ H R => iList K tl σ H R ∨ iTup K tl σ H R
theorem comp_rd {t : Tg} {vs : List Nat} (hj : ∀ j, j ∈ t.slots → j ∈ vs) {Q : VK} (h : rdP K mg W .new (compF t vs tt fe fa) σ H Q) :
    tLc (iSeq K (rdP K mg W .fz fa)) (rdG K mg t.slots t.put) (rdT K mg W0 tt) (rdP K mg W0 .fz fe) vs σ H Q := by
  obtain ⟨R, H0, env, S, q⟩ := h
  unfold compF at q
  cases ea : fa env with
  | exc x =>
    rw [ea] at q
    left
    refine ⟨R, H0, env, S, ?_⟩
    rw [ea]
    exact q
  | bad => rw [ea] at q; exact q.elim
  | ok d =>
    rw [ea, Rs.bind_ok] at q
    cases ei : itemsD d with
    | none => rw [ei] at q; exact q.elim
    | some xs =>
      rw [ei] at q
      dsimp only at q
      obtain ⟨hn, hl, ys, hc, q2⟩ := compB_ok q
      cases d <;> simp only [itemsD, reduceCtorEq, Option.some.injEq] at ei
      · subst ei
        left
        refine ⟨R, H0, env, S, ?_⟩
        rw [ea]
        intro v H1 e1 r1
        obtain ⟨p, ws, rfl, hp, hs⟩ := Dv.lst_of r1
        refine ⟨p, rfl, ⟨ws, .inl (.inl (hid_le _ _ hp))⟩, fun D hD => ?_⟩
        refine lc_list (K := K) (a := p) (xs := ws) (Qd := fun H => Q (.ref D) H) (CompAt K mg R σ env H1 D t vs tt fe _ ys) (comp_start hc hD) (fun i H' _ C => ?_) (fun i x H' hx C => ?_) (fun H' C => ?_)
        · exact .inl (.inl (C.1 _ _ (hid_le _ _ hp)))
        · obtain ⟨d, hd, hv⟩ := hs.getV hx
          exact comp_turn (S.up e1) hn hl hD hj hd hv C
        · rw [hs.len] at C
          exact comp_end hD (Post.up e1 q2) C (S.up e1)
      · subst ei
        left
        refine ⟨R, H0, env, S, ?_⟩
        rw [ea]
        intro v H1 e1 r1
        obtain ⟨p, ws, rfl, hp, hs⟩ := Dv.rol_of r1
        refine ⟨p, rfl, ⟨ws, hid_le.seq hp⟩, fun D hD => ?_⟩
        refine lc_list (K := K) (a := p) (xs := ws) (Qd := fun H => Q (.ref D) H) (CompAt K mg R σ env H1 D t vs tt fe _ ys) (comp_start hc hD) (fun i H' _ C => ?_) (fun i x H' hx C => ?_) (fun H' C => ?_)
        · exact Same.seq C.1 (hid_le.seq hp)
        · obtain ⟨d, hd, hv⟩ := hs.getV hx
          exact comp_turn (S.up e1) hn hl hD hj hd hv C
        · rw [hs.len] at C
          exact comp_end hD (Post.up e1 q2) C (S.up e1)
      · subst ei
        right
        refine ⟨R, H0, env, S, ?_⟩
        rw [ea]
        intro v H1 e1 r1
        obtain ⟨p, ws, rfl, hp, hs⟩ := Dv.tup_of r1
        refine ⟨p, rfl, ⟨ws, same_t hid_le hp⟩, fun D hD => ?_⟩
        refine lc_tup (K := K) (a := p) (xs := ws) (Qd := fun H => Q (.ref D) H) (CompAt K mg R σ env H1 D t vs tt fe _ ys) (comp_start hc hD) (fun i H' _ C => ?_) (fun i x H' hx C => ?_) (fun H' C => ?_)
        · exact same_t C.1 (same_g hid_le hp)
        · obtain ⟨d, hd, hv⟩ := hs.getV hx
          exact comp_turn (S.up e1) hn hl hD hj hd hv C
        · rw [hs.len] at C
          exact comp_end hD (Post.up e1 q2) C (S.up e1)
theorem rdA_post {R : Addr → Prop} {H0 : HZ} {H : Hp} {σ : L2.St} {env : En} {k : List D → Rs D} {Q : VK} {r : List V → Hp → Prop} (S : StR K mg R H0 σ H env) (q : Post K mg W R H0 σ env m H Q (fs env >>= k))
    (h : ∀ vs ds H1, Same H H1 → StR K mg R H0 σ H1 env → Dvs K mg (fz R σ env H1) vs ds → Post K mg W R H0 σ env m H1 Q (k ds) → r vs H1) : rdA K mg W fs σ H r := by
  refine ⟨R, H0, env, S, ?_⟩
  cases ea : fs env with
  | exc x => rw [ea] at q; exact q
  | bad => rw [ea] at q; exact q
  | ok d =>
    rw [ea, Rs.bind_ok] at q
    exact fun v H1 e1 r1 => h v d H1 e1 (S.up e1) r1 (Post.up e1 q)
theorem comp_rdR1 {t : Tg} {vs : List Nat} (hj : ∀ j, j ∈ t.slots → j ∈ vs) {Q : VK} (h : rdP K mg W .new (compR rg1 t vs tt fe fs) σ H Q) :
    tLc (iRng1 (rdA K mg W fs)) (rdG K mg t.slots t.put) (rdT K mg W0 tt) (rdP K mg W0 .fz fe) vs σ H Q := by
  obtain ⟨R, H0, env, S, q⟩ := h
  unfold compR at q
  refine rdA_post S q fun ws ds H1 e1 S1 r1 q1 => ?_
  split at q1
  · rename_i xs hxs
    unfold rg1 at hxs
    split at hxs
    · rename_i j
      split at hxs
      · rename_i hj2
        injection hxs with hxs
        subst hxs
        obtain ⟨hn, hl, ys, hc, q⟩ := compB_ok q1
        cases r1 with
        | cons h r =>
          cases r
          cases h
          refine ⟨j, rfl, hj2.1, hj2.2, fun D hD => ?_⟩
          exact lc_range (lo := 0) (n := j.toNat) (Qd := fun H => Q (.ref D) H) (CompAt K mg R σ env H1 D t vs tt fe _ ys) (comp_start hc hD) (fun i H' hi C => comp_turn S1 hn hl hD hj (rangeL_at hi) (.int _) C) (fun H' C => comp_end hD q (by rw [rangeL_len]; exact C) S1)
      · cases hxs
    · cases hxs
  · exact q1.elim
theorem comp_rdR2 {t : Tg} {vs : List Nat} (hj : ∀ j, j ∈ t.slots → j ∈ vs) {Q : VK} (h : rdP K mg W .new (compR rg2 t vs tt fe fs) σ H Q) :
    tLc (iRng2 (rdA K mg W fs)) (rdG K mg t.slots t.put) (rdT K mg W0 tt) (rdP K mg W0 .fz fe) vs σ H Q := by
  obtain ⟨R, H0, env, S, q⟩ := h
  unfold compR at q
  refine rdA_post S q fun ws ds H1 e1 S1 r1 q1 => ?_
  split at q1
  · rename_i xs hxs
    unfold rg2 at hxs
    split at hxs
    · rename_i lo j
      split at hxs
      · rename_i hj2
        injection hxs with hxs
        subst hxs
        obtain ⟨hn, hl, ys, hc, q⟩ := compB_ok q1
        cases r1 with
        | cons h r =>
          cases r with
          | cons h2 r2 =>
            cases r2
            cases h
            cases h2
            refine ⟨lo, j, rfl, hj2, fun D hD => ?_⟩
            exact lc_range (lo := lo) (n := (j - lo).toNat) (Qd := fun H => Q (.ref D) H) (CompAt K mg R σ env H1 D t vs tt fe _ ys) (comp_start hc hD) (fun i H' hi C => comp_turn S1 hn hl hD hj (rangeL_at hi) (.int _) C) (fun H' C => comp_end hD q (by rw [rangeL_len]; exact C) S1)
      · cases hxs
    · cases hxs
  · exact q1.elim
/-- what the parts of a comprehension's block compute -/
abbrev PRGc (X : Cx) (scope : Scope) (tg : Expr) (t : Tg) : Prop := ∀ (s : Shared) (H : Hp) (C : Addr) (cl : List (Str × Addr)) (fp : List Addr), PRG (X.blk s H scope (compEnvC scope cl C X.env) fp) tg t
abbrev PRTc (X : Cx) (scope : Scope) (ifs : List Expr) (tt : En → Rs Bool) : Prop := ∀ (s : Shared) (H : Hp) (C : Addr) (cl : List (Str × Addr)) (fp : List Addr), PTs (X.blk s H scope (compEnvC scope cl C X.env) fp) ifs (rdT X.K X.mg W0 tt)
abbrev PRc (X : Cx) (scope : Scope) (elt : Expr) (fe : En → Rs D) : Prop := ∀ (s : Shared) (H : Hp) (C : Addr) (cl : List (Str × Addr)) (fp : List Addr), PR (X.blk s H scope (compEnvC scope cl C X.env) fp) W0 .fz elt fe
def yesF : En → Rs Bool := fun _ => .ok true
theorem pts_imp {ifs : List Expr} {t t' : TT} (h : PTs X ifs t) (i : ∀ σ H Q, t' σ H Q → t σ H Q) : PTs X ifs t' := ⟨fun pins s σ H Q I q => h.run pins s σ H Q I (i σ H Q q)⟩
theorem prtc_nil {scope : Scope} : PRTc X scope [] yesF := fun _ _ _ _ _ => pts_imp pts_nil fun σ H Q ⟨R, H0, env, S, q⟩ => q H (Same.refl H)
theorem prtc_one {scope : Scope} {c : Expr} (h : ∀ (s : Shared) (H : Hp) (C : Addr) (cl : List (Str × Addr)) (fp : List Addr), PRT (X.blk s H scope (compEnvC scope cl C X.env) fp) W0 c tt) : PRTc X scope [c] tt := fun s H C cl fp => pts_one (h s H C cl fp)
theorem pi_seq {tg iter : Expr} {tl : TE} (h : PE X iter tl) : PI X tg iter (iSeq X.K tl) := ⟨fun pins s σ H R I q => q.elim ((pi_list h).run pins s σ H R I) ((pi_tup h).run pins s σ H R I)⟩
theorem pr_comp {elt tg iter : Expr} {ifs : List Expr} {scope : Scope} {own : List (Str × Nat)} {t : Tg} (hc : X.calm = true) (hN : X.N.Nodup) (ha : PR X W .fz iter fa) (ok : BlkOk X.N X.env.scope scope own) (hg : PRGc X scope tg t) (ht : PRTc X scope ifs tt) (he : PRc X scope elt fe)
    (hj : ∀ j, j ∈ t.slots → j ∈ own.map (·.2) := by decide) (hs : ∀ x, foldedSetIterable iter X.env x = pure x := by intro _; rfl) :
    PR X W .new (.ListComp elt [⟨tg, iter, ifs, 0⟩] scope pos) (compF t (own.map (·.2)) tt fe fa) := pe_imp (pe_lc hc hN (pi_seq ha) ok hg ht he hs) fun σ H Q h => comp_rd hj h
theorem prs_setComp {i : Nat} {y : Str} {py spos : Pos} {elt tg iter : Expr} {ifs : List Expr} {scope : Scope} {own : List (Str × Nat)} {t : Tg} (hc : X.calm = true) (hN : X.N.Nodup) (hy : X.N[i]? = some y) (hyl : X.env.scope.names.lookup y = some .local)
    (hsw : swapsWith (.ListComp elt [⟨tg, iter, ifs, 0⟩] scope pos) (some (.Name y py)) spos.line X.env = pure true) (ha : PR X W .fz iter fa) (ok : BlkOk X.N X.env.scope scope own) (hg : PRGc X scope tg t) (ht : PRTc X scope ifs tt) (he : PRc X scope elt fe)
    (hj : ∀ j, j ∈ t.slots → j ∈ own.map (·.2) := by decide) (hs : ∀ x, foldedSetIterable iter X.env x = pure x := by intro _; rfl) :
    PRS X W nw (.Assign [.Name y py] (.ListComp elt [⟨tg, iter, ifs, 0⟩] scope pos) spos) (asgF i (compF t (own.map (·.2)) tt fe fa)) := ps_imp (ps_setLc hc hN hy hyl hsw (pi_seq ha) ok hg ht he hs) fun Dd σ H ⟨R0, R, H0, env, sb, S, q⟩ => by
  refine comp_rd (fe := fe) (tt := tt) hj ⟨R, H0, env, S, ?_⟩
  unfold asgF withE at q
  cases ea : compF t (own.map (·.2)) tt fe fa env with
  | exc x =>
    rw [ea] at q
    exact fun cls dd H' e xw => q cls dd R σ H' sb (S.up e) (fz_same e) xw
  | bad => rw [ea] at q; exact q
  | ok d =>
    rw [ea] at q
    intro v H1 e1 r1
    obtain ⟨p, vs, xs, rfl, rfl, hn, hp, hF, hs⟩ := Nw.old r1
    exact q _ _ _ sb ((S.up e1).setD (Dv.lst hF hs)) ((fz_same e1).trans fz_setD)
end
end Orn

set_option linter.all false
set_option maxRecDepth 100000
set_option maxHeartbeats 4000000
namespace Orn
open L2 PySem PySem.Spec PyProof.Rows
/-- a frame at its entry -/
def args0 (ds : List D) (N : Nat) : En := ds.map (fun d => some (T.d d)) ++ List.replicate (N - ds.length) none
/-- a def's mirror, by its body's -/
def runF (N : Nat) (nw : Bool) (g : En → Rs Fl) (ds : List D) : Rs D := match g (args0 ds N) with
  | .ok (.next _) => if nw = true then .bad else .ok .non
  | .ok (.ret d) => .ok d
  | .ok (.raise e _) => .exc e
  | _ => .bad
theorem args0_at {ds : List D} {N i : Nat} {t : T} (h : (args0 ds N)[i]? = some (some t)) : ∃ d, ds[i]? = some d ∧ t = .d d := by
  unfold args0 at h
  by_cases hi : i < ds.length
  · rw [List.getElem?_append_left (by rw [List.length_map]; exact hi), List.getElem?_map, List.getElem?_eq_getElem hi] at h
    have h := Option.some.inj (Option.some.inj h)
    exact ⟨ds[i], List.getElem?_eq_getElem hi, h.symm⟩
  · rw [List.getElem?_append_right (by rw [List.length_map]; omega), List.getElem?_replicate] at h
    split at h
    · have h := Option.some.inj h
      cases h
    · cases h
section
variable {P : Program} {w : World} {K : PySem.W.Frag} {mg : Str → Option Value} {base : Heap}
theorem start_ok {N : List Str} {R : Addr → Prop} {H : Hp} {vs : List V} {ds : List D} (hN : vs.length ≤ N.length) (hR : ∀ a, R a → H a ≠ none) (hv : Dvs K mg (hid R H) vs ds) : StR K mg R ⟨H, 0⟩ (L2.start N vs) H (args0 ds N.length) ∧ fz R (L2.start N vs) (args0 ds N.length) H = hid R H := by
  have no : ∀ p, ¬ own (L2.start N vs) (args0 ds N.length) p := fun p h => by
    obtain ⟨i, xs, h1, _⟩ := h
    obtain ⟨d, _, e⟩ := args0_at h1
    cases e
  have e : fz R (L2.start N vs) (args0 ds N.length) H = hid R H := by
    unfold fz
    congr 1
    funext a
    exact propext ⟨fun h => h.elim id fun z => absurd z (no a), .inl⟩
  refine ⟨⟨Same.refl H, hR, fun p h => absurd h (no p), fun i j xs ys h1 => ?_, fun p h => absurd h (no p), fun i j xs ys p h1 => ?_, fun i t h => ?_, ?_⟩, e⟩
  · obtain ⟨d, _, e⟩ := args0_at h1
    cases e
  · obtain ⟨d, _, e⟩ := args0_at h1
    cases e
  · obtain ⟨d, hd, rfl⟩ := args0_at h
    obtain ⟨v, hv1, hv2⟩ := hv.get hd
    have hi : i < vs.length := (List.getElem?_eq_some_iff.mp hv1).1
    refine ⟨v, ?_, ?_⟩
    · unfold L2.start
      rw [List.getElem?_append_left (by rw [List.length_map]; exact hi), List.getElem?_map, hv1]
      rfl
    · rw [e]
      exact hv2
  · unfold L2.start args0
    rw [List.length_append, List.length_append, List.length_map, List.length_map, List.length_replicate, List.length_replicate, hv.len]
theorem ok_def {x qual : Str} {st : Stmt} {f : Addr} {fd : FuncData} {N ps : List Str} {k n : Nat} {nw : Bool} {g : En → Rs Fl} (F : Fun K x qual st f fd) (S : FnScope N ps (defScope st)) (hn : ps.length = n)
    (body : ∀ (cdv : Value) (A : Around) (outer : List Env) (s : Shared) (H : Hp) (E : XK), Rm k (A.deeper (envOfC qual (defScope st) s.heap.objs.size f cdv)) →
      PRB (cxOf (L2.CX P w) P w K mg base N qual (defScope st) f cdv A outer s H E) (fun cls d _ H => E cls d H) nw (defBody st) g) :
    FnG P w K mg base (k + 1) f fd ps (spD K mg n nw (runF N.length nw g)) := by
  refine okG F S (fun vs H Q E h => ?_) (fun cdv A outer s H vs Q E hr h => ⟨_, body cdv A outer s H E hr, ?_⟩)
  · obtain ⟨R, ds, h1, _⟩ := h
    rw [h1, hn]
  · obtain ⟨R, ds, h1, hR, hv, q⟩ := h
    have hpl : ps.length ≤ N.length := by have := congrArg List.length S.pre; rw [List.length_take] at this; omega
    obtain ⟨S0, e0⟩ := start_ok (N := N) (by omega) hR hv
    refine ⟨R, R, ⟨H, 0⟩, args0 ds N.length, fun a h => ⟨h, hR a h⟩, S0, ?_⟩
    unfold runF at q
    cases eg : g (args0 ds N.length) with
    | exc z => rw [eg] at q; exact q
    | bad => rw [eg] at q; exact q
    | ok r =>
      rw [eg] at q
      cases r with
      | next env' =>
        dsimp only at q
        by_cases hnw : nw = true
        · rw [if_pos hnw] at q
          exact q.elim
        · rw [if_neg hnw] at q
          exact fun R' σ H' sb S' _ => q .non H' S'.ex .non (fun z => absurd z hnw)
      | ret d => exact q
      | raise e env' => exact fun cls dd R' σ H' sb S' _ xw => q cls dd H' S'.ex (xw.sub fun a h => .inl (sb a h).1)
theorem dn_of {x qual : Str} {st : Stmt} {f : Addr} {fd : FuncData} {N ps : List Str} {k n : Nat} {nw : Bool} {g : En → Rs Fl} (F : Fun K x qual st f fd) (S : FnScope N ps (defScope st)) (hn : ps.length = n) (hm : mg x = some (.ref f)) (hb : Binds K fd ps [])
    (body : ∀ (cdv : Value) (A : Around) (outer : List Env) (s : Shared) (H : Hp) (E : XK), Rm k (A.deeper (envOfC qual (defScope st) s.heap.objs.size f cdv)) →
      PRB (cxOf (L2.CX P w) P w K mg base N qual (defScope st) f cdv A outer s H E) (fun cls d _ H => E cls d H) nw (defBody st) g) :
    Dn P w K mg base (k + 1) x n nw (runF N.length nw g) := ⟨⟨f, fd, ps, ok_def F S hn body, hm, F.kp, hb⟩⟩
theorem Dn.up {k k' n : Nat} {x : Str} {nw : Bool} {g : List D → Rs D} (h : Dn P w K mg base k x n nw g) (hk : k ≤ k') : Dn P w K mg base k' x n nw g :=
  let ⟨f, fd, ps, F, h1, h2, h3⟩ := h.ex
  ⟨⟨f, fd, ps, F.mono hk, h1, h2, h3⟩⟩
end
end Orn
namespace Orn
open L2 PySem PySem.Spec PyProof.Rows
theorem nilA_len : ∀ env ds, nilA env = Rs.ok ds → ds.length = 0 := fun env ds h => by
  unfold nilA at h
  injection h with h
  rw [← h]
  rfl
theorem consA_len {fa : En → Rs D} {fs : En → Rs (List D)} {n : Nat} (h : ∀ env ds, fs env = Rs.ok ds → ds.length = n) : ∀ env ds, consA fa fs env = Rs.ok ds → ds.length = n + 1 := fun env ds q => by
  unfold consA at q
  cases e1 : fa env with
  | exc z => rw [e1] at q; cases q
  | bad => rw [e1] at q; cases q
  | ok d =>
    rw [e1, Rs.bind_ok] at q
    cases e2 : fs env with
    | exc z => rw [e2] at q; cases q
    | bad => rw [e2] at q; cases q
    | ok ds' =>
      rw [e2, Rs.bind_ok] at q
      injection q with q
      rw [← q, List.length_cons, h env ds' e2]
section
variable {X : Cx} {W : L2.WX} {m ma mb : Md} {fa fb fc f fe : En → Rs D} {a b c e : Expr} {es : List Expr} {fs : En → Rs (List D)} {pos : Pos} {K : PySem.W.Frag} {mg : Str → Option Value}
/-- x[::-1] of a list -/
def revL : D → Rs D
  | .lst xs => .ok (.lst xs.reverse)
  | .rol xs => .ok (.lst xs.reverse)
  | _ => .bad
theorem pr_revL {k : Nat} {p1 p2 p3 : Pos} (ha : PR X W ma a fa) (na : ma ≠ .pk := by decide) : PR X W .new (.Subscript a (.Slice none none (some (.UnaryOp .USub (.Constant (.int 1) k p1) p2)) p3) pos) (op1 revL fa) :=
  pe_imp (pe_revL ha) fun σ H Q ⟨R, H0, env, S, q⟩ => rd_seq1 S q fun x da H2 e2 S2 ra q2 => by
  cases da <;> try exact q2.elim
  · obtain ⟨p, vs, rfl, hp, hv⟩ := ra.sh na hid_le
    exact ⟨p, vs, rfl, .inl (.inl hp), post_lst (.inr rfl) S2 hv.rev q2⟩
  · obtain ⟨p, vs, rfl, hp, hv⟩ := ra.rol na hid_le
    exact ⟨p, vs, rfl, hp, post_lst (.inr rfl) S2 hv.rev q2⟩
end
end Orn

set_option linter.all false
set_option maxRecDepth 100000
set_option maxHeartbeats 4000000
namespace Orn
open L2 PySem PySem.Spec PyProof.Rows
section
variable {X : Cx} {W : L2.WX} {m ma mb : Md} {fa fb fc f fe : En → Rs D} {a b c e : Expr} {es : List Expr} {fs : En → Rs (List D)} {pos : Pos} {K : PySem.W.Frag} {mg : Str → Option Value}
variable {nw : Bool} {s : Stmt} {ss : List Stmt} {g g1 g2 : En → Rs Fl} {ga gb tt : En → Rs Bool}
/-! ### comparisons as tests -/
theorem ptc_lt (ha : PR X W ma a fa) (hb : PR X W mb b fb) : PRT X W (.Compare a [.Lt] [b] pos) (tcmp ltD fa fb) := pt_cmp op_lt (op_intD fun _ _ => rfl) ha hb (nomark _)
theorem ptc_le (ha : PR X W ma a fa) (hb : PR X W mb b fb) : PRT X W (.Compare a [.LtE] [b] pos) (tcmp leD fa fb) := pt_cmp op_le (op_intD fun _ _ => rfl) ha hb (nomark _)
theorem ptc_gt (ha : PR X W ma a fa) (hb : PR X W mb b fb) : PRT X W (.Compare a [.Gt] [b] pos) (tcmp gtD fa fb) := pt_cmp op_gt (op_intD fun _ _ => rfl) ha hb (nomark _)
theorem ptc_ge (ha : PR X W ma a fa) (hb : PR X W mb b fb) : PRT X W (.Compare a [.GtE] [b] pos) (tcmp geD fa fb) := pt_cmp op_ge (op_intD fun _ _ => rfl) ha hb (nomark _)
theorem ptc_eq {k : Nat} (hr : Rm k X.A) (ha : PR X W ma a fa) (hb : PR X W mb b fb) : PRT X W (.Compare a [.Eq] [b] pos) (tcmp eqD fa fb) := pt_cmp (opr_or op_eq (op_eqD hr.r.units)) op_eqDD ha hb (nomark _)
theorem ptc_ne {k : Nat} (hr : Rm k X.A) (ha : PR X W ma a fa) (hb : PR X W mb b fb) : PRT X W (.Compare a [.NotEq] [b] pos) (tcmp neD fa fb) := pt_cmp (opr_or op_ne (op_neD hr.r.units)) op_neDD ha hb (nomark _)
theorem ptc_in (ha : PR X W ma a fa) (hb : PR X W mb b fb) (nb : mb ≠ .pk := by decide) (hm : behindInMarks .In b = false := by rfl) : PRT X W (.Compare a [.In] [b] pos) (tcmp inD fa fb) := pt_cmp op_in_seq (op_inDD nb) ha hb hm
theorem ptc_notIn (ha : PR X W ma a fa) (hb : PR X W mb b fb) (nb : mb ≠ .pk := by decide) (hm : behindInMarks .NotIn b = false := by rfl) : PRT X W (.Compare a [.NotIn] [b] pos) (tcmp notInD fa fb) := pt_cmp op_notIn_seq (op_notInDD nb) ha hb hm
theorem op_isNDD : Op2 K mg W ma mb .fz isND (fun x y H Q => y = .non ∧ Q (.bl (decide (x = .non))) H) := by
  intro R H0 σ env H Hs x y da db Q S ra rb q
  cases db <;> try exact q.elim
  refine ⟨rb.non, ?_⟩
  rw [isN_dec ra]
  exact q.flat S rfl
theorem op_notNDD : Op2 K mg W ma mb .fz notND (fun x y H Q => y = .non ∧ Q (.bl (!decide (x = .non))) H) := by
  intro R H0 σ env H Hs x y da db Q S ra rb q
  cases db <;> try exact q.elim
  refine ⟨rb.non, ?_⟩
  rw [isN_dec ra]
  exact q.flat S rfl
theorem ptc_isN (ha : PR X W ma a fa) (hb : PR X W mb b fb) : PRT X W (.Compare a [.Is] [b] pos) (tcmp isND fa fb) := pt_cmp op_isN op_isNDD ha hb (nomark _)
theorem ptc_notN (ha : PR X W ma a fa) (hb : PR X W mb b fb) : PRT X W (.Compare a [.IsNot] [b] pos) (tcmp notND fa fb) := pt_cmp op_notN op_notNDD ha hb (nomark _)
theorem op_absD : Op1 K mg W ma .fz absD (fun x H Q => ∃ i, [x] = [V.int i] ∧ Q (.int (if i < 0 then -i else i)) H) := by
  intro R H0 σ env H Hs x da Q S ra q
  cases da <;> try exact q.elim
  rename_i i
  exact ⟨i, by rw [ra.int], q.flat S rfl⟩
theorem op_strD : Op1 K mg W ma .fz strD (fun x H Q => ∃ i, [x] = [V.int i] ∧ i.natAbs.log2 < 1920 ∧ Q (.str (toString i)) H) := by
  intro R H0 σ env H Hs x da Q S ra q
  cases da <;> try exact q.elim
  rename_i i
  unfold strD at q
  dsimp only at q
  split at q
  · rename_i h
    exact ⟨i, by rw [ra.int], h, q.flat S rfl⟩
  · exact q.elim
/-! ### list(range(n)) -/
def listR (fa : En → Rs D) : En → Rs D := op1 (fun d => match d with
  | .int n => if 0 ≤ n ∧ n ≤ SL then .ok (.lst (rangeL 0 n.toNat)) else .bad
  | _ => .bad) fa
theorem rgV_dvs {F : Hp} (a b : Int) : Dvs K mg F (rgV a b) (rangeL a (b - a).toNat) := by
  unfold rgV rangeL
  generalize (b - a).toNat = n
  have h : ∀ l : List Nat, Dvs K mg F (l.map fun i => V.int (a + (i : Nat))) (l.map fun (i : Nat) => D.int (a + (i : Int))) := fun l => by
    induction l with
    | nil => exact .nil
    | cons x xs ih => exact .cons (.int _) ih
  exact h _
theorem pr_listR {p p2 pos2 : Pos} (hc : X.calm = true) (gl : Gl X "list") (hm : X.mg "list" = none) (gr : Gl X "range") (hr : X.mg "range" = none) (ha : PR X W ma a fa) (na : starEach [a] X.env = (false, eval a X.env) :: starEach [] X.env := by rfl)
    (na2 : starEach [.Call (.Name "range" p2) [a] [] pos2] X.env = (false, eval (.Call (.Name "range" p2) [a] [] pos2) X.env) :: starEach [] X.env := by rfl) :
    PR X W .new (.Call (.Name "list" p) [.Call (.Name "range" p2) [a] [] pos2] [] pos) (listR fa) := pe_imp (pe_listRg hc gl hm (prg_1 gr hr ha na) na2) fun σ H Q ⟨R, H0, env, S, q⟩ => rd_seq1 S q fun x da H2 e2 S2 ra q2 => by
  cases da <;> try exact q2.elim
  rename_i n
  dsimp only at q2
  split at q2
  · rename_i h
    refine ⟨n, ra.int, RgOk.of_le (Int.le_refl 0) h.2 (by decide) h.1, ?_⟩
    have e : (n - 0).toNat = n.toNat := by rw [Int.sub_zero]
    exact post_lst (.inr rfl) S2 (by have := rgV_dvs (K := X.K) (mg := X.mg) (F := fz R σ env H2) 0 n; rw [e] at this; exact this) q2
  · exact q2.elim
/-! ### comprehensions over ranges -/
theorem pr_compR1 {elt tg a : Expr} {ifs : List Expr} {scope : Scope} {own : List (Str × Nat)} {t : Tg} {p pos2 : Pos} (hc : X.calm = true) (hN : X.N.Nodup) (gl : Gl X "range") (hm : X.mg "range" = none) (ha : PRA X W [a] fs) (ok : BlkOk X.N X.env.scope scope own) (hg : PRGc X scope tg t) (ht : PRTc X scope ifs tt) (he : PRc X scope elt fe)
    (hj : ∀ j, j ∈ t.slots → j ∈ own.map (·.2) := by decide) (hs1 : starEach [a] X.env = [(false, eval a X.env)] := by rfl) (hs : ∀ x, foldedSetIterable (.Call (.Name "range" p) [a] [] pos2) X.env x = pure x := by intro _; rfl) :
    PR X W .new (.ListComp elt [⟨tg, .Call (.Name "range" p) [a] [] pos2, ifs, 0⟩] scope pos) (compR rg1 t (own.map (·.2)) tt fe fs) := pe_imp (pe_lc hc hN (pi_range1 gl hm ha hs1) ok hg ht he hs) fun σ H Q h => comp_rdR1 hj h
theorem pr_compR2 {elt tg a b : Expr} {ifs : List Expr} {scope : Scope} {own : List (Str × Nat)} {t : Tg} {p pos2 : Pos} (hc : X.calm = true) (hN : X.N.Nodup) (gl : Gl X "range") (hm : X.mg "range" = none) (ha : PRA X W [a, b] fs) (ok : BlkOk X.N X.env.scope scope own) (hg : PRGc X scope tg t) (ht : PRTc X scope ifs tt) (he : PRc X scope elt fe)
    (hj : ∀ j, j ∈ t.slots → j ∈ own.map (·.2) := by decide) (hs1 : starEach [a, b] X.env = [(false, eval a X.env), (false, eval b X.env)] := by rfl) (hs2 : starEach [b] X.env = [(false, eval b X.env)] := by rfl) (hs : ∀ x, foldedSetIterable (.Call (.Name "range" p) [a, b] [] pos2) X.env x = pure x := by intro _; rfl) :
    PR X W .new (.ListComp elt [⟨tg, .Call (.Name "range" p) [a, b] [] pos2, ifs, 0⟩] scope pos) (compR rg2 t (own.map (·.2)) tt fe fs) := pe_imp (pe_lc hc hN (pi_range2 gl hm ha hs1 hs2) ok hg ht he hs) fun σ H Q h => comp_rdR2 hj h
theorem withE_new {R0 R : Addr → Prop} {H0 : HZ} {H : Hp} {σ : L2.St} {env : En} {Dd : Ends} {i : Nat} (sb : ∀ a, R0 a → R a ∧ H0 a ≠ none) (S : StR K mg R H0 σ H env) (q : PostS K mg W nw R0 H0 (fz R σ env H) Dd (asgF i fa env)) :
    rdP K mg W .new fa σ H fun x H1 => Dd.nx (σ.set i (some x)) H1 := by
  refine ⟨R, H0, env, S, ?_⟩
  unfold asgF withE at q
  cases ea : fa env with
  | exc x =>
    rw [ea] at q
    exact fun cls dd H' e xw => q cls dd R σ H' sb (S.up e) (fz_same e) xw
  | bad => rw [ea] at q; exact q
  | ok d =>
    rw [ea] at q
    intro v H1 e1 r1
    obtain ⟨p, vs, xs, rfl, rfl, hn, hp, hF, hs⟩ := Nw.old r1
    exact q _ _ _ sb ((S.up e1).setD (Dv.lst hF hs)) ((fz_same e1).trans fz_setD)
theorem prs_setCompR1 {i : Nat} {y : Str} {py spos : Pos} {elt tg a : Expr} {ifs : List Expr} {scope : Scope} {own : List (Str × Nat)} {t : Tg} {p pos2 : Pos} (hc : X.calm = true) (hN : X.N.Nodup) (hy : X.N[i]? = some y) (hyl : X.env.scope.names.lookup y = some .local)
    (hsw : swapsWith (.ListComp elt [⟨tg, .Call (.Name "range" p) [a] [] pos2, ifs, 0⟩] scope pos) (some (.Name y py)) spos.line X.env = pure true) (gl : Gl X "range") (hm : X.mg "range" = none) (ha : PRA X W [a] fs) (ok : BlkOk X.N X.env.scope scope own) (hg : PRGc X scope tg t) (ht : PRTc X scope ifs tt) (he : PRc X scope elt fe)
    (hj : ∀ j, j ∈ t.slots → j ∈ own.map (·.2) := by decide) (hs1 : starEach [a] X.env = [(false, eval a X.env)] := by rfl) (hs : ∀ x, foldedSetIterable (.Call (.Name "range" p) [a] [] pos2) X.env x = pure x := by intro _; rfl) :
    PRS X W nw (.Assign [.Name y py] (.ListComp elt [⟨tg, .Call (.Name "range" p) [a] [] pos2, ifs, 0⟩] scope pos) spos) (asgF i (compR rg1 t (own.map (·.2)) tt fe fs)) := ps_imp (ps_setLc hc hN hy hyl hsw (pi_range1 gl hm ha hs1) ok hg ht he hs) fun Dd σ H ⟨R0, R, H0, env, sb, S, q⟩ => comp_rdR1 (fe := fe) (tt := tt) hj (withE_new sb S q)
end
end Orn

set_option linter.all false
set_option maxRecDepth 100000
set_option maxHeartbeats 4000000
namespace Orn
open L2 PySem PySem.Spec PyProof.Rows
section
variable {X : Cx} {W : L2.WX} {m ma mb : Md} {fa fb fc f fe : En → Rs D} {a b c e : Expr} {es : List Expr} {fs : En → Rs (List D)} {pos : Pos} {K : PySem.W.Frag} {mg : Str → Option Value}
variable {nw : Bool} {s : Stmt} {ss : List Stmt} {g g1 g2 : En → Rs Fl} {ga gb tt : En → Rs Bool} {R : Addr → Prop} {H0 : HZ} {H H' H1 : Hp} {σ : L2.St} {env : En}
/-! ### a list of lists of one's own -/
def noLL (env : En) : Bool := env.all fun t => match t with
  | some (.ll _) => false
  | some (.sl _) => false
  | some (.so _ _) => false
  | some (.sd _) => false
  | _ => true
theorem noR_at {env : En} (h : noLL env = true) {i : Nat} {t : T} (z : env[i]? = some (some t)) : t.isR = false := by
  have q := List.all_eq_true.mp h _ (List.mem_of_getElem? z)
  cases t <;> first | rfl | cases q
theorem noLL_at (h : noLL env = true) {i : Nat} {xss : List (List D)} : env[i]? ≠ some (some (.ll xss)) := fun z => by
  have q := List.all_eq_true.mp h _ (List.mem_of_getElem? z)
  cases q
theorem own_setLL {i : Nat} {v : V} {x : List (List D)} {p : Addr} (h : own (σ.set i (some v)) (env.set i (some (.ll x))) p) : own σ env p := by
  obtain ⟨j, xs, h1, h2⟩ := h
  by_cases e : i = j
  · subst e
    rw [List.getElem?_set_self'] at h1
    cases q : env[i]? with
    | none => rw [q] at h1; simp at h1
    | some z => rw [q] at h1; simp at h1
  · rw [List.getElem?_set_ne e] at h1 h2
    exact ⟨j, xs, h1, h2⟩
theorem StR.setLL (S : StR K mg R H0 σ H1 env) (e : Same H1 H) (hn : noLL env = true) {i : Nat} {p : Addr} {qs : List Addr} (hp : H1 p = none) (hq : ∀ q ∈ qs, H1 q = none ∧ H q = some (.lst [])) (nd : qs.Nodup) (np : p ∉ qs) (hl : H p = some (.lst (qs.map V.ref))) :
    StR K mg (fun a => R a ∨ a = p ∨ a ∈ qs) H0 (σ.set i (some (.ref p))) H (env.set i (some (.ll (qs.map fun _ => [])))) ∧ Same (fz R σ env H1) (fz (fun a => R a ∨ a = p ∨ a ∈ qs) (σ.set i (some (.ref p))) (env.set i (some (.ll (qs.map fun _ => [])))) H) := by
  have sub : Same (fz R σ env H1) (fz (fun a => R a ∨ a = p ∨ a ∈ qs) (σ.set i (some (.ref p))) (env.set i (some (.ll (qs.map fun _ => [])))) H) := fun a o h => by
    have na : ¬ (R a ∨ own σ env a) := fun z => by
      rw [show fz R σ env H1 a = none from hid_yes z] at h
      cases h
    rw [show fz R σ env H1 a = H1 a from hid_no na] at h
    show hid _ _ a = some o
    rw [hid_no (fun z => by
      rcases z with (z | z | z) | z
      · exact na (.inl z)
      · rw [z, hp] at h; cases h
      · rw [(hq a z).1] at h; cases h
      · exact na (.inr (own_setLL z)))]
    exact e _ _ h
  refine ⟨⟨S.ex.trans e, fun a h => ?_, fun q h z => ?_, fun j k xs t h1 h2 h3 => ?_, fun q h => S.new q (own_setLL h), fun j k xs ys q h1 h2 h3 h4 => ?_, fun j t h => ?_, by rw [List.length_set, List.length_set]; exact S.len⟩, sub⟩
  · rcases h with h | h | h
    · exact fun z => S.res a h (e.free z)
    · rw [h, hl]; intro z; cases z
    · rw [(hq a h).2]; intro z; cases z
  · have h := own_setLL h
    have n1 := S.resH (.inr h)
    rcases z with z | z | z
    · exact S.dis q h z
    · exact n1 (z ▸ hp)
    · exact n1 (hq q z).1
  · by_cases e1 : i = j
    · by_cases e2 : i = k
      · exact e1.symm.trans e2
      · rw [List.getElem?_set_ne e2] at h2
        rw [noR_at hn h2] at h3
        cases h3
    · rw [List.getElem?_set_ne e1] at h1
      exact absurd h1 (noLL_at hn)
  · have e1 : i ≠ j := fun e => by
      subst e
      rw [List.getElem?_set_self'] at h1
      cases q : env[i]? <;> rw [q] at h1 <;> simp at h1
    have e2 : i ≠ k := fun e => by
      subst e
      rw [List.getElem?_set_self'] at h2
      cases q : env[i]? <;> rw [q] at h2 <;> simp at h2
    rw [List.getElem?_set_ne e1] at h1 h3
    rw [List.getElem?_set_ne e2] at h2 h4
    exact S.inj j k xs ys q h1 h2 h3 h4
  · by_cases e1 : i = j
    · subst e1
      rw [List.getElem?_set_self'] at h
      cases q : env[i]? with
      | none => rw [q] at h; simp at h
      | some z =>
        rw [q] at h
        have h := Option.some.inj (Option.some.inj h)
        subst h
        have hlt : i < σ.length := by
          rw [S.len]
          exact (List.getElem?_eq_some_iff.mp q).1
        refine ⟨.ref p, by rw [List.getElem?_set_self hlt], p, qs, rfl, hl, .inr (.inl rfl), fun q h => .inr (.inr h), nd, np, by rw [List.length_map], S.ex.free hp, fun q h => S.ex.free (hq q h).1, fun k q xs h1 h2 => ?_⟩
        rw [List.getElem?_map, h1] at h2
        have h2 := Option.some.inj h2
        subst h2
        exact ⟨[], (hq q (List.mem_of_getElem? h1)).2, .nil⟩
    · rw [List.getElem?_set_ne e1] at h
      obtain ⟨v, hv, ht⟩ := S.slot j t h
      refine ⟨v, by rw [List.getElem?_set_ne e1]; exact hv, ?_⟩
      have ht := ht.mono sub e
      cases t with
      | d x => exact ht
      | l xs => exact ht
      | ll xss => exact absurd h (noLL_at hn)
      | p => exact ht
      | sl xs => exact absurd (noR_at hn h) (by intro z; cases z)
      | so c fs => exact absurd (noR_at hn h) (by intro z; cases z)
      | sd kvs => exact absurd (noR_at hn h) (by intro z; cases z)
/-- x = [[] for y in e] -/
def setLLF (i : Nat) (vs : List Nat) (fa : En → Rs D) : En → Rs Fl := withE fa fun d env => match itemsD d with
  | some xs => if noL env vs = true ∧ noLL env = true ∧ xs.length ≤ SL then .ok (.next (env.set i (some (.ll (xs.map fun _ => []))))) else .bad
  | none => .bad
def EmptyAt (H1 : Hp) (p : Addr) (i : Nat) (H : Hp) : Prop :=
  Same H1 H ∧ ∃ qs : List Addr, H p = some (.lst (qs.map V.ref)) ∧ qs.length = i ∧ qs.Nodup ∧ p ∉ qs ∧ ∀ q ∈ qs, H1 q = none ∧ H q = some (.lst [])
theorem empty_turn {p : Addr} {j i n : Nat} {v : V} {vs : List Nat} (hp : H1 p = none) (hj : j ∈ vs) (hi : i < n) (hn : n ≤ SL) (C : EmptyAt H1 p i H) :
    gName j v (wipe σ vs) H fun σ2 H2 => wipe σ2 vs = wipe σ vs ∧ tYes σ2 H2 fun b H3 => if b = true then tLst tNil σ2 H3 fun y H4 => ∃ acc, H4 p = some (.lst acc) ∧ acc.length < sizeLine ∧ EmptyAt H1 p (i + 1) (upd H4 p (.lst (acc ++ [y]))) else EmptyAt H1 p (i + 1) H3 := by
  obtain ⟨eH, qs, hl, hlen, nd, np, hq⟩ := C
  refine ⟨?_, ?_⟩
  · refine wipe_back (js := [j]) (fun k hk => by rw [List.mem_singleton.mp hk]; exact hj) (fun k hk => ?_) (by rw [List.length_set])
    rw [List.getElem?_set_ne (fun z => hk (by rw [z]; exact List.mem_singleton.mpr rfl))]
  · unfold tYes
    dsimp only
    rw [if_pos rfl]
    refine ⟨Nat.zero_le _, fun q hqn => ?_⟩
    have pq : p ≠ q := ne_of_none hl hqn
    refine ⟨qs.map V.ref, by rw [upd_ne pq]; exact hl, lt_sl (by rw [List.length_map]; omega), fun a o h => ?_, qs ++ [q], ?_, by rw [List.length_append, hlen]; rfl, ?_, ?_, ?_⟩
    · rw [upd_ne (ne_of_none h hp), upd_ne (ne_of_none (eH _ _ h) hqn)]
      exact eH _ _ h
    · rw [upd_same, List.map_append]
      rfl
    · rw [List.nodup_append]
      refine ⟨nd, List.nodup_cons.mpr ⟨by simp, .nil⟩, fun a ha b hb => ?_⟩
      rw [List.mem_singleton.mp hb]
      exact ne_of_none (hq a ha).2 hqn
    · intro z
      rcases List.mem_append.mp z with z | z
      · exact np z
      · exact pq (List.mem_singleton.mp z)
    · intro r hr
      rcases List.mem_append.mp hr with z | z
      · obtain ⟨z1, z2⟩ := hq r z
        refine ⟨z1, ?_⟩
        rw [upd_ne (fun w => np (by rw [← w]; exact z)), upd_ne (ne_of_none z2 hqn)]
        exact z2
      · rw [List.mem_singleton.mp z]
        refine ⟨eH.free hqn, ?_⟩
        rw [upd_ne pq.symm, upd_same]
theorem prs_setLL {i j : Nat} {vs : List Nat} (hj : j ∈ vs) (h : PS X s (tAsg (tLc (iSeq X.K (rdP X.K X.mg W .fz fa)) (gName j) tYes (tLst tNil) vs) (gName i))) : PRS X W nw s (setLLF i vs fa) := ps_imp h fun Dd σ H ⟨R0, R, H0, env, sb, S, q⟩ => by
  unfold setLLF withE at q
  show tLc (iSeq X.K (rdP X.K X.mg W .fz fa)) (gName j) tYes (tLst tNil) vs σ H fun x H1 => Dd.nx (σ.set i (some x)) H1
  cases ea : fa env with
  | exc x =>
    rw [ea] at q
    left
    refine ⟨R, H0, env, S, ?_⟩
    rw [ea]
    exact fun cls dd H' e xw => q cls dd R σ H' sb (S.up e) (fz_same e) xw
  | bad => rw [ea] at q; exact q.elim
  | ok d =>
    rw [ea] at q
    dsimp only at q
    cases ei : itemsD d with
    | none => rw [ei] at q; exact q.elim
    | some xs =>
      rw [ei] at q
      dsimp only at q
      split at q
      · rename_i hc
        have fin : ∀ H1 H2 (p : Addr), Same H H1 → H1 p = none → EmptyAt H1 p xs.length H2 → Dd.nx (σ.set i (some (.ref p))) H2 := fun H1 H2 p e1 hp C => by
          obtain ⟨eH, qs, hl, hlen, nd, np, hq⟩ := C
          obtain ⟨S2, sub⟩ := StR.setLL (i := i) (S.up e1) eH hc.2.1 hp hq nd np hl
          have ex : (qs.map fun _ => ([] : List D)) = xs.map fun _ => [] := by
            apply List.ext_getElem
            · rw [List.length_map, List.length_map, hlen]
            · intro k h1 h2
              rw [List.getElem_map, List.getElem_map]
          rw [ex] at S2 sub
          exact q _ _ _ (fun a h => ⟨.inl (sb a h).1, (sb a h).2⟩) S2 ((fz_same e1).trans sub)
        cases d <;> simp only [itemsD, reduceCtorEq, Option.some.injEq] at ei
        · subst ei
          left
          refine ⟨R, H0, env, S, ?_⟩
          rw [ea]
          intro v H1 e1 r1
          obtain ⟨p, ws, rfl, hp, hs⟩ := Dv.lst_of r1
          refine ⟨p, rfl, ⟨ws, .inl (.inl (hid_le _ _ hp))⟩, fun D hD => ?_⟩
          refine lc_list (K := X.K) (a := p) (xs := ws) (Qd := fun H => Dd.nx (σ.set i (some (.ref D))) H) (EmptyAt H1 D) ⟨fun a o h => by rw [upd_ne (ne_of_none h hD)]; exact h, [], upd_same, rfl, .nil, by simp, fun q h => by cases h⟩ (fun i H' _ C => .inl (.inl (C.1 _ _ (hid_le _ _ hp)))) (fun k x H' hx C => ?_) (fun H' C => fin H1 H' D e1 hD (by rw [hs.len] at C; exact C))
          exact empty_turn hD hj (List.getElem?_eq_some_iff.mp hx).1 (by rw [hs.len]; exact hc.2.2) C
        · subst ei
          left
          refine ⟨R, H0, env, S, ?_⟩
          rw [ea]
          intro v H1 e1 r1
          obtain ⟨p, ws, rfl, hp, hs⟩ := Dv.rol_of r1
          refine ⟨p, rfl, ⟨ws, hid_le.seq hp⟩, fun D hD => ?_⟩
          refine lc_list (K := X.K) (a := p) (xs := ws) (Qd := fun H => Dd.nx (σ.set i (some (.ref D))) H) (EmptyAt H1 D) ⟨fun a o h => by rw [upd_ne (ne_of_none h hD)]; exact h, [], upd_same, rfl, .nil, by simp, fun q h => by cases h⟩ (fun i H' _ C => Same.seq C.1 (hid_le.seq hp)) (fun k x H' hx C => ?_) (fun H' C => fin H1 H' D e1 hD (by rw [hs.len] at C; exact C))
          exact empty_turn hD hj (List.getElem?_eq_some_iff.mp hx).1 (by rw [hs.len]; exact hc.2.2) C
        · subst ei
          right
          refine ⟨R, H0, env, S, ?_⟩
          rw [ea]
          intro v H1 e1 r1
          obtain ⟨p, ws, rfl, hp, hs⟩ := Dv.tup_of r1
          refine ⟨p, rfl, ⟨ws, same_t hid_le hp⟩, fun D hD => ?_⟩
          refine lc_tup (K := X.K) (a := p) (xs := ws) (Qd := fun H => Dd.nx (σ.set i (some (.ref D))) H) (EmptyAt H1 D) ⟨fun a o h => by rw [upd_ne (ne_of_none h hD)]; exact h, [], upd_same, rfl, .nil, by simp, fun q h => by cases h⟩ (fun i H' _ C => same_t C.1 (same_g hid_le hp)) (fun k x H' hx C => ?_) (fun H' C => fin H1 H' D e1 hD (by rw [hs.len] at C; exact C))
          exact empty_turn hD hj (List.getElem?_eq_some_iff.mp hx).1 (by rw [hs.len]; exact hc.2.2) C
      · exact q.elim
theorem nodup_at {α : Type} : ∀ {l : List α} {i j : Nat} {x : α}, l.Nodup → l[i]? = some x → l[j]? = some x → i = j
  | [], i, _, _, _, h, _ => by simp at h
  | a :: l, 0, 0, _, _, _, _ => rfl
  | a :: l, 0, j + 1, x, nd, h1, h2 => by
    have e : a = x := Option.some.inj h1
    exact absurd (e ▸ List.mem_of_getElem? (l := l) h2) (List.nodup_cons.mp nd).1
  | a :: l, i + 1, 0, x, nd, h1, h2 => by
    have e : a = x := Option.some.inj h2
    exact absurd (e ▸ List.mem_of_getElem? (l := l) h1) (List.nodup_cons.mp nd).1
  | a :: l, i + 1, j + 1, x, nd, h1, h2 => congrArg (· + 1) (nodup_at (l := l) (i := i) (j := j) (List.nodup_cons.mp nd).2 h1 h2)
/-- one of the lists changes -/
theorem own_putLL {i : Nat} {xs ys : List (List D)} (hi : env[i]? = some (some (.ll xs))) {q : Addr} : own σ (env.set i (some (.ll ys))) q ↔ own σ env q := by
  have hl := (List.getElem?_eq_some_iff.mp hi).1
  constructor
  · rintro ⟨j, zs, h1, h2⟩
    by_cases e : i = j
    · subst e
      rw [List.getElem?_set_self hl] at h1
      have h1 := Option.some.inj (Option.some.inj h1)
      cases h1
    · rw [List.getElem?_set_ne e] at h1
      exact ⟨j, zs, h1, h2⟩
  · rintro ⟨j, zs, h1, h2⟩
    by_cases e : i = j
    · subst e
      rw [hi] at h1
      have h1 := Option.some.inj (Option.some.inj h1)
      cases h1
    · exact ⟨j, zs, by rw [List.getElem?_set_ne e]; exact h1, h2⟩
theorem StR.putLL (S : StR K mg R H0 σ H env) {i k : Nat} {xss : List (List D)} {ys : List D} {p q : Addr} {qs : List Addr} {ws : List V} (hi : env[i]? = some (some (.ll xss))) (hv : σ[i]? = some (some (.ref p))) (hp : H p = some (.lst (qs.map V.ref))) (hq : qs[k]? = some q)
    (hw : Dvs K mg (fz R σ env H) ws ys) : StR K mg R H0 σ (upd H q (.lst ws)) (env.set i (some (.ll (xss.set k ys)))) ∧ Same (fz R σ env H) (fz R σ (env.set i (some (.ll (xss.set k ys)))) (upd H q (.lst ws))) := by
  obtain ⟨v, hv2, p2, qs2, rfl, hp2, b1, b2, b3, b4, b5, b7, b8, b6⟩ := S.slot i _ hi
  rw [hv] at hv2
  have z := Option.some.inj (Option.some.inj hv2)
  injection z with z
  subst z
  rw [hp] at hp2
  have z := Option.some.inj hp2
  injection z with z
  have z : qs = qs2 := by
    have inj : ∀ (as bs : List Addr), as.map V.ref = bs.map V.ref → as = bs := by
      intro as
      induction as with
      | nil => intro bs h; cases bs with
        | nil => rfl
        | cons b bs => cases h
      | cons a as ih => intro bs h; cases bs with
        | nil => cases h
        | cons b bs =>
          rw [List.map_cons, List.map_cons] at h
          injection h with h1 h2
          injection h1 with h1
          rw [h1, ih bs h2]
    exact inj _ _ z
  subst z
  have Rq : R q := b2 q (List.mem_of_getElem? hq)
  have n0 : H0 q = none := b8 q (List.mem_of_getElem? hq)
  have sub : Same (fz R σ env H) (fz R σ (env.set i (some (.ll (xss.set k ys)))) (upd H q (.lst ws))) := fun a o h => by
    have na : ¬ (R a ∨ own σ env a) := fun z => by
      rw [show fz R σ env H a = none from hid_yes z] at h
      cases h
    have ne : a ≠ q := fun z => na (.inl (z ▸ Rq))
    rw [show fz R σ env H a = H a from hid_no na] at h
    show hid _ _ a = some o
    rw [hid_no (fun z => na (z.imp id (own_putLL hi).mp)), upd_ne ne]
    exact h
  have hl := (List.getElem?_eq_some_iff.mp hi).1
  have pq : p ≠ q := fun z => b4 (z ▸ List.mem_of_getElem? hq)
  refine ⟨⟨fun a o h => ?_, fun a h => ?_, fun r h => S.dis r ((own_putLL hi).mp h), fun j k2 xs t h1 h2 h3 => ?_, fun r h => S.new r ((own_putLL hi).mp h), fun j k2 as bs r h1 h2 h3 h4 => ?_, fun j t h => ?_, by rw [List.length_set]; exact S.len⟩, sub⟩
  · rw [upd_ne (ne_of_none h n0)]
    exact S.ex a o h
  · by_cases z : a = q
    · rw [z, upd_same]; intro z; cases z
    · rw [upd_ne z]; exact S.res a h
  · have g : ∀ (j : Nat) (xs : List (List D)), (env.set i (some (T.ll (xss.set k ys))))[j]? = some (some (T.ll xs)) → ∃ xs, env[j]? = some (some (T.ll xs)) := fun j xs h => by
      by_cases e : i = j
      · exact ⟨xss, e ▸ hi⟩
      · rw [List.getElem?_set_ne e] at h
        exact ⟨xs, h⟩
    obtain ⟨x1, h1⟩ := g j xs h1
    by_cases e2 : i = k2
    · exact (S.one j i x1 _ h1 hi rfl).trans e2
    · rw [List.getElem?_set_ne e2] at h2
      exact S.one j k2 x1 t h1 h2 h3
  · have g : ∀ (j : Nat) (as : List D), (env.set i (some (T.ll (xss.set k ys))))[j]? = some (some (T.l as)) → env[j]? = some (some (T.l as)) := fun j as h => by
      by_cases e : i = j
      · subst e
        rw [List.getElem?_set_self hl] at h
        have h := Option.some.inj (Option.some.inj h)
        cases h
      · rw [List.getElem?_set_ne e] at h
        exact h
    exact S.inj j k2 as bs r (g j as h1) (g k2 bs h2) h3 h4
  · by_cases e : i = j
    · subst e
      rw [List.getElem?_set_self hl] at h
      have h := Option.some.inj (Option.some.inj h)
      subst h
      refine ⟨.ref p, hv, p, qs, rfl, by rw [upd_ne pq]; exact hp, b1, b2, b3, b4, by rw [List.length_set]; exact b5, b7, b8, fun k2 r zs h1 h2 => ?_⟩
      by_cases e2 : k = k2
      · subst e2
        rw [hq] at h1
        have h1 := Option.some.inj h1
        subst h1
        have hk : k < xss.length := by
          rw [← b5]
          exact (List.getElem?_eq_some_iff.mp hq).1
        rw [List.getElem?_set_self hk] at h2
        have h2 := Option.some.inj h2
        subst h2
        exact ⟨ws, upd_same, hw.mono sub⟩
      · rw [List.getElem?_set_ne e2] at h2
        obtain ⟨vs2, hr, hs⟩ := b6 k2 r zs h1 h2
        have ne : r ≠ q := fun z => e2 (by
          subst z
          obtain ⟨l1, g1⟩ := List.getElem?_eq_some_iff.mp hq
          obtain ⟨l2, g2⟩ := List.getElem?_eq_some_iff.mp h1
          exact nodup_at b3 hq h1)
        exact ⟨vs2, by rw [upd_ne ne]; exact hr, hs.mono sub⟩
    · rw [List.getElem?_set_ne e] at h
      obtain ⟨v, hv2, ht⟩ := S.slot j t h
      refine ⟨v, hv2, ?_⟩
      cases t with
      | d x => exact Dv.mono sub ht
      | l zs =>
        obtain ⟨p2, vs2, rfl, hp2, hs2⟩ := ht
        have ne : p2 ≠ q := fun z => S.dis p2 ⟨j, zs, h, hv2⟩ (z ▸ Rq)
        exact ⟨p2, vs2, rfl, by rw [upd_ne ne]; exact hp2, hs2.mono sub⟩
      | ll yss => exact absurd (S.one i j xss _ hi h rfl) e
      | p => exact ht
      | sl xs => exact absurd (S.one i j xss _ hi h rfl) e
      | so c fs => exact absurd (S.one i j xss _ hi h rfl) e
      | sd kvs => exact absurd (S.one i j xss _ hi h rfl) e
/-- a statement upon the list of lists in slot i -/
def withLL (i : Nat) (k : List (List D) → En → Rs Fl) : En → Rs Fl := fun env => match env[i]? with
  | some (some (.ll xs)) => k xs env
  | _ => .bad
/-- x[e1].append(e2) -/
def appLLF (i : Nat) (f1 f2 : En → Rs D) : En → Rs Fl := withLL i fun xss => withE f1 fun k => match k with
  | .int k => match ixN xss.length k with
    | some j => withE f2 fun d env => match xss[j]? with
      | some xs => if xs.length < SL then .ok (.next (env.set i (some (.ll (xss.set j (xs ++ [d])))))) else .bad
      | none => .bad
    | none => fun _ => .bad
  | _ => fun _ => .bad
theorem prs_appLL {i : Nat} {f1 f2 : En → Rs D} (h : PS X s (tDrop (tBM X.K "list" rAppend (tOp (rIxL X.K) (tVar i) (rdP X.K X.mg W .fz f1)) (tCons (rdP X.K X.mg W .fz f2) tNil)))) : PRS X W nw s (appLLF i f1 f2) := ps_imp h fun Dd σ H ⟨R0, R, H0, env, sb, S, q⟩ => by
  unfold appLLF withLL at q
  split at q
  · rename_i xss hi
    obtain ⟨v, hv, p, qs, rfl, hp, b1, b2, b3, b4, b5, b7, b8, b6⟩ := S.slot i _ hi
    refine ⟨.ref p, hv, ?_⟩
    refine rd_with (ma := .fz) sb S (Same.refl _) q fun u k H1 e1 S1 r1 q1 => ?_
    cases k <;> try exact q1.elim
    rename_i k
    have eu := Rl.int (m := .fz) (H := H) (H1 := H1) r1
    subst eu
    dsimp only at q1
    cases hj : ixN xss.length k with
    | none => rw [hj] at q1; exact q1.elim
    | some j =>
      rw [hj] at q1
      dsimp only at q1
      have hjl : j < qs.length := by
        rw [b5]
        unfold ixN at hj
        split at hj
        · split at hj
          · have := Option.some.inj hj; omega
          · cases hj
        · split at hj
          · have := Option.some.inj hj; omega
          · cases hj
      have hq : qs[j]? = some qs[j] := List.getElem?_eq_getElem hjl
      have hxl : j < xss.length := by omega
      obtain ⟨ws, hq1, hs1⟩ := b6 j qs[j] xss[j] hq (List.getElem?_eq_getElem hxl)
      refine ⟨p, qs.map V.ref, k, .ref qs[j], rfl, rfl, .inl (.inl (e1 _ _ hp)), ?_, .inl ⟨rfl, ws, .inl (.inl (e1 _ _ hq1))⟩, ?_⟩
      · unfold atI
        rw [List.length_map, b5, hj]
        show (qs.map V.ref)[j]? = _
        rw [List.getElem?_map, hq]
        rfl
      · refine rd_with (ma := .fz) sb S1 (Same.refl _) q1 fun v d H2 e2 S2 r2 q2 => ?_
        rw [List.getElem?_eq_getElem hxl] at q2
        dsimp only at q2
        split at q2
        · rename_i hl
          have hs2 := (hs1.mono (fz_same e1)).mono (fz_same e2)
          obtain ⟨S3, sub⟩ := S2.putLL (k := j) (ys := xss[j] ++ [d]) hi hv (e2 _ _ (e1 _ _ hp)) hq (hs2.app (.cons r2 .nil))
          exact ⟨qs[j], ws, v, rfl, rfl, e2 _ _ (e1 _ _ hq1), lt_sl (by rw [hs1.len]; exact hl), q2 _ _ _ sb S3 sub⟩
        · exact q2.elim
  · exact q.elim
/-- the lists let go -/
theorem StR.freezeLL (S : StR K mg R H0 σ H env) {i : Nat} {xss : List (List D)} (hi : env[i]? = some (some (.ll xss))) :
    ∃ R', (∀ a, R a → H0 a ≠ none → R' a) ∧ StR K mg R' H0 σ H (env.set i (some (.d (.lst (xss.map .lst))))) ∧ Same (fz R σ env H) (fz R' σ (env.set i (some (.d (.lst (xss.map .lst))))) H) := by
  obtain ⟨v, hv, p, qs, rfl, hp, b1, b2, b3, b4, b5, b7, b8, b6⟩ := S.slot i _ hi
  have hl := (List.getElem?_eq_some_iff.mp hi).1
  have g : ∀ {q}, own σ (env.set i (some (.d (.lst (xss.map .lst))))) q → own σ env q := by
    rintro q ⟨j, zs, h1, h2⟩
    by_cases e : i = j
    · subst e
      rw [List.getElem?_set_self hl] at h1
      have h1 := Option.some.inj (Option.some.inj h1)
      cases h1
    · rw [List.getElem?_set_ne e] at h1
      exact ⟨j, zs, h1, h2⟩
  have sub : Same (fz R σ env H) (fz (fun a => R a ∧ a ≠ p ∧ a ∉ qs) σ (env.set i (some (.d (.lst (xss.map .lst))))) H) := hid_sub fun a h => h.imp (fun z => z.1) g
  have Fp : ∀ a, a = p ∨ a ∈ qs → fz (fun a => R a ∧ a ≠ p ∧ a ∉ qs) σ (env.set i (some (.d (.lst (xss.map .lst))))) H a = H a := fun a h => hid_no fun z => by
    rcases z with z | z
    · rcases h with h | h
      · exact z.2.1 h
      · exact z.2.2 h
    · have z := g z
      rcases h with h | h
      · exact S.dis a z (h ▸ b1)
      · exact S.dis a z (b2 a h)
  have gl : ∀ (j : Nat) (as : List D), (env.set i (some (T.d (.lst (xss.map .lst)))))[j]? = some (some (T.l as)) → env[j]? = some (some (T.l as)) := fun j as h => by
    by_cases e : i = j
    · subst e
      rw [List.getElem?_set_self hl] at h
      have h := Option.some.inj (Option.some.inj h)
      cases h
    · rw [List.getElem?_set_ne e] at h
      exact h
  have noll : ∀ (j : Nat) (xs : List (List D)), (env.set i (some (T.d (.lst (xss.map .lst)))))[j]? ≠ some (some (T.ll xs)) := fun j xs h => by
    by_cases e : i = j
    · subst e
      rw [List.getElem?_set_self hl] at h
      have h := Option.some.inj (Option.some.inj h)
      cases h
    · rw [List.getElem?_set_ne e] at h
      exact e (S.one i j xss _ hi h rfl)
  refine ⟨fun a => R a ∧ a ≠ p ∧ a ∉ qs, fun a h h0 => ⟨h, fun z => h0 (z ▸ b7), fun z => h0 (b8 a z)⟩, ⟨S.ex, fun a h => S.res a h.1, fun q h z => S.dis q (g h) z.1, fun j k xs t h1 _ _ => absurd h1 (noll j xs), fun q h => S.new q (g h), fun j k as bs q h1 h2 h3 h4 => S.inj j k as bs q (gl j as h1) (gl k bs h2) h3 h4, fun j t h => ?_, by rw [List.length_set]; exact S.len⟩, sub⟩
  by_cases e : i = j
  · subst e
    rw [List.getElem?_set_self hl] at h
    have h := Option.some.inj (Option.some.inj h)
    subst h
    refine ⟨.ref p, hv, Dv.lst ((Fp p (.inl rfl)).trans hp) ?_⟩
    have go : ∀ (qs' : List Addr) (xss' : List (List D)), qs'.length = xss'.length → (∀ (k : Nat) q xs, qs'[k]? = some q → xss'[k]? = some xs → q ∈ qs ∧ ∃ vs, H q = some (.lst vs) ∧ Dvs K mg (fz R σ env H) vs xs) →
        Dvs K mg (fz (fun a => R a ∧ a ≠ p ∧ a ∉ qs) σ (env.set i (some (.d (.lst (xss.map .lst))))) H) (qs'.map V.ref) (xss'.map .lst) := by
      intro qs'
      induction qs' with
      | nil => intro xss' h1 _; cases xss' with
        | nil => exact .nil
        | cons x xs => cases h1
      | cons q qs' ih => intro xss' h1 h2; cases xss' with
        | nil => cases h1
        | cons x xs =>
          obtain ⟨hm, vs, hq, hs⟩ := h2 0 q x rfl rfl
          exact .cons (Dv.lst ((Fp q (.inr hm)).trans hq) (hs.mono sub)) (ih xs (by simpa using h1) fun k q' xs' a b => h2 (k + 1) q' xs' a b)
    exact go qs xss b5 fun k q xs h1 h2 => ⟨List.mem_of_getElem? h1, b6 k q xs h1 h2⟩
  · rw [List.getElem?_set_ne e] at h
    obtain ⟨v, hv2, ht⟩ := S.slot j t h
    refine ⟨v, hv2, ?_⟩
    cases t with
    | d x => exact Dv.mono sub ht
    | l zs =>
      obtain ⟨p2, vs2, rfl, hp2, hs2⟩ := ht
      exact ⟨p2, vs2, rfl, hp2, hs2.mono sub⟩
    | ll yss => exact absurd (S.one i j xss _ hi h rfl) e
    | p => exact ht
    | sl xs => exact absurd (S.one i j xss _ hi h rfl) e
    | so c fs => exact absurd (S.one i j xss _ hi h rfl) e
    | sd kvs => exact absurd (S.one i j xss _ hi h rfl) e
def frzLLS (i : Nat) : En → Rs Fl := fun env => match env[i]? with
  | some (some (.ll xss)) => .ok (.next (env.set i (some (.d (.lst (xss.map .lst))))))
  | _ => .bad
theorem prb_frzLL (i : Nat) (h : PRB X W nw ss g) : PRB X W nw ss (seqS (frzLLS i) g) := pss_imp h fun Dd σ H ⟨R0, R, H0, env, sb, S, q⟩ => by
  unfold seqS frzLLS at q
  split at q
  · rename_i xs hi
    obtain ⟨R', hR, S2, sub⟩ := S.freezeLL hi
    rw [Rs.bind_ok] at q
    exact ⟨R0, R', H0, _, fun a h => ⟨hR a (sb a h).1 (sb a h).2, (sb a h).2⟩, S2, q.up sub⟩
  · exact q.elim

/-! ### attributes of objects that stay -/
def attrD (c f : Str) : D → Rs D
  | .obj c' fs => if c' = c then match fs.lookup f with
    | some d => .ok d
    | none => .bad
    else .bad
  | _ => .bad
theorem Dv.obj_of {F : Hp} {v : V} {c : Str} {fs : List (Str × D)} (h : Dv K mg F v (.obj c fs)) : ∃ p C dx vs, v = .ref p ∧ F p = some (.ins C dx vs) ∧ mg c = some (.ref C) ∧ Dfs K mg F vs fs := by
  cases h with
  | obj h1 h2 h3 => exact ⟨_, _, _, _, rfl, h1, h2, h3⟩
theorem pr_attr {c f : Str} (hC : ∀ C, X.mg c = some (.ref C) → Cls X.K C ∧ NoAttr X.K C f) (ha : PR X W .fz a fa) (hb : attributeBase a f X.env (eval a X.env) = eval a X.env := by rfl) : PR X W .fz (.Attribute a f pos) (op1 (attrD c f) fa) :=
  pe_imp (pe_fld ha hb) fun σ H Q ⟨R, H0, env, S, q⟩ => rd_seq1 S q fun x da H2 e2 S2 ra q2 => by
  cases da <;> try exact q2.elim
  rename_i c' fs
  unfold attrD at q2
  dsimp only at q2
  split at q2
  · rename_i hc
    subst hc
    split at q2
    · rename_i d hd
      obtain ⟨p, C, dx, vs, rfl, hp, hm, hs⟩ := Dv.obj_of ra
      obtain ⟨v, hv, hvd⟩ := hs.look hd
      obtain ⟨h1, h2⟩ := hC C hm
      exact ⟨p, C, dx, vs, v, rfl, hid_le _ _ hp, h1, h2, hv, q2 v H2 (Same.refl _) hvd⟩
    · exact q2.elim
  · exact q2.elim
end
end Orn

set_option linter.all false
set_option maxRecDepth 100000
set_option maxHeartbeats 4000000
namespace Orn
open L2 PySem PySem.Spec PyProof.Rows
section
variable {X : Cx} {W : L2.WX} {m ma mb : Md} {fa fb fc f fe : En → Rs D} {a b c e : Expr} {es : List Expr} {fs : En → Rs (List D)} {pos : Pos} {K : PySem.W.Frag} {mg : Str → Option Value}
variable {nw : Bool} {s : Stmt} {ss : List Stmt} {g g1 g2 : En → Rs Fl} {ga gb tt : En → Rs Bool} {R : Addr → Prop} {H0 : HZ} {H H' H1 : Hp} {σ : L2.St} {env : En}
/-! ### repr -/
def isCon : D → Bool
  | .lst _ => true
  | .rol _ => true
  | .tup _ => true
  | _ => false
def reprD (x : D) : Rs D := match x with
  | .int i => if i.natAbs.log2 < 1920 then .ok (.str (toString i)) else .bad
  | x => if isCon x = true then match toPy x with
    | some p => if PyData.showable p = true ∧ SeqAt.shaped p = true ∧ (PyData.shown p).length ≤ SL then .ok (.str (PyData.shown p)) else .bad
    | none => .bad
    else .bad
theorem call_repr_data (hr : Rm k X.A) : CallR X (.builtin "repr") (fun xs H Q => ∃ (a : Addr) (d : PyData), xs = [.ref a] ∧ Dp X.K H (.ref a) d ∧ PyData.showable d = true ∧ SeqAt.shaped d = true ∧ (PyData.shown d).length ≤ sizeLine ∧ Q (.str (PyData.shown d)) H) := by
  intro pins s σ H xs us Q I r h
  obtain ⟨a, d, rfl, hd, h1, h2, h3, q⟩ := h
  obtain ⟨u, rfl, hu⟩ := vals1 r
  have hu : u = Value.ref a := hu
  subst hu
  obtain ⟨as, hR⟩ := Dp.reads I d _ _ hd rfl
  have z : d.hasDict = false := PyData.hasDict_of_canLay d (SeqAt.canLay_of_shaped h2)
  have dep := SeqAt.depth_of_shaped h2
  have un := hr.r.un
  refine repr_of_reads' hR h1 (fun y => by rw [z] at y; cases y) hr.g (by omega) (fun _ _ e => e) (fun h' u tk hk => ?_) h3
  exact ⟨.str _, H, I.kept hk, ⟨_, rfl⟩, q⟩
theorem op_reprD : Op1 K mg W ma .fz reprD (fun x H Q => (∃ i, [x] = [V.int i] ∧ i.natAbs.log2 < 1920 ∧ Q (.str (toString i)) H) ∨
    ∃ (a : Addr) (d : PyData), [x] = [V.ref a] ∧ Dp K H (.ref a) d ∧ PyData.showable d = true ∧ SeqAt.shaped d = true ∧ (PyData.shown d).length ≤ sizeLine ∧ Q (.str (PyData.shown d)) H) := by
  intro R H0 σ env H Hs x da Q S ra q
  have con : ∀ p, isCon da = true → toPy da = some p → ∃ a, x = V.ref a ∧ Dp K H (.ref a) p := fun p hc hp => by
    have h := ra.pk hid_le
    cases da <;> simp only [isCon, reduceCtorEq, Bool.false_eq_true] at hc
    · obtain ⟨a, vs, rfl, h1, h2⟩ := h.lst_of
      exact ⟨a, rfl, Dv.dp _ (Dv.lst h1 h2) hp⟩
    · obtain ⟨a, vs, rfl, h1, h2⟩ := h.rol_of
      exact ⟨a, rfl, Dv.dp _ (Dv.rol h1 h2) hp⟩
    · obtain ⟨a, vs, rfl, h1, h2⟩ := h.tup_of
      exact ⟨a, rfl, Dv.dp _ (Dv.tup h1 h2) hp⟩
  unfold reprD at q
  split at q
  · rename_i i
    split at q
    · rename_i h
      exact .inl ⟨i, by rw [ra.int], h, q.flat S rfl⟩
    · exact q.elim
  · split at q
    · rename_i hc
      split at q
      · rename_i p hp
        split at q
        · rename_i h
          obtain ⟨a, rfl, hd⟩ := con p hc hp
          exact .inr ⟨a, p, rfl, hd, h.1, h.2.1, sl_of h.2.2, q.flat S rfl⟩
        · exact q.elim
      · exact q.elim
    · exact q.elim
theorem call_reprD {k : Nat} (hr : Rm k X.A) : CallR X (.builtin "repr") (fun xs H Q => (∃ i, xs = [V.int i] ∧ i.natAbs.log2 < 1920 ∧ Q (.str (toString i)) H) ∨
    ∃ (a : Addr) (d : PyData), xs = [V.ref a] ∧ Dp X.K H (.ref a) d ∧ PyData.showable d = true ∧ SeqAt.shaped d = true ∧ (PyData.shown d).length ≤ sizeLine ∧ Q (.str (PyData.shown d)) H) := callr_or SkE.call_repr_int (call_repr_data hr)

/-! ### isinstance, a built-in class -/
def tyName : D → Option String
  | .non => some "NoneType"
  | .bl _ => some "bool"
  | .int _ => some "int"
  | .str _ => some "str"
  | .lst _ => some "list"
  | .rol _ => some "list"
  | .tup _ => some "tuple"
  | .obj _ _ => none
def isiD (n : String) (x : D) : Rs D := match tyName x with
  | some t => match kitB t n with
    | some b => .ok (.bl b)
    | none => .bad
  | none => .bad
theorem tyX_of {v : V} {x : D} {t : String} (h : Dv K mg H v x) (ht : tyName x = some t) : TyX K H v (.type t) := by
  cases x <;> simp only [tyName, Option.some.injEq, reduceCtorEq] at ht <;> subst ht <;> cases h
  · exact .base .non
  · exact .base (.bl _)
  · exact .base (.int _)
  · exact .base (.str _)
  · rename_i h r
    exact .base (.lst h)
  · rename_i h r
    rcases h with (h | ⟨o, h⟩) | ⟨o, its, n, h1, h2, h3⟩
    · exact .base (.lst h)
    · exact .base (.frz h)
    · exact .kList h1 h2
  · rename_i h r
    rcases h with ⟨o, h, _⟩ | ⟨o, its, n, h1, h2, h3⟩
    · exact .fTuple h
    · exact .kTuple h1 h2
theorem op_isiD {n : String} : Op1 K mg W ma .fz (isiD n) (fun x H Q => rIsi K [x, .ty n] H Q) := by
  intro R H0 σ env H Hs x da Q S ra q
  unfold isiD at q
  split at q
  · rename_i t ht
    split at q
    · rename_i b hb
      exact ⟨x, .ty n, .type t, .type n, b, rfl, .ty n, tyX_of (ra.pk hid_le) ht, kit_ty hb, q.flat S rfl⟩
    · exact q.elim
  · exact q.elim
theorem pr_isi {n : String} {x t : Str} {p p2 : Pos} (gl : Gl X x) (hm : X.mg x = none) (hv : bootBuiltins x = some (.builtin "isinstance")) (gt : Gl X t) (hmt : X.mg t = none) (hvt : bootBuiltins t = some (.type n)) (ha : PR X W ma a fa)
    (hn : x ≠ "__name__" := by decide) (hdb : (x == ("__debug__" : Str)) = false := by decide) (hnt : t ≠ "__name__" := by decide) (hdt : (t == ("__debug__" : Str)) = false := by decide)
    (he : starEach (a :: [.Name t p2]) X.env = (false, eval a X.env) :: starEach [.Name t p2] X.env := by rfl) (he2 : starEach (.Name t p2 :: []) X.env = (false, eval (.Name t p2) X.env) :: starEach [] X.env := by rfl) (hpl : (backTo pos (starEach [.Name t p2] X.env)).any (·.1) = false := by rfl) :
    PR X W .fz (.Call (.Name x p) [a, .Name t p2] [] pos) (op1 (isiD n) fa) :=
  pe_imp (pe_callB (p := p) (pos := pos) call_isi gl hm hv (pa_cons ha (pa_cons (pe_bltn (v := .ty n) gt hmt hvt rfl hnt hdt) pa_nil he2) he) hn hdb he hpl) fun σ H Q ⟨R, H0, env, S, q⟩ => rd_seq1 S q fun x da H2 e2 S2 ra q2 => op_isiD S2 ra q2

/-! ### calls without arguments, fresh lists of calls -/
theorem pr_call0 {k : Nat} {g : List D → Rs D} {x : Str} {p : Pos} (F : Dn X.prog X.w X.K X.mg X.base k x 0 nw g) (hr : Rm k X.A) (gl : Gl X x) (tk : Takes X W) (hdb : (x == ("__debug__" : Str)) = false := by decide) :
    PR X W .fz (.Call (.Name x p) [] [] pos) (callF g nilA) := by
  obtain ⟨f, fd, ps, F, hm, hk, hb⟩ := F.ex
  refine pe_imp (pe_callG0 (p := p) (pos := pos) F hr gl hm hk hb tk hdb) fun σ H Q ⟨R, H0, env, S, q⟩ => ?_
  have q : Post X.K X.mg W R H0 σ env .fz H Q (g []) := q
  refine ⟨Ro R σ env, [], rfl, ro_res S, .nil, ?_⟩
  cases eg : g [] with
  | exc x =>
    rw [eg] at q
    exact fun cls dd H' e' xw => q cls dd H' e' xw
  | bad => rw [eg] at q; exact q
  | ok d =>
    rw [eg] at q
    exact fun v H' e' r _ => q v H' e' r

/-! ### t[::-1] of a tuple of none or one; t * k, k nought or one -/
/-! ### making an object that stays -/
/-- «x is a class whose objects are made by g» -/
structure Mn (P : Program) (w : World) (K : PySem.W.Frag) (mg : Str → Option Value) (base : Heap) (k : Nat) (x : Str) (n : Nat) (g : List D → Rs (List (Str × D))) : Prop where
  ex : ∃ C f fd ps, Mk K C f ∧ mg x = some (.ref C) ∧ Binds K fd ps [] ∧ FnOk P w K mg base CX0 k f fd ps (fun vs H Q _ => ∃ (R : Addr → Prop) (ds : List D) (x0 dx : Addr) (rest : List V), vs = .ref x0 :: rest ∧ rest.length = n ∧
    H x0 = some (.ins C dx []) ∧ R x0 ∧ (∀ a, R a → H a ≠ none) ∧ Dvs K mg (hid R H) rest ds ∧ ∃ fs, g ds = .ok fs ∧
      ∀ H' vs', (∀ a o, a ≠ x0 → H a = some o → H' a = some o) → H' x0 = some (.ins C dx vs') → Dfs K mg (hid R H') vs' fs → Q .non H')
def makeF (c : Str) (g : List D → Rs (List (Str × D))) (fs : En → Rs (List D)) : En → Rs D := fun env => fs env >>= fun ds => match g ds with
  | .ok fs => .ok (.obj c fs)
  | _ => .bad
theorem pr_make {k n : Nat} {g : List D → Rs (List (Str × D))} {x : Str} {p : Pos} (F : Mn X.prog X.w X.K X.mg X.base k x n g) (hr : Room (k + 1) X.A) (gl : Gl X x) (hs : PRA X W (e :: es) fs) (hn : ∀ env ds, fs env = .ok ds → ds.length = n)
    (hdb : (x == ("__debug__" : Str)) = false := by decide) (he : starEach (e :: es) X.env = (false, eval e X.env) :: starEach es X.env := by rfl) (hpl : (backTo pos (starEach es X.env)).any (·.1) = false := by rfl) :
    PR X W .fz (.Call (.Name x p) (e :: es) [] pos) (makeF x g fs) := by
  obtain ⟨C, f, fd, ps, M, hm, hb, F⟩ := F.ex
  refine pe_imp (pe_make (p := p) (pos := pos) M F hr gl hm hb .nil pass0 hs hdb he hpl) fun σ H Q ⟨R, H0, env, S, q⟩ => ?_
  refine ⟨R, H0, env, S, ?_⟩
  unfold makeF at q
  cases ea : fs env with
  | exc x => rw [ea] at q; exact q
  | bad => rw [ea] at q; exact q
  | ok ds =>
    rw [ea, Rs.bind_ok] at q
    intro vs H1 e1 r1
    split at q
    · rename_i ffs hg
      intro x0 dx hx hdx ne
      have S1 := S.up e1
      have nx : ∀ {o : HO} {b : Addr}, H1 b = some o → b ≠ x0 ∧ b ≠ dx := fun h => ⟨ne_of_none h hx, ne_of_none h hdx⟩
      have s0 : ∀ b o, H1 b = some o → upd (upd H1 dx (.own x0)) x0 (.ins C dx []) b = some o := fun b o h => by
        rw [upd_ne (nx h).1, upd_ne (nx h).2]
        exact h
      have sub : Same (fz R σ env H1) (hid (fun a => Ro R σ env a ∨ a = x0) (upd (upd H1 dx (.own x0)) x0 (.ins C dx []))) := fun b o h => by
        have nb : ¬ Ro R σ env b := fun z => by
          rw [show fz R σ env H1 b = none from hid_yes z] at h
          cases h
        rw [show fz R σ env H1 b = H1 b from hid_no nb] at h
        rw [hid_no (fun z => z.elim nb (nx h).1)]
        exact s0 _ _ h
      refine ⟨fun a => Ro R σ env a ∨ a = x0, ds, x0, dx, vs, by rw [List.append_nil], by rw [r1.len]; exact hn env ds ea, upd_same, .inr rfl, fun b h => ?_, r1.mono sub, ffs, hg, fun H' vs' keep hx' hfs => ⟨rfl, ?_⟩⟩
      · rcases h with h | h
        · intro z
          cases hb : H1 b with
          | none => exact S1.resH h hb
          | some o => rw [s0 _ _ hb] at z; cases z
        · rw [h, upd_same]; intro z; cases z
      · have eS : Same H1 H' := fun b o h => keep b o (nx h).1 (s0 _ _ h)
        refine q _ H' (e1.trans eS) (Dv.obj ((S1.newF eS hx).trans hx') hm (hfs.mono (hid_sub fun a h => .inl h)))
    · exact q.elim
end
end Orn

set_option linter.all false
set_option maxRecDepth 100000
set_option maxHeartbeats 4000000
namespace Orn
open L2 PySem PySem.Spec PyProof.Rows
section
variable {K : PySem.W.Frag} {mg : Str → Option Value} {W : L2.WX} {R : Addr → Prop} {H0 : HZ} {H H' H1 : Hp} {σ : L2.St} {env : En} {fa : En → Rs D}
/-! ### an __init__ that stores attributes -/
theorem StR.updR (S : StR K mg R H0 σ H env) {p : Addr} {o : HO} (hR : R p) (h0 : H0 p = none) (hn : noLL env = true) : StR K mg R H0 σ (upd H p o) env ∧ Same (fz R σ env H) (fz R σ env (upd H p o)) := by
  have sub : Same (fz R σ env H) (fz R σ env (upd H p o)) := hid_same fun a o' na h => by
    rw [upd_ne (fun z => na (.inl (by rw [z]; exact hR)))]
    exact h
  refine ⟨⟨fun a o' h => ?_, fun a h => ?_, S.dis, S.one, S.new, S.inj, fun i t h => ?_, S.len⟩, sub⟩
  · rw [upd_ne (ne_of_none h h0)]
    exact S.ex a o' h
  · by_cases z : a = p
    · rw [z, upd_same]; intro z; cases z
    · rw [upd_ne z]; exact S.res a h
  · obtain ⟨v, hv, ht⟩ := S.slot i t h
    refine ⟨v, hv, ?_⟩
    cases t with
    | d x => exact Dv.mono sub ht
    | l xs =>
      obtain ⟨q, vs, rfl, hq, hs⟩ := ht
      have ne : q ≠ p := fun z => S.dis q ⟨i, xs, h, hv⟩ (z ▸ hR)
      exact ⟨q, vs, rfl, by rw [upd_ne ne]; exact hq, hs.mono sub⟩
    | ll xss => exact absurd h (noLL_at hn)
    | p => exact ht
    | sl xs => exact absurd (noR_at hn h) (by intro z; cases z)
    | so c fs => exact absurd (noR_at hn h) (by intro z; cases z)
    | sd kvs => exact absurd (noR_at hn h) (by intro z; cases z)
def putD (f : Str) (x : D) : List (Str × D) → List (Str × D)
  | [] => [(f, x)]
  | (g, y) :: r => if g = f then (g, x) :: r else (g, y) :: putD f x r
theorem Dfs.put {f : Str} {v : V} {x : D} (hv : Dv K mg H v x) : ∀ {vs : List (Str × V)} {xs : List (Str × D)}, Dfs K mg H vs xs → Dfs K mg H (putF f v vs) (putD f x xs)
  | _, _, .nil => .cons hv .nil
  | _, _, .cons (f := g) h r => by
    unfold putF putD
    by_cases e : g = f
    · rw [if_pos e, if_pos e]
      exact .cons hv r
    · rw [if_neg e, if_neg e]
      exact .cons h (Dfs.put hv r)
theorem Dfs.length : ∀ {vs : List (Str × V)} {xs : List (Str × D)}, Dfs K mg H vs xs → vs.length = xs.length
  | _, _, .nil => rfl
  | _, _, .cons _ r => congrArg (· + 1) (Dfs.length r)
structure InitAt (K : PySem.W.Frag) (mg : Str → Option Value) (R : Addr → Prop) (H0 : HZ) (C dx x0 : Addr) (σ : L2.St) (env : En) (H : Hp) (fs : List (Str × D)) : Prop where
  s : StR K mg R H0 σ H env
  r : R x0
  n : H0 x0 = none
  l : noLL env = true
  me : σ[0]? = some (some (.ref x0))
  f : ∃ vs, H x0 = some (.ins C dx vs) ∧ Dfs K mg (fz R σ env H) vs fs
theorem init_step {C dx x0 : Addr} {fs : List (Str × D)} {f : Str} {d : D} {Dd : Ends} (I : InitAt K mg R H0 C dx x0 σ env H fs) (hc : Cls K C) (hn : NoAttr K C f) (hl : fs.length < 1000) (hd : fa env = .ok d)
    (next : ∀ H', InitAt K mg R H0 C dx x0 σ env H' (putD f d fs) → (∀ a o, a ≠ x0 → H a = some o → H' a = some o) → Dd.nx σ H') : sFld K (tVar 0) (rdP K mg W .fz fa) f Dd σ H := by
  refine ⟨R, H0, env, I.s, ?_⟩
  rw [hd]
  intro v H1 e1 r1
  obtain ⟨vs, hv, hf⟩ := I.f
  obtain ⟨S2, sub⟩ := (I.s.up e1).updR (p := x0) (o := .ins C dx (putF f v vs)) I.r I.n I.l
  refine ⟨.ref x0, I.me, x0, C, dx, vs, rfl, e1 _ _ hv, hc, hn, by rw [hf.length]; exact hl, next _ ⟨S2, I.r, I.n, I.l, I.me, _, upd_same, ((Dfs.put r1 (hf.mono (fz_same e1)))).mono sub⟩ fun a o ne h => ?_⟩
  rw [upd_ne ne]
  exact e1 _ _ h
end
end Orn

set_option linter.all false
set_option maxRecDepth 100000
set_option maxHeartbeats 4000000
namespace Orn
open L2 PySem PySem.Spec PyProof.Rows
section
variable {X : Cx} {W : L2.WX} {m ma mb : Md} {fa fb fc f fe : En → Rs D} {a b c e : Expr} {es : List Expr} {fs : En → Rs (List D)} {pos : Pos} {K : PySem.W.Frag} {mg : Str → Option Value}
/-! ### t.index(x), texts -/
def strsOf : List D → Option (List Str)
  | [] => some []
  | .str z :: xs => (strsOf xs).map (z :: ·)
  | _ => none
theorem strsOf_is {H : Hp} : ∀ {xs : List D} {zs : List Str} {vs : List V}, strsOf xs = some zs → Dvs K mg H vs xs → vs = zs.map V.str
  | [], zs, vs, h, r => by simp only [strsOf, Option.some.injEq] at h; subst h; cases r; rfl
  | .str z :: xs, zs, vs, h, r => by
    simp only [strsOf] at h
    cases q : strsOf xs with
    | none => rw [q] at h; cases h
    | some ms =>
      rw [q] at h
      simp only [Option.map_some, Option.some.injEq] at h
      subst h
      cases r with
      | cons h r =>
        cases h
        rw [strsOf_is q r]
        rfl
  | .non :: xs, _, _, h, _ => by simp [strsOf] at h
  | .bl _ :: xs, _, _, h, _ => by simp [strsOf] at h
  | .int _ :: xs, _, _, h, _ => by simp [strsOf] at h
  | .lst _ :: xs, _, _, h, _ => by simp [strsOf] at h
  | .rol _ :: xs, _, _, h, _ => by simp [strsOf] at h
  | .tup _ :: xs, _, _, h, _ => by simp [strsOf] at h
  | .obj _ _ :: xs, _, _, h, _ => by simp [strsOf] at h
def placeOf (z : Str) : List Str → Option Nat
  | [] => none
  | y :: ys => if y = z then some 0 else (placeOf z ys).map (· + 1)
theorem placeOf_is {z : Str} : ∀ {ys : List Str} {j : Nat}, placeOf z ys = some j → ys[j]? = some z ∧ ∀ m, m < j → ys[m]? ≠ some z
  | [], j, h => by simp [placeOf] at h
  | y :: ys, j, h => by
    unfold placeOf at h
    split at h
    · rename_i e
      have h := Option.some.inj h
      subst h e
      exact ⟨rfl, fun m hm => absurd hm (Nat.not_lt_zero m)⟩
    · rename_i e
      cases q : placeOf z ys with
      | none => rw [q] at h; cases h
      | some k =>
        rw [q] at h
        have h : k + 1 = j := Option.some.inj h
        subst h
        obtain ⟨h1, h2⟩ := placeOf_is q
        refine ⟨h1, fun m hm => ?_⟩
        cases m with
        | zero => exact fun z => e (Option.some.inj z)
        | succ m => exact h2 m (Nat.lt_of_succ_lt_succ hm)
def indexD : D → D → Rs D
  | .tup xs, .str z => match strsOf xs with
    | some zs => match placeOf z zs with
      | some j => .ok (.int (j : Int))
      | none => .bad
    | none => .bad
  | _, _ => .bad
def tupD : D → Rs D
  | .tup xs => .ok (.tup xs)
  | _ => .bad
theorem pr_index {ap cp : Pos} (ha : PR X W .fz a fa) (hb : PR X W .fz b fb)
    (hbase : attributeBase a "index" X.env (eval a X.env) = eval a X.env := by rfl)
    (hfew : ((backTo cp (starEach (b :: []) X.env)).all (fun x => !x.1) && (backToKw cp (keywordEach [] X.env)).all (fun x => x.1.isSome)
      && decide ((b :: ([] : List Expr)).length + ([] : List Keyword).length + (if ([] : List Keyword).isEmpty then 0 else 1) < 30)) = true := by rfl)
    (hline : (ap.endLine == cp.line) = true := by rfl) (hs : starEach (b :: []) X.env = (false, eval b X.env) :: starEach [] X.env := by rfl) (hplain : (backTo cp (starEach [] X.env)).any (·.1) = false := by rfl) :
    PR X W .fz (.Call (.Attribute a "index" ap) [b] [] cp) (op2 indexD (op1 tupD fa) fb) :=
  pe_imp (pe_bmG PySem.F.plainAttrs_tuple PySem.F.slot_tuple_index PySem.F.type_tuple_index mt_tup_index ha (pa_cons hb pa_nil hs) hbase hfew hline hs hplain) fun σ H Q ⟨R, H0, env, S, h⟩ => by
  refine ⟨R, H0, env, S, ?_⟩
  unfold op2 op1 at h
  cases ea : fa env with
  | exc x => rw [ea] at h; exact h
  | bad => rw [ea] at h; exact h
  | ok da =>
    rw [ea, Rs.bind_ok] at h
    have ht : (∃ xs, da = .tup xs) ∨ tupD da = .bad := by
      cases da with
      | tup xs => exact .inl ⟨xs, rfl⟩
      | _ => exact .inr rfl
    obtain ⟨xs, ht⟩ | ht := ht
    · subst ht
      have h : Post X.K X.mg W R H0 σ env .fz H Q (fb env >>= fun b => indexD (.tup xs) b) := h
      intro x H1 e1 r1
      obtain ⟨p, vs, rfl, hg, hr⟩ := Dv.tup_of r1
      refine ⟨⟨p, vs, rfl, same_g hid_le hg⟩, R, H0, env, S.up e1, ?_⟩
      cases eb : fb env with
      | exc x => rw [eb] at h; exact fun c d H' e' => h c d H' (e1.trans e')
      | bad => rw [eb] at h; exact h
      | ok db =>
        rw [eb, Rs.bind_ok] at h
        intro y H2 e2 r2
        cases db with
        | str z =>
          unfold indexD at h
          dsimp only at h
          split at h
          · rename_i zs hz
            split at h
            · rename_i j hj
              obtain ⟨q1, q2⟩ := placeOf_is hj
              have hy : y = V.str z := by cases r2; rfl
              refine ⟨p, zs, z, j, rfl, by rw [hy], ?_, q1, q2, ?_⟩
              · rw [← strsOf_is hz hr]
                exact same_t (Same.trans hid_le e2) hg
              · exact h _ H2 (e1.trans e2) (Dv.int _)
            · exact h.elim
          · exact h.elim
        | _ => exact h.elim
    · rw [ht] at h
      exact h.elim
end
end Orn

set_option linter.all false
set_option maxRecDepth 100000
set_option maxHeartbeats 4000000
namespace Orn
open L2 PySem PySem.Spec PyProof.Rows
abbrev FS (w : World) : Obj := { cls := .type "set", dict := none, data := .set #[] 0 (.fresh 0 0 (!w.params.followText "set-order")) }
section
variable {P : Program} {w : World} {A : Around} {E : Value → Shared → Prop} {s : Shared}
/-- set(l), l a list of whole numbers -/
theorem set_ints {l : Addr} {items : Array Value} (ns : List Int) {Q : Value → Shared → Prop} (hh : A.handled = none) (hl : s.heap.IsList l items) (hit : IntsAre items.toList ns) (hb : ns.length + 1 < scanBound)
    (h : ∀ (h' : Heap) (tk c : Nat), SetR w h' s.heap.objs.size (fun j => decide (j ∈ ns)) c → c ≤ ns.length → (∀ b o, s.heap.get? b = some o → h'.get? b = some o) → Q (.ref s.heap.objs.size) { s with heap := h', toks := tk }) :
    wpAny (model P w) A (call (.type "set") [.ref l]) Q E s := by
  have sz : items.size = ns.length := (Array.length_toList (xs := items)).symm.trans (IntsAre.length hit)
  have f0 := F.called_set.mro
  obtain ⟨cc, tl, hmro⟩ := f0
  have hmade := F.called_set.made; have hsub := F.called_set.sub
  refine wpAny_call (codeAny_of_tree (show wpAny _ _ (callAny (.type "set") _) _ _ _ from ?_))
  refine wpAny_pure ⟨Code.quiet_builtin _ (by decide +kernel), codeAny_builtin F.entry_type_call (?_ : _)⟩
  rw [Around.under_plain (weight_type_call_type "set" [.ref l] []) rfl]
  have h1 := F.called_set.notType; have h2 := F.called_set.canCreate; have hct := F.typeCall_set_1 (.ref l)
  repeat (any_goals (first | assumption | wp_step))
  refine codeAny_mono (code_set_led1 (.ref l) (E := E) (Q₁ := fun z t => z = .ref s.heap.objs.size ∧ t = { s with heap := s.heap.push (FS w) }) ⟨rfl, rfl⟩) fun r t hr => ?_
  match r, hr with
  | .error e, hr => exact hr
  | .ok .next, hr => exact hr.elim
  | .ok .brk, hr => exact hr.elim
  | .ok .cont, hr => exact hr.elim
  | .ok (.ret z), ⟨e1, e2⟩ =>
    subst e1 e2
    have hS : (s.heap.push (FS w)).get? s.heap.objs.size = some (FS w) := Heap.get?_push_size _ rfl
    have hT : Shared.TypeIs { s with heap := s.heap.push (FS w) } (.ref s.heap.objs.size) "set" := ⟨_, hS, rfl⟩
    have hli := F.called_set.init.lookup; have hbi := F.called_set.init.bind (.ref s.heap.objs.size)
    repeat (any_goals (first | assumption | wp_step))
    refine codeAny_mono (codeAny_call_builtin (R := wants (fun r t => r = .none ∧ ∃ h' tk c, t = { s with heap := h', toks := tk } ∧ SetR w h' s.heap.objs.size (fun j => decide (j ∈ ns)) c ∧ c ≤ ns.length ∧ (∀ b o, s.heap.get? b = some o → h'.get? b = some o)) E)
      F.called_set.init.plain F.entry_set_init (check_set_init_1 hT ?_)) fun r2 t2 hr2 => ?_
    · obtain ⟨⟨oc, od, odt, osl⟩, hol, hcl, nl, hdl⟩ := hl
      simp only at hcl hdl
      subst hcl hdl
      have hol2 : (s.heap.push (FS w)).get? l = some { cls := .type "list", dict := od, data := .seq items nl, slots := osl } := Heap.get?_push_of_some _ hol
      have n1 := F.sub_list_set; have n2 := F.sub_list_frozenset
      have n3 : (Value.type "list" == Value.type "dict") = false := by decide
      have hl1 : (s.heap.push (FS w)).IsList l items := ⟨_, hol2, rfl, nl, rfl⟩
      unfold Builtin.«set.__init__» noKeywords Builtin.Frozenset.updateFrom
      generalize hPI : pyIter = PI
      wp_walk
      subst hPI
      refine wpAny_pyIter_list hl1 (wpAny_bind (wpAny_runValue (?_ : _)))
      have lS : l < s.heap.objs.size := Heap.lt_size hol
      have hh3 : A.in1.in1.in1.handled = none := by simp [hh]
      have nI : l ≠ (s.heap.push (FS w)).objs.size := fun z => by
        rw [Heap.size_push] at z
        exact Nat.ne_of_lt (Nat.lt_succ_of_lt lS) z
      have nS : s.heap.objs.size ∉ [(s.heap.push (FS w)).objs.size, l] := fun z => by
        rw [Heap.size_push] at z
        rcases List.mem_cons.mp z with z | z
        · exact Nat.ne_of_lt (Nat.lt_succ_self _) z
        · exact Nat.ne_of_gt lS (List.mem_singleton.mp z)
      have hval : ∀ (i : Nat) (v : Value), items[i]? = some v → ∃ k t, ns[i]? = some k ∧ v = .int k t := fun i v hv => by
        have hi : i < ns.length := sz ▸ (Array.getElem?_eq_some_iff.mp hv).1
        obtain ⟨t, e⟩ := IntsAre.int_at hit i v ((Array.getElem?_toList (xs := items)).trans hv)
        refine ⟨ns[i], t, List.getElem?_eq_getElem hi, e.trans ?_⟩
        rw [List.getD_eq_getElem?_getD, List.getElem?_eq_getElem hi]
        rfl
      refine set_update_ints ((Walks.list hh3 _ l nI items).toS) s.heap.objs.size nS ns sz hb hval (items.size - 0) 0 _ (by omega) (Nat.zero_le _) ⟨⟨_, Heap.get?_push_size _ rfl, rfl, rfl⟩, (hl1.push _)⟩
        ⟨0, Nat.le_refl 0, setR_new_at (Heap.get?_push_of_some _ hS)⟩ fun s' c' hm hc' hS' => ?_
      obtain ⟨h', g2, d', tk', os'⟩ := s'
      obtain rfl : g2 = s.gens := hm.gens
      obtain rfl : d' = s.drawn := hm.drawn
      obtain rfl : os' = s.os := hm.os
      show wpAny _ _ _ _ _ _
      refine wpAny_pure ?_
      show wpAny _ _ (ret Value.none) _ _ _
      refine wpAny_pure ⟨rfl, h', tk', c', rfl, hS', sz ▸ hc', fun b o e => ?_⟩
      have b0 : b < s.heap.objs.size := Heap.lt_size e
      refine hm.heap b o (fun z => ?_) (Heap.get?_push_of_some _ (Heap.get?_push_of_some _ e))
      rcases List.mem_cons.mp z with z | z
      · exact Nat.ne_of_lt b0 z
      · rw [Heap.size_push] at z
        exact Nat.ne_of_lt (Nat.lt_succ_of_lt b0) (List.mem_singleton.mp z)
    · match r2, hr2 with
      | .error e, hr2 => exact hr2
      | .ok .next, hr2 => exact hr2.elim
      | .ok .brk, hr2 => exact hr2.elim
      | .ok .cont, hr2 => exact hr2.elim
      | .ok (.ret z), ⟨e1, h', tk, c, e2, k1, k2, k3⟩ =>
        subst e1 e2
        repeat (any_goals (first | assumption | wp_step))
        exact h _ _ _ k1 k2 k3
end
end Orn

set_option linter.all false
set_option maxRecDepth 100000
set_option maxHeartbeats 4000000
namespace Orn
open L2 PySem PySem.Spec PyProof.Rows
section
variable {X : Cx} {W : L2.WX} {m ma mb : Md} {fa fb fc f fe : En → Rs D} {a b c e : Expr} {es : List Expr} {fs : En → Rs (List D)} {pos : Pos} {K : PySem.W.Frag} {mg : Str → Option Value}
def rSetI (K : PySem.W.Frag) (w : World) : List V → Hp → VK → Prop := fun xs H Q => ∃ (a : Addr) (ns : List Int), xs = [V.ref a] ∧ SqL K H a (ns.map V.int) ∧ ns.length < 64 ∧
  ∀ p c, H p = none → c ≤ ns.length → Q (.ref p) (upd H p (SetO w p (fun j => decide (j ∈ ns)) c))
theorem ints_are : ∀ {ns : List Int} {us : List Value}, Vals (ns.map V.int) us → IntsAre us ns
  | [], us, h => by cases h; exact .nil
  | n :: ns, us, h => by
    cases h with
    | cons h t =>
      obtain ⟨tk, rfl⟩ := h
      exact .cons n tk (ints_are t)
theorem call_setI (hc : X.calm = true) : CallR X (.type "set") (rSetI X.K X.w) := by
  intro pins s σ H xs us Q I r h
  obtain ⟨a, ns, rfl, hq, hl, q⟩ := h
  rw [Vals.ref1 r]
  obtain ⟨its, hr, ⟨o, n, h1, h2, h3, h4⟩, hz⟩ := I.list hq
  refine set_ints ns (I.ok.hd hc) ⟨o, h1, h2, n, h4⟩ (by simpa using ints_are hr) (by have : (64 : Nat) + 1 < scanBound := by decide
                                                                                      omega) fun h' tk c hS hcn hk => ?_
  exact ⟨.ref s.heap.objs.size, upd H s.heap.objs.size (SetO X.w s.heap.objs.size (fun j => decide (j ∈ ns)) c), I.laid (t' := tk) hk (Nat.le_refl _) (setO_new hS), rfl, q _ c (I.hok.fresh (Nat.le_refl _)) hcn⟩
/-- strictly ascending -/
def insU (x : Int) : List Int → List Int
  | [] => [x]
  | y :: ys => if x < y then x :: y :: ys else if x = y then y :: ys else y :: insU x ys
def iset : List Int → List Int
  | [] => []
  | x :: xs => insU x (iset xs)
theorem insU_mem (x : Int) : ∀ (l : List Int) (k : Int), k ∈ insU x l ↔ k = x ∨ k ∈ l
  | [], k => by simp [insU]
  | y :: ys, k => by
    unfold insU
    split
    · simp
    · split
      · rename_i h; subst h; simp
      · rw [List.mem_cons, insU_mem x ys k, List.mem_cons]
        exact ⟨fun z => z.elim (fun z => .inr (.inl z)) fun z => z.elim .inl fun z => .inr (.inr z), fun z => z.elim (fun z => .inr (.inl z)) fun z => z.elim .inl fun z => .inr (.inr z)⟩
theorem insU_asc (x : Int) : ∀ l : List Int, l.Pairwise (· < ·) → (insU x l).Pairwise (· < ·)
  | [], _ => by unfold insU; simp
  | y :: ys, h => by
    unfold insU
    have h0 := h
    rw [List.pairwise_cons] at h
    split
    · rename_i q
      rw [List.pairwise_cons]
      exact ⟨fun z hz => by
        rcases List.mem_cons.mp hz with e | e
        · omega
        · have := h.1 z e
          omega, h0⟩
    · split
      · exact h0
      · rename_i q1 q2
        rw [List.pairwise_cons]
        refine ⟨fun z hz => ?_, insU_asc x ys h.2⟩
        rcases (insU_mem x ys z).mp hz with e | e
        · omega
        · exact h.1 z e
theorem iset_mem : ∀ (l : List Int) (k : Int), k ∈ iset l ↔ k ∈ l
  | [], k => by simp [iset]
  | x :: xs, k => by rw [iset, insU_mem, iset_mem xs k, List.mem_cons]
theorem iset_asc : ∀ l : List Int, (iset l).Pairwise (· < ·)
  | [] => .nil
  | x :: xs => insU_asc x _ (iset_asc xs)
theorem asc_eq : ∀ {l l' : List Int}, l.Pairwise (· < ·) → l'.Pairwise (· < ·) → (∀ k, k ∈ l ↔ k ∈ l') → l = l'
  | [], [], _, _, _ => rfl
  | [], y :: ys, _, _, h => by have := (h y).mpr List.mem_cons_self; simp at this
  | x :: xs, [], _, _, h => by have := (h x).mp List.mem_cons_self; simp at this
  | x :: xs, y :: ys, h1, h2, h => by
    rw [List.pairwise_cons] at h1 h2
    have e : x = y := by
      rcases List.mem_cons.mp ((h x).mp List.mem_cons_self) with e | e
      · exact e
      · rcases List.mem_cons.mp ((h y).mpr List.mem_cons_self) with e2 | e2
        · exact e2.symm
        · have a := h2.1 x e
          have b := h1.1 y e2
          omega
    subst e
    rw [asc_eq h1.2 h2.2 fun k => ⟨fun hk => ?_, fun hk => ?_⟩]
    · rcases List.mem_cons.mp ((h k).mp (List.mem_cons_of_mem _ hk)) with e | e
      · have := h1.1 k hk
        omega
      · exact e
    · rcases List.mem_cons.mp ((h k).mpr (List.mem_cons_of_mem _ hk)) with e | e
      · have := h2.1 k hk
        omega
      · exact e
def ssetD : D → Rs D
  | .lst xs => match intsOf xs with
    | some ns => if ns.length < 64 then .ok (.lst ((iset ns).map D.int)) else .bad
    | none => .bad
  | _ => .bad
theorem pr_sortedSet {p p2 pos2 : Pos} (na : ma ≠ .pk) (hc : X.calm = true) (gs : Gl X "sorted") (ms : X.mg "sorted" = none) (gt : Gl X "set") (mt : X.mg "set" = none) (ha : PR X W ma a fa)
    (he : starEach (a :: []) X.env = (false, eval a X.env) :: starEach [] X.env := by rfl) (hpl : (backTo pos2 (starEach [] X.env)).any (·.1) = false := by rfl)
    (he' : starEach ((Expr.Call (.Name "set" p2) [a] [] pos2) :: []) X.env = (false, eval (Expr.Call (.Name "set" p2) [a] [] pos2) X.env) :: starEach [] X.env := by rfl) (hpl' : (backTo pos (starEach [] X.env)).any (·.1) = false := by rfl) :
    PR X W .new (.Call (.Name "sorted" p) [.Call (.Name "set" p2) [a] [] pos2] [] pos) (op1 ssetD fa) :=
  pe_imp (pe_callB (p := p) (pos := pos) (cr_sortedSet hc) gs ms boot_sorted (pa_cons (pe_callTy (p := p2) (pos := pos2) (call_setI hc) gt mt boot_set (pa_cons ha pa_nil he) (by decide) (by decide) he hpl) pa_nil he') (by decide) (by decide) he' hpl') fun σ H Q ⟨R, H0, env, S, q⟩ => rd_seq1 S q fun x da H2 e2 S2 ra q2 => by
  cases da <;> try exact q2.elim
  rename_i xs
  unfold ssetD at q2
  dsimp only at q2
  split at q2
  · rename_i ns hns
    split at q2
    · rename_i hlen
      have e := intsOf_is hns
      subst e
      obtain ⟨l, vs, rfl, hp, hv⟩ := ra.sh na hid_le
      have e3 := hv.ints
      subst e3
      refine ⟨l, ns, rfl, .inl (.inl hp), hlen, fun q c hq hcn => ?_⟩
      refine ⟨q, (fun j => decide (j ∈ ns)), c, rfl, upd_same, Nat.lt_of_le_of_lt hcn hlen, fun ns' r hpw hmem hl hr => ?_⟩
      have e4 : ns' = iset ns := asc_eq hpw (iset_asc ns) fun k => by rw [hmem, iset_mem]; simp
      subst e4
      have sm : Same H2 (upd H2 q (SetO X.w q (fun j => decide (j ∈ ns)) c)) := fun a o z => (upd_ne (ne_of_none z hq)).trans z
      exact post_lst (.inr rfl) (S2.up sm) (Dvs.of_ints _) (Post.up sm q2) r hr
    · exact q2.elim
  · exact q2.elim
end
end Orn

set_option linter.all false
set_option maxRecDepth 100000
set_option maxHeartbeats 4000000
namespace Orn
open L2 PySem PySem.Spec PyProof.Rows
section
variable {P : Program} {w : World} {K : PySem.W.Frag} {mg : Str → Option Value} {base : Heap} {R : Addr → Prop} {H : Hp}
def lessH (H : Hp) (p : Addr) : Hp := fun a => if a = p then none else H a
def argsI (ds : List D) (n : Nat) : En := none :: args0 ds n
theorem argsI_at {ds : List D} {n i : Nat} {t : T} (h : (argsI ds n)[i]? = some (some t)) : ∃ j d, i = j + 1 ∧ ds[j]? = some d ∧ t = .d d := by
  cases i with
  | zero => cases h
  | succ j =>
    obtain ⟨d, h1, h2⟩ := args0_at (show (args0 ds n)[j]? = some (some t) from h)
    exact ⟨j, d, rfl, h1, h2⟩
theorem argsI_fz {ds : List D} {n : Nat} {σ : L2.St} : fz R σ (argsI ds n) H = hid R H := by
  unfold fz
  congr 1
  funext a
  refine propext ⟨fun h => h.elim id fun ⟨i, xs, h1, _⟩ => ?_, .inl⟩
  obtain ⟨_, _, _, _, z⟩ := argsI_at h1
  cases z
theorem init_start {N : List Str} {C dx x0 : Addr} {rest : List V} {ds : List D} (hN : rest.length + 1 = N.length) (hx : H x0 = some (.ins C dx [])) (hR0 : R x0) (hR : ∀ a, R a → H a ≠ none) (hv : Dvs K mg (hid R H) rest ds) :
    InitAt K mg R ⟨lessH H x0, x0⟩ C dx x0 (L2.start N (.ref x0 :: rest)) (argsI ds rest.length) H [] := by
  refine ⟨⟨fun a o h => ?_, hR, fun p h => ?_, fun i j xs ys h1 => ?_, fun p h => ?_, fun i j xs ys p h1 => ?_, fun i t h => ?_, ?_⟩, hR0, if_pos rfl, ?_, rfl, [], hx, .nil⟩
  · have h : lessH H x0 a = some o := h
    unfold lessH at h
    split at h
    · cases h
    · exact h
  · obtain ⟨i, xs, h1, _⟩ := h
    obtain ⟨_, _, _, _, z⟩ := argsI_at h1
    cases z
  · obtain ⟨_, _, _, _, z⟩ := argsI_at h1
    cases z
  · obtain ⟨i, xs, h1, _⟩ := h
    obtain ⟨_, _, _, _, z⟩ := argsI_at h1
    cases z
  · obtain ⟨_, _, _, _, z⟩ := argsI_at h1
    cases z
  · obtain ⟨j, d, rfl, hd, rfl⟩ := argsI_at h
    obtain ⟨v, hv1, hv2⟩ := hv.get hd
    have hi : j < rest.length := (List.getElem?_eq_some_iff.mp hv1).1
    refine ⟨v, ?_, ?_⟩
    · unfold L2.start
      rw [List.map_cons, List.cons_append, List.getElem?_cons_succ, List.getElem?_append_left (by rw [List.length_map]; exact hi), List.getElem?_map, hv1]
      rfl
    · show Dv K mg (fz R _ _ H) v d
      rw [argsI_fz]
      exact hv2
  · unfold L2.start argsI args0
    simp only [List.length_append, List.length_cons, List.length_map, List.length_replicate, hv.len]
    have := hv.len
    omega
  · unfold noLL
    rw [List.all_eq_true]
    intro t ht
    rcases List.mem_cons.mp ht with rfl | ht
    · rfl
    · unfold args0 at ht
      rcases List.mem_append.mp ht with ht | ht
      · obtain ⟨d, _, rfl⟩ := List.mem_map.mp ht
        rfl
      · rw [List.eq_of_mem_replicate ht]
theorem putD_len {f : Str} {x : D} : ∀ l : List (Str × D), (putD f x l).length ≤ l.length + 1
  | [] => Nat.le_refl _
  | (g, y) :: r => by
    unfold putD
    split
    · exact Nat.le_succ _
    · exact Nat.succ_le_succ (putD_len r)
theorem putD_lt {f : Str} {x : D} {l : List (Str × D)} {n : Nat} (h : l.length < n) : (putD f x l).length < n + 1 := Nat.lt_succ_of_le (Nat.le_trans (putD_len l) h)
end
end Orn

set_option linter.all false
set_option maxRecDepth 100000
set_option maxHeartbeats 4000000
namespace Orn
open L2 PySem PySem.Spec PyProof.Rows
/-! ### the end of a law by its mirror -/
def Sized (n : Nat) (ns : List Int) : Prop := ns.length ≤ n ∧ ∀ z ∈ ns, Builtin.Int.intBits z ≤ 1048576
def spL (K : PySem.W.Frag) (n : Nat) : Sp := fun vs H Q _ => ∃ (a : Addr) (ns : List Int), vs = [.ref a] ∧ SqL K H a (ns.map V.int) ∧ Sized n ns ∧ ∀ H', Q (.bl true) H'
theorem hid_none {H : Hp} : hid (fun _ => False) H = H := by
  funext a
  exact hid_no fun z => z
theorem fnG_law {P : Program} {w : World} {K : PySem.W.Frag} {mg : Str → Option Value} {base : Heap} {k n : Nat} {f : Addr} {fd : FuncData} {x : Str} {g : List D → Rs D} (F : FnG P w K mg base k f fd [x] (spD K mg 1 false g))
    (h : ∀ ns, Sized n ns → g [.rol (ns.map D.int)] = .ok (.bl true)) : FnG P w K mg base k f fd [x] (spL K n) := by
  refine ⟨fun vs H Q E q => ?_, fun A outer s H args us vs Q E hr he hb hv q => F.run A outer s H args us vs Q E hr he hb hv ?_⟩
  · obtain ⟨a, ns, rfl, _⟩ := q
    rfl
  · obtain ⟨a, ns, rfl, hS, hn, q⟩ := q
    refine ⟨fun _ => False, [.rol (ns.map D.int)], rfl, fun _ z => z.elim, .cons ?_ .nil, ?_⟩
    · rw [hid_none]
      exact .rol hS (Dvs.of_ints ns)
    · rw [h ns hn]
      intro v H' _ hd _
      cases hd
      exact q H'
theorem walk_L {l : PySem.W.OpenLaw} {n k : Nat} {q : Program} {loose : List Str} {XP : (Str → Option Value) → Heap → Prop} {YP : World → Heap → Prop} {d : DefRec} {K : Params → PySem.W.Frag} {x : Str} {g : List D → Rs D}
    (hn : l.most = some n) (hn2 : n ≤ sizeLine) (hdf : d.params.defaults = []) (hr : Rm k callerA) (hY : ∀ (w : World) (h : Heap), YP w h → (K w.params).In h) (hg : ∀ ns, Sized n ns → g [.rol (ns.map D.int)] = .ok (.bl true))
    (F : ∀ (w : World) (mg : Str → Option Value) (fa : Addr) (h : Heap), (K w.params).In h → h.Ns mainGlobals mg → mg d.name = some (.ref fa) →
      ∃ fd : FuncData, (∀ (s : Shared) (u : Value), BindsTo s fd ⟨[u], []⟩ [(x, u)]) ∧ ∀ base : Heap, (K w.params).In base → base.Ns mainGlobals mg → FnG l.prog w (K w.params) mg base k fa fd [x] (spD (K w.params) mg 1 false g)) :
    PySem.W.WalkO q loose XP YP l.row.toRowW d [] (fun f vs => PySem.call f vs) := by
  refine Att.attach_callB hn hdf fun w s0 s1 mg mb fa o pm cd doc a vs ns G Y ho hd hcd hmg hobj hints hlen hbits hgs => ?_
  have kx := hY w _ Y
  obtain ⟨fd, hb, hF⟩ := F w mg fa _ kx G.T.g hmg
  exact law_callG (sp := spL (K w.params) n) kx G.T.g G.T.b G.T.builtins G.T.nolimit hgs hobj hints (Nat.le_trans hlen hn2) hr (fun base b1 b2 => fnG_law (hF base b1 b2) hg) hb fun H hO hS => ⟨a, ns, rfl, hS, ⟨hlen, hbits⟩, fun _ => rfl⟩
end Orn

set_option linter.all false
set_option maxRecDepth 100000
set_option maxHeartbeats 4000000
namespace Orn
open L2 PySem PySem.Spec PyProof.Rows
section
variable {X : Cx} {W : L2.WX} {m ma mb : Md} {fa fb fc f : En → Rs D} {a b c e : Expr} {es : List Expr} {fs : En → Rs (List D)} {pos : Pos} {K : PySem.W.Frag} {mg : Str → Option Value} {H H' : Hp} {σ : L2.St} {env : En}
variable {nw : Bool} {s : Stmt} {ss : List Stmt} {g g1 g2 : En → Rs Fl} {ga gb : En → Rs Bool}
/-! ### x += e, whole numbers -/
def augF (h : Int → Int → Int) (i : Nat) (fa : En → Rs D) : En → Rs Fl := fun env => match env[i]? with
  | some (some (.d (.int k))) => withE fa (fun d env => match d with
    | .int j => .ok (.next (env.set i (some (.d (.int (h k j))))))
    | _ => .bad) env
  | _ => .bad
theorem prs_aug {h : Int → Int → Int} {op : Operator} {i : Nat} {x : Str} {pos' : Pos} (ho : PIp X op (ipI h)) (hN : X.N.Nodup) (hi : X.N[i]? = some x) (hx : Loc X.env.scope x) (ha : PR X W .fz a fa)
    (hf : X.fn x = true ∨ X.env.scope.names.lookup x = some .local := by first | exact .inl rfl | exact .inr rfl | assumption) : PRS X W nw (.AugAssign (.Name x pos') op a pos) (augF h i fa) :=
  ps_imp (ps_aug (pos := pos) hN hi hx ha ho hf) fun Dd σ H ⟨R0, R, H0, env, sb, S, q⟩ => by
  unfold augF at q
  split at q
  · rename_i k hk
    obtain ⟨v, hv, ht⟩ := S.slot i _ hk
    have ht : Dv X.K X.mg (fz R σ env H) v (.int k) := ht
    cases ht
    refine ⟨.int k, hv, ?_⟩
    refine rd_with (ma := .fz) sb S (Same.refl _) q fun v d H1 e1 S1 r1 q1 => ?_
    cases d <;> try exact q1.elim
    rename_i j
    have r1 := Rl.int (m := .fz) r1
    subst r1
    exact ⟨k, j, rfl, rfl, q1 _ _ _ sb (S1.setD (.int _)) fz_setD⟩
  · exact q.elim
/-! ### while -/
def whileF (t : En → Rs Bool) (g : En → Rs Fl) : Nat → En → Rs Fl
  | 0, _ => .bad
  | n + 1, env => match t env with
    | .ok true => seqS g (whileF t g n) env
    | .ok false => .ok (.next env)
    | .exc e => .ok (.raise e env)
    | .bad => .bad
/-- a while that ends within that many turns -/
abbrev manyW : Nat := 1000000
def WhileAt (K : PySem.W.Frag) (mg : Str → Option Value) (W : L2.WX) (nw : Bool) (R0 : Addr → Prop) (H0 : HZ) (Fs : Hp) (Dd : Ends) (t : En → Rs Bool) (g : En → Rs Fl) (n : Nat) (σ : L2.St) (H : Hp) : Prop :=
  ∃ R env, (∀ a, R0 a → R a ∧ H0 a ≠ none) ∧ StR K mg R H0 σ H env ∧ Same Fs (fz R σ env H) ∧ PostS K mg W nw R0 H0 Fs Dd (whileF t g n env)
theorem prs_while {t : Expr} {body : List Stmt} (hp : PassesOwn (model X.prog X.w) X.A X.env X.xe) (ht : PRT X W t ga) (hb : PRB X W nw body g) : PRS X W nw (.While t body [] pos) (whileF ga g manyW) :=
  ps_imp (ps_while (pos := pos) hp ht hb) fun Dd σ H ⟨R0, R, H0, env, sb, S, q⟩ => by
  refine ⟨WhileAt X.K X.mg W nw R0 H0 (fz R σ env H) Dd ga g, ⟨manyW, R, env, sb, S, Same.refl _, q⟩, ?_⟩
  intro n σ1 H1 ⟨R1, env1, sb1, S1, f1, q1⟩
  refine ⟨R1, H0, env1, S1, ?_⟩
  cases n with
  | zero => exact q1.elim
  | succ n =>
    unfold whileF at q1
    cases ea : ga env1 with
    | exc x =>
      rw [ea] at q1
      exact fun cls dd H' e xw => q1 cls dd R1 σ1 H' sb1 (S1.up e) (f1.trans (fz_same e)) xw
    | bad => rw [ea] at q1; exact q1
    | ok k =>
      rw [ea] at q1
      intro H2 e2
      cases k with
      | false => exact q1 R1 σ1 H2 sb1 (S1.up e2) (f1.trans (fz_same e2))
      | true =>
        refine ⟨WhileAt X.K X.mg W nw R0 H0 (fz R σ env H) Dd ga g n, fun σ' H' h => ⟨n, Nat.lt_succ_self n, h⟩, R0, R1, H0, env1, sb1, S1.up e2, ?_⟩
        have f2 := f1.trans (fz_same (R := R1) (σ := σ1) (env := env1) e2)
        dsimp only at q1
        unfold seqS at q1
        cases eg : g env1 with
        | exc z => rw [eg] at q1; exact q1.elim
        | bad => rw [eg] at q1; exact q1.elim
        | ok r =>
          rw [eg, Rs.bind_ok] at q1
          cases r with
          | next env2 => exact fun R3 σ3 H3 sb3 S3 f3 => ⟨R3, env2, sb3, S3, f2.trans f3, q1⟩
          | ret d => exact q1
          | raise ex env2 => exact fun cls dd R3 σ3 H3 sb3 S3 f3 xw => q1 cls dd R3 σ3 H3 sb3 S3 (f2.trans f3) xw
/-! ### x.reverse() -/
def revF (i : Nat) : En → Rs Fl := withL i fun xs env => .ok (.next (env.set i (some (.l xs.reverse))))
theorem prs_rev {i : Nat} (h : PS X s (tDrop (tBM0 X.K "list" rReverse (tVar i)))) : PRS X W nw s (revF i) := ps_imp h fun Dd σ H ⟨R0, R, H0, env, sb, S, q⟩ => by
  unfold revF withL at q
  split at q
  · rename_i xs hi
    obtain ⟨p, vs, hv, hp, hs⟩ := S.lst hi
    obtain ⟨S2, sub⟩ := S.putL hi hv hs.rev
    exact ⟨.ref p, hv, .inl ⟨rfl, vs, .inl (.inl hp)⟩, p, vs, rfl, rfl, hp, q _ _ _ sb S2 sub⟩
  · exact q.elim
/-! ### index in a list of flat things -/
def placeV (v : V) : List V → Option Nat
  | [] => none
  | y :: ys => if eqV y v = true then some 0 else (placeV v ys).map (· + 1)
theorem placeV_is {v : V} : ∀ {ys : List V} {j : Nat}, placeV v ys = some j → (∃ z, ys[j]? = some z ∧ eqV z v = true) ∧ ∀ m z', m < j → ys[m]? = some z' → eqV z' v = false
  | [], j, h => by simp [placeV] at h
  | y :: ys, j, h => by
    unfold placeV at h
    split at h
    · rename_i e
      have h := Option.some.inj h
      subst h
      exact ⟨⟨y, rfl, e⟩, fun m z' hm => absurd hm (Nat.not_lt_zero m)⟩
    · rename_i e
      cases q : placeV v ys with
      | none => rw [q] at h; cases h
      | some k =>
        rw [q] at h
        have h := Option.some.inj h
        subst h
        obtain ⟨h1, h2⟩ := placeV_is q
        refine ⟨h1, fun m z' hm hz => ?_⟩
        cases m with
        | zero =>
          have hz := Option.some.inj hz
          subst hz
          simpa using e
        | succ m => exact h2 m z' (Nat.lt_of_succ_lt_succ hm) hz
def indexLD : D → D → Rs D
  | .lst xs, y => match flats xs, flat y with
    | some vs, some v => match placeV v vs with
      | some j => .ok (.int (j : Int))
      | none => .bad
    | _, _ => .bad
  | _, _ => .bad
def lstD : D → Rs D
  | .lst xs => .ok (.lst xs)
  | _ => .bad
theorem pr_indexL {ap cp : Pos} (ha : PR X W .fz a fa) (hb : PR X W .fz b fb)
    (hbase : attributeBase a "index" X.env (eval a X.env) = eval a X.env := by rfl)
    (hfew : ((backTo cp (starEach (b :: []) X.env)).all (fun x => !x.1) && (backToKw cp (keywordEach [] X.env)).all (fun x => x.1.isSome)
      && decide ((b :: ([] : List Expr)).length + ([] : List Keyword).length + (if ([] : List Keyword).isEmpty then 0 else 1) < 30)) = true := by rfl)
    (hline : (ap.endLine == cp.line) = true := by rfl) (hs : starEach (b :: []) X.env = (false, eval b X.env) :: starEach [] X.env := by rfl) (hplain : (backTo cp (starEach [] X.env)).any (·.1) = false := by rfl) :
    PR X W .fz (.Call (.Attribute a "index" ap) [b] [] cp) (op2 indexLD (op1 lstD fa) fb) :=
  pe_imp (pe_bm PySem.F.plainAttrs_list PySem.F.slot_list_index PySem.F.type_list_index mt_index ha (pa_cons hb pa_nil hs) hbase hfew hline hs hplain) fun σ H Q ⟨R, H0, env, S, h⟩ => by
  refine ⟨R, H0, env, S, ?_⟩
  unfold op2 op1 at h
  cases ea : fa env with
  | exc x => rw [ea] at h; exact h
  | bad => rw [ea] at h; exact h
  | ok da =>
    rw [ea, Rs.bind_ok] at h
    have ht : (∃ xs, da = .lst xs) ∨ lstD da = .bad := by
      cases da with
      | lst xs => exact .inl ⟨xs, rfl⟩
      | _ => exact .inr rfl
    obtain ⟨xs, ht⟩ | ht := ht
    · subst ht
      have h : Post X.K X.mg W R H0 σ env .fz H Q (fb env >>= fun b => indexLD (.lst xs) b) := h
      intro x H1 e1 r1
      have r1 : Dv X.K X.mg (fz R σ env H1) x (.lst xs) := r1
      cases r1 with
      | lst hg hr =>
      rename_i p vs
      refine ⟨.inl ⟨rfl, vs, .inl (.inl (hid_le _ _ hg))⟩, R, H0, env, S.up e1, ?_⟩
      cases eb : fb env with
      | exc x => rw [eb] at h; exact fun c d H' e' => h c d H' (e1.trans e')
      | bad => rw [eb] at h; exact h
      | ok db =>
        rw [eb, Rs.bind_ok] at h
        intro y H2 e2 r2
        unfold indexLD at h
        dsimp only at h
        split at h
        · rename_i ws v hw hv
          split at h
          · rename_i j hj
            obtain ⟨⟨z, q1, q2⟩, q3⟩ := placeV_is hj
            obtain ⟨rfl, hall⟩ := flats_is hw hr
            have hy := Rl.flat (m := .fz) (H := H1) (H1 := H2) hv r2
            refine ⟨p, vs, v, j, z, rfl, by rw [hy], .inl (.inl (e2 _ _ (hid_le _ _ hg))), flatV_of hv, hall, q1, q2, q3, ?_⟩
            exact h _ H2 (e1.trans e2) (Dv.int _)
          · exact h.elim
        · exact h.elim
    · rw [ht] at h
      exact h.elim
end
end Orn

set_option linter.all false
set_option maxRecDepth 100000
set_option maxHeartbeats 4000000
namespace Orn
open L2 PySem PySem.Spec PyProof.Rows
/-! ### raise C('..'), C a class of one's own below ValueError, without __init__ -/
structure Exk (K : PySem.W.Frag) (mg : Str → Option Value) (c : Str) : Prop where
  ex : ∃ C : Addr, mg c = some (.ref C) ∧ PySem.W.excIn K C [.type "ValueError", .type "Exception", .type "BaseException", .type "object"] "ValueError.__new__" = true ∧ PySem.W.keepIn K (.ref C) = true ∧
    PySem.W.subIn K (.ref C) (.type "BaseException") = some true ∧ PySem.W.typeIn K (.ref C) = some (.type "type")
section
variable {X : Cx} {W : L2.WX} {m ma mb : Md} {fa fb fc f : En → Rs D} {a b c e : Expr} {es : List Expr} {fs : En → Rs (List D)} {pos : Pos} {K : PySem.W.Frag} {mg : Str → Option Value} {H H' : Hp} {σ : L2.St} {env : En}
variable {nw : Bool} {s : Stmt} {ss : List Stmt} {g g1 g2 : En → Rs Fl} {ga gb : En → Rs Bool}
def raiseF (c : Str) : En → Rs Fl := fun env => .ok (.raise ⟨c, []⟩ env)
theorem prs_raise {c m : Str} {j : Nat} {p p2 pos pos2 : Pos} (hc : X.calm = true) (tk : Takes X W) (x : Exk X.K X.mg c) (gl : Gl X c) (hdb : (c == ("__debug__" : Str)) = false := by decide) :
    PRS X W nw (.Raise (some (.Call (.Name c p) [.Constant (.str m) j p2] [] pos)) none pos2) (raiseF c) := by
  obtain ⟨C, g1, g2, g3, g4, g5⟩ := x.ex
  exact ps_imp (ps_raise (pos := pos2) hc tk (pmk_own PySem.F.excBase_ValueError g2 g1 g3 (raises_own g4 g5) gl hdb)) fun Dd σ H ⟨R0, R, H0, env, sb, S, q⟩ => q (.ref C) none R σ H sb S (Same.refl _) ⟨g1, .inl ⟨rfl, rfl⟩⟩
/-! ### making an object, where __init__ may raise -/
def spI (K : PySem.W.Frag) (mg : Str → Option Value) (C : Addr) (n : Nat) (g : List D → Rs (List (Str × D))) : Sp := fun vs H Q E => ∃ (R : Addr → Prop) (ds : List D) (x0 dx : Addr) (rest : List V), vs = .ref x0 :: rest ∧ rest.length = n ∧
    H x0 = some (.ins C dx []) ∧ R x0 ∧ (∀ a, R a → H a ≠ none) ∧ Dvs K mg (hid R H) rest ds ∧ match g ds with
    | .ok fs => ∀ H' vs', (∀ a o, a ≠ x0 → H a = some o → H' a = some o) → H' x0 = some (.ins C dx vs') → Dfs K mg (hid R H') vs' fs → Q .non H'
    | .exc e => ∀ cls dd H', (∀ a o, a ≠ x0 → H a = some o → H' a = some o) → XW K mg R e cls dd H' → E cls dd H'
    | .bad => False
structure MnX (P : Program) (w : World) (K : PySem.W.Frag) (mg : Str → Option Value) (base : Heap) (k : Nat) (x : Str) (n : Nat) (g : List D → Rs (List (Str × D))) : Prop where
  ex : ∃ C f fd ps, Mk K C f ∧ mg x = some (.ref C) ∧ Binds K fd ps [] ∧ FnG P w K mg base k f fd ps (spI K mg C n g)
theorem run_makeG {k : Nat} {f C : Addr} {fd : FuncData} {ps : List Str} {sp : Sp} {pins : List (Addr × Obj)} {Q : VK} {us : List Value} {vs : List V} {s : Shared} (M : Mk X.K C f) (F : FnG X.prog X.w X.K X.mg X.base k f fd ps sp) (hr : Rm (k + 1) X.A) (hb : Binds X.K fd ps [])
    (tk : Takes X W) (I : Inv X pins σ H s) (r : Vals vs us)
    (h : ∀ x dx, H x = none → H dx = none → dx ≠ x → sp (.ref x :: vs) (upd (upd H dx (.own x)) x (.ins C dx [])) (fun v H2 => v = .non ∧ Q (.ref x) H2) (WE W σ)) :
    wpAny (model X.prog X.w) X.A (call (.ref C) us) (EP X pins σ Q) X.xe s := by
  have hq := h (s.heap.objs.size + 1) s.heap.objs.size (I.hok.fresh (Nat.le_succ _)) (I.hok.fresh (Nat.le_refl _)) (Nat.ne_of_lt (Nat.lt_succ_self _))
  have I2 := Inv.made (C := C) I
  have r2 : Vals (V.ref (s.heap.objs.size + 1) :: vs) (Value.ref (s.heap.objs.size + 1) :: us) := .cons rfl r
  have hl : (Value.ref (s.heap.objs.size + 1) :: us).length = ps.length := by
    have e := r2.length
    rw [F.len _ _ _ _ hq] at e
    exact e.symm
  have b := hb _ (Value.ref (s.heap.objs.size + 1) :: us) I2.kIn (by rw [List.append_nil]; exact hl)
  rw [List.append_nil] at b
  refine wpAny_call (make_map (f := f) I.kIn M.makes M.init (beq_iff_eq.mp M.fn) (codeAny_mono (F.run _ X.stack _ _ ⟨Value.ref (s.heap.objs.size + 1) :: us, []⟩ (Value.ref (s.heap.objs.size + 1) :: us) _ _ (WE W σ) ⟨hr.r.make C us [], hr.g⟩
    (I2.env0.make C us []) b r2 hq) fun r s' hq' => ?_))
  cases r with
  | error e => exact passAt tk σ pins _ _ e s' I2 hq'
  | ok fl =>
    cases fl with
    | ret u =>
      obtain ⟨v, H', I3, rv, ev, q3⟩ := I2.after hq'
      subst ev
      exact ⟨rv, ⟨V.ref (s.heap.objs.size + 1), H', I3, rfl, q3⟩⟩
    | next => exact False.elim hq'
    | brk => exact False.elim hq'
    | cont => exact False.elim hq'
def tMakeS (C : Addr) (sp : Sp) (E : L2.St → XK) (t : TA) : TE := fun σ H Q => t σ H fun vs H1 => ∀ x dx, H1 x = none → H1 dx = none → dx ≠ x → sp (.ref x :: vs) (upd (upd H1 dx (.own x)) x (.ins C dx [])) (fun v H2 => v = .non ∧ Q (.ref x) H2) (E σ)
theorem pe_makeG {k : Nat} {f C : Addr} {fd : FuncData} {ps : List Str} {sp : Sp} {x : Str} {p pos : Pos} {e : Expr} {es : List Expr} {t : TA} (M : Mk X.K C f) (F : FnG X.prog X.w X.K X.mg X.base k f fd ps sp) (hr : Rm (k + 1) X.A) (hg : Gl X x) (hm : X.mg x = some (.ref C)) (hb : Binds X.K fd ps []) (tk : Takes X W)
    (ha : PA X (e :: es) t) (hdb : (x == ("__debug__" : Str)) = false := by decide) (he : starEach (e :: es) X.env = (false, eval e X.env) :: starEach es X.env := by rfl) (hpl : (backTo pos (starEach es X.env)).any (·.1) = false := by rfl) :
    PE X (.Call (.Name x p) (e :: es) [] pos) (tMakeS C sp (WE W) t) := by
  refine ⟨fun pins s σ H Q I h => ?_⟩
  refine wpAny_Call_Name_kw (ld_glob I hg hm ?_ hdb)
  refine PySem.W.callWith_K (h₀ := X.base) I.ok.mod.kin M.kp (thn (ha.run pos pins s σ H _ I h) fun us s1 ⟨vs, H1, I1, r, q⟩ => ⟨I1.kIn, ?_⟩) he hpl
  exact run_makeG M F hr hb tk I1 r q
def makeX (c : Str) (g : List D → Rs (List (Str × D))) (fs : En → Rs (List D)) : En → Rs D := fun env => fs env >>= fun ds => g ds >>= fun fs => .ok (.obj c fs)
theorem pr_makeX {k n : Nat} {g : List D → Rs (List (Str × D))} {x : Str} {p : Pos} (F : MnX X.prog X.w X.K X.mg X.base k x n g) (hr : Rm (k + 1) X.A) (gl : Gl X x) (tk : Takes X W) (hs : PRA X W (e :: es) fs) (hn : ∀ env ds, fs env = .ok ds → ds.length = n)
    (hdb : (x == ("__debug__" : Str)) = false := by decide) (he : starEach (e :: es) X.env = (false, eval e X.env) :: starEach es X.env := by rfl) (hpl : (backTo pos (starEach es X.env)).any (·.1) = false := by rfl) :
    PR X W .fz (.Call (.Name x p) (e :: es) [] pos) (makeX x g fs) := by
  obtain ⟨C, f, fd, ps, M, hm, hb, F⟩ := F.ex
  refine pe_imp (pe_makeG (p := p) (pos := pos) M F hr gl hm hb tk hs hdb he hpl) fun σ H Q ⟨R, H0, env, S, q⟩ => ?_
  refine ⟨R, H0, env, S, ?_⟩
  unfold makeX at q
  cases ea : fs env with
  | exc x => rw [ea] at q; exact q
  | bad => rw [ea] at q; exact q
  | ok ds =>
    rw [ea, Rs.bind_ok] at q
    intro vs H1 e1 r1
    intro x0 dx hx hdx ne
    have S1 := S.up e1
    have nx : ∀ {o : HO} {b : Addr}, H1 b = some o → b ≠ x0 ∧ b ≠ dx := fun h => ⟨ne_of_none h hx, ne_of_none h hdx⟩
    have s0 : ∀ b o, H1 b = some o → upd (upd H1 dx (.own x0)) x0 (.ins C dx []) b = some o := fun b o h => by
      rw [upd_ne (nx h).1, upd_ne (nx h).2]
      exact h
    have sub : Same (fz R σ env H1) (hid (fun a => Ro R σ env a ∨ a = x0) (upd (upd H1 dx (.own x0)) x0 (.ins C dx []))) := fun b o h => by
      have nb : ¬ Ro R σ env b := fun z => by
        rw [show fz R σ env H1 b = none from hid_yes z] at h
        cases h
      rw [show fz R σ env H1 b = H1 b from hid_no nb] at h
      rw [hid_no (fun z => z.elim nb (nx h).1)]
      exact s0 _ _ h
    refine ⟨fun a => Ro R σ env a ∨ a = x0, ds, x0, dx, vs, rfl, by rw [r1.len]; exact hn env ds ea, upd_same, .inr rfl, fun b h => ?_, r1.mono sub, ?_⟩
    · rcases h with h | h
      · intro z
        cases hb : H1 b with
        | none => exact S1.resH h hb
        | some o => rw [s0 _ _ hb] at z; cases z
      · rw [h, upd_same]; intro z; cases z
    · cases eg : g ds with
      | bad => rw [eg] at q; exact q.elim
      | exc z =>
        rw [eg] at q
        intro cls dd H' keep xw
        have eS : Same H1 H' := fun b o h => keep b o (nx h).1 (s0 _ _ h)
        exact q cls dd H' (e1.trans eS) (xw.sub fun a h => .inl h)
      | ok ffs =>
        rw [eg] at q
        intro H' vs' keep hx' hfs
        refine ⟨rfl, ?_⟩
        have eS : Same H1 H' := fun b o h => keep b o (nx h).1 (s0 _ _ h)
        exact q _ H' (e1.trans eS) (Dv.obj ((S1.newF eS hx).trans hx') hm (hfs.mono (hid_sub fun a h => .inl h)))
end
/-! ### an __init__ : statements, then attributes -/
abbrev CI := En → List (Str × D) → Rs (List (Str × D))
def ifI (t : En → Rs Bool) (c : Str) (k : CI) : CI := fun env acc => match t env with
  | .ok true => .exc ⟨c, []⟩
  | .ok false => k env acc
  | .exc e => .exc e
  | .bad => .bad
def setI (i : Nat) (f : En → Rs D) (k : CI) : CI := fun env acc => f env >>= fun d => k (env.set i (some (.d d))) acc
def fldI (n : Str) (f : En → Rs D) (k : CI) : CI := fun env acc => f env >>= fun d => k env (putD n d acc)
def endI : CI := fun _ acc => .ok acc
section
variable {P : Program} {w : World} {K : PySem.W.Frag} {mg : Str → Option Value} {base : Heap} {R : Addr → Prop} {H0 : HZ} {H H1 : Hp} {σ : L2.St} {env : En} {C dx x0 : Addr} {fs : List (Str × D)} {Dd : Ends} {Q : VK} {E : XK}
def keepB (x0 : Addr) (H H' : Hp) : Prop := ∀ a o, a ≠ x0 → H a = some o → H' a = some o
theorem keepB.trans {H H1 H2 : Hp} (h : keepB x0 H H1) (h2 : keepB x0 H1 H2) : keepB x0 H H2 := fun a o n e => h2 a o n (h a o n e)
theorem keepB.same (h : Same H H1) : keepB x0 H H1 := fun a o _ e => h a o e
def PostI (K : PySem.W.Frag) (mg : Str → Option Value) (R : Addr → Prop) (C dx x0 : Addr) (Q : VK) (E : XK) (H : Hp) : Rs (List (Str × D)) → Prop
  | .ok fs => ∀ H' vs', keepB x0 H H' → H' x0 = some (.ins C dx vs') → Dfs K mg (hid R H') vs' fs → Q .non H'
  | .exc e => ∀ cls dd H', keepB x0 H H' → XW K mg R e cls dd H' → E cls dd H'
  | .bad => False
theorem PostI.up {r : Rs (List (Str × D))} (e : keepB x0 H H1) (h : PostI K mg R C dx x0 Q E H r) : PostI K mg R C dx x0 Q E H1 r := by
  cases r with
  | ok fs => exact fun H' vs' k => h H' vs' (e.trans k)
  | exc z => exact fun c d H' k => h c d H' (e.trans k)
  | bad => exact h
theorem InitAt.up2 (I : InitAt K mg R H0 C dx x0 σ env H fs) (e : Same H H1) : InitAt K mg R H0 C dx x0 σ env H1 fs := by
  obtain ⟨vs, h1, h2⟩ := I.f
  exact ⟨I.s.up e, I.r, I.n, I.l, I.me, vs, e _ _ h1, h2.mono (fz_same e)⟩
theorem init_if {t : En → Rs Bool} {c : Str} {k : CI} {nx rz : L2.St → Hp → Prop} (I : InitAt K mg R H0 C dx x0 σ env H fs) (q : PostI K mg R C dx x0 Q E H (ifI t c k env fs))
    (hr : ∀ H1, Same H H1 → PostI K mg R C dx x0 Q E H1 (.exc ⟨c, []⟩) → rz σ H1) (next : ∀ H1, Same H H1 → InitAt K mg R H0 C dx x0 σ env H1 fs → PostI K mg R C dx x0 Q E H1 (k env fs) → nx σ H1) :
    rdT K mg (fun cls d _ H => E cls d H) t σ H fun b H1 => if b = true then rz σ H1 else nx σ H1 := by
  refine ⟨R, H0, env, I.s, ?_⟩
  unfold ifI at q
  cases ea : t env with
  | exc z =>
    rw [ea] at q
    exact fun cls dd H' e xw => q cls dd H' (keepB.same e) (xw.sub fun a h => .inl h)
  | bad => rw [ea] at q; exact q
  | ok b =>
    rw [ea] at q
    intro H1 e1
    cases b with
    | true => exact hr H1 e1 (PostI.up (keepB.same e1) q)
    | false => exact next H1 e1 (I.up2 e1) (PostI.up (keepB.same e1) q)
theorem init_set {i : Nat} {f : En → Rs D} {k : CI} {nx : L2.St → Hp → Prop} (hi : 0 ≠ i) (I : InitAt K mg R H0 C dx x0 σ env H fs) (q : PostI K mg R C dx x0 Q E H (setI i f k env fs))
    (next : ∀ v H1 d, Same H H1 → InitAt K mg R H0 C dx x0 (σ.set i (some v)) (env.set i (some (.d d))) H1 fs → PostI K mg R C dx x0 Q E H1 (k (env.set i (some (.d d))) fs) → nx (σ.set i (some v)) H1) :
    rdP K mg (fun cls d _ H => E cls d H) .fz f σ H fun v H1 => nx (σ.set i (some v)) H1 := by
  refine ⟨R, H0, env, I.s, ?_⟩
  unfold setI at q
  cases ea : f env with
  | exc z =>
    rw [ea] at q
    exact fun cls dd H' e xw => q cls dd H' (keepB.same e) (xw.sub fun a h => .inl h)
  | bad => rw [ea] at q; exact q
  | ok d =>
    rw [ea, Rs.bind_ok] at q
    intro v H1 e1 r1
    have I1 := I.up2 e1
    obtain ⟨vs, h1, h2⟩ := I1.f
    have sub : Same (fz R σ env H1) (fz R (σ.set i (some v)) (env.set i (some (.d d))) H1) := fz_setD
    refine next v H1 d e1 ⟨I1.s.setD r1, I1.r, I1.n, ?_, ?_, vs, h1, h2.mono sub⟩ (PostI.up (keepB.same e1) q)
    · have hl := I1.l
      unfold noLL at hl ⊢
      rw [List.all_eq_true] at hl ⊢
      intro t ht
      rcases List.mem_or_eq_of_mem_set ht with z | z
      · exact hl t z
      · rw [z]
    · rw [List.getElem?_set_ne (Ne.symm hi)]
      exact I1.me
theorem init_fld {n : Str} {f : En → Rs D} {k : CI} (I : InitAt K mg R H0 C dx x0 σ env H fs) (hc : Cls K C) (hn : NoAttr K C n) (hl : fs.length < 1000) (q : PostI K mg R C dx x0 Q E H (fldI n f k env fs))
    (next : ∀ H1 d, InitAt K mg R H0 C dx x0 σ env H1 (putD n d fs) → PostI K mg R C dx x0 Q E H1 (k env (putD n d fs)) → Dd.nx σ H1) : sFld K (tVar 0) (rdP K mg (fun cls d _ H => E cls d H) .fz f) n Dd σ H := by
  refine ⟨R, H0, env, I.s, ?_⟩
  unfold fldI at q
  cases ea : f env with
  | exc z =>
    rw [ea] at q
    exact fun cls dd H' e xw => q cls dd H' (keepB.same e) (xw.sub fun a h => .inl h)
  | bad => rw [ea] at q; exact q
  | ok d =>
    rw [ea, Rs.bind_ok] at q
    intro v H1 e1 r1
    obtain ⟨vs, hv, hf⟩ := I.f
    obtain ⟨S2, sub⟩ := (I.s.up e1).updR (p := x0) (o := .ins C dx (putF n v vs)) I.r I.n I.l
    refine ⟨.ref x0, I.me, x0, C, dx, vs, rfl, e1 _ _ hv, hc, hn, by rw [hf.length]; exact hl, next _ d ⟨S2, I.r, I.n, I.l, I.me, _, upd_same, ((Dfs.put r1 (hf.mono (fz_same e1)))).mono sub⟩ (PostI.up (fun a o ne h => ?_) q)⟩
    rw [upd_ne ne]
    exact e1 _ _ h
theorem init_end {Dd : Ends} (I : InitAt K mg R H0 C dx x0 σ env H fs) (q : PostI K mg R C dx x0 Q E H (endI env fs)) : Q .non H := by
  obtain ⟨vs, h1, h2⟩ := I.f
  exact q H vs (fun _ _ _ h => h) h1 (h2.mono (hid_sub fun a h => .inl h))
theorem init_start3 {N : List Str} {rest : List V} {ds : List D} {k : Nat} (hN : rest.length + 1 + k = N.length) (hx : H x0 = some (.ins C dx [])) (hR0 : R x0) (hR : ∀ a, R a → H a ≠ none) (hv : Dvs K mg (hid R H) rest ds) :
    InitAt K mg R ⟨lessH H x0, x0⟩ C dx x0 (L2.start N (.ref x0 :: rest)) (argsI ds (rest.length + k)) H [] := by
  refine ⟨⟨fun a o h => ?_, hR, fun p h => ?_, fun i j xs ys h1 => ?_, fun p h => ?_, fun i j xs ys p h1 => ?_, fun i t h => ?_, ?_⟩, hR0, if_pos rfl, ?_, rfl, [], hx, .nil⟩
  · have h : lessH H x0 a = some o := h
    unfold lessH at h
    split at h
    · cases h
    · exact h
  · obtain ⟨i, xs, h1, _⟩ := h
    obtain ⟨_, _, _, _, z⟩ := argsI_at h1
    cases z
  · obtain ⟨_, _, _, _, z⟩ := argsI_at h1
    cases z
  · obtain ⟨i, xs, h1, _⟩ := h
    obtain ⟨_, _, _, _, z⟩ := argsI_at h1
    cases z
  · obtain ⟨_, _, _, _, z⟩ := argsI_at h1
    cases z
  · obtain ⟨j, d, rfl, hd, rfl⟩ := argsI_at h
    obtain ⟨v, hv1, hv2⟩ := hv.get hd
    have hi : j < rest.length := (List.getElem?_eq_some_iff.mp hv1).1
    refine ⟨v, ?_, ?_⟩
    · unfold L2.start
      rw [List.map_cons, List.cons_append, List.getElem?_cons_succ, List.getElem?_append_left (by rw [List.length_map]; exact hi), List.getElem?_map, hv1]
      rfl
    · show Dv K mg (fz R _ _ H) v d
      rw [argsI_fz]
      exact hv2
  · unfold L2.start argsI args0
    simp only [List.length_append, List.length_cons, List.length_map, List.length_replicate, hv.len]
    have := hv.len
    omega
  · unfold noLL
    rw [List.all_eq_true]
    intro t ht
    rcases List.mem_cons.mp ht with rfl | ht
    · rfl
    · unfold args0 at ht
      rcases List.mem_append.mp ht with ht | ht
      · obtain ⟨d, _, rfl⟩ := List.mem_map.mp ht
        rfl
      · rw [List.eq_of_mem_replicate ht]
end
end Orn

set_option linter.all false
set_option maxRecDepth 100000
set_option maxHeartbeats 4000000
namespace Orn
open L2 PySem PySem.Spec PyProof.Rows
section
variable {X : Cx} {W : L2.WX} {m ma mb : Md} {fa fb fc f fe : En → Rs D} {a b c e : Expr} {es : List Expr} {fs : En → Rs (List D)} {pos : Pos} {K : PySem.W.Frag} {mg : Str → Option Value} {H H' : Hp} {σ : L2.St} {env : En}
variable {nw : Bool} {s : Stmt} {ss : List Stmt} {g g1 g2 : En → Rs Fl} {ga gb tt : En → Rs Bool} {Q : VK}
theorem rdP_fz (h : rdP K mg W .fz f σ H Q) : rdP K mg W .new f σ H Q := by
  obtain ⟨R, H0, env, S, q⟩ := h
  refine ⟨R, H0, env, S, ?_⟩
  cases hf : f env with
  | ok d =>
    rw [hf] at q
    intro v H' e r
    obtain ⟨p, vs, xs, rfl, rfl, hn, h1, hF, hs⟩ := Nw.old r
    exact q _ H' e (.lst hF hs)
  | exc x => rw [hf] at q; exact q
  | bad => rw [hf] at q; exact q
/-- x = [..], in an __init__ -/
theorem psi_comp {i : Nat} {y : Str} {py spos : Pos} {elt tg iter : Expr} {ifs : List Expr} {scope : Scope} {own : List (Str × Nat)} {t : Tg} (hc : X.calm = true) (hN : X.N.Nodup) (hy : X.N[i]? = some y) (hyl : X.env.scope.names.lookup y = some .local)
    (hsw : swapsWith (.ListComp elt [⟨tg, iter, ifs, 0⟩] scope pos) (some (.Name y py)) spos.line X.env = pure true) (ha : PR X W .fz iter fa) (ok : BlkOk X.N X.env.scope scope own) (hg : PRGc X scope tg t) (ht : PRTc X scope ifs tt) (he : PRc X scope elt fe)
    (hj : ∀ j, j ∈ t.slots → j ∈ own.map (·.2) := by decide) (hs : ∀ x, foldedSetIterable iter X.env x = pure x := by intro _; rfl) :
    PS X (.Assign [.Name y py] (.ListComp elt [⟨tg, iter, ifs, 0⟩] scope pos) spos) (fun Dd σ H => rdP X.K X.mg W .fz (compF t (own.map (·.2)) tt fe fa) σ H fun v H1 => Dd.nx (σ.set i (some v)) H1) :=
  ps_imp (ps_setLc hc hN hy hyl hsw (pi_seq ha) ok hg ht he hs) fun Dd σ H h => comp_rd (fe := fe) (tt := tt) hj (rdP_fz h)
/-- x = e, in an __init__ -/
theorem psi_set {i : Nat} (h : PS X s (tAsg (rdP X.K X.mg W .fz fa) (gName i))) : PS X s (fun Dd σ H => rdP X.K X.mg W .fz fa σ H fun v H1 => Dd.nx (σ.set i (some v)) H1) := h
/-- if t: raise C('..') -/
theorem psi_raise {t : Expr} {c m : Str} {j : Nat} {p p2 pos pos2 pos3 : Pos} (hc : X.calm = true) (tk : Takes X W) (x : Exk X.K X.mg c) (gl : Gl X c) (ht : PRT X W t ga) (hdb : (c == ("__debug__" : Str)) = false := by decide) :
    PS X (.If t [.Raise (some (.Call (.Name c p) [.Constant (.str m) j p2] [] pos)) none pos2] [] pos3) (fun Dd σ H => rdT X.K X.mg W ga σ H fun b H1 => if b = true then (∀ C, X.mg c = some (.ref C) → W (.ref C) none σ H1) else Dd.nx σ H1) := by
  obtain ⟨C, g1, g2, g3, g4, g5⟩ := x.ex
  refine ps_imp (ps_if ht (pss_one (ps_raise (pos := pos2) hc tk (pmk_own PySem.F.excBase_ValueError g2 g1 g3 (raises_own g4 g5) gl hdb))) pss_nil) fun Dd σ H h => ?_
  obtain ⟨R, H0, env, S, q⟩ := h
  refine ⟨R, H0, env, S, ?_⟩
  cases hf : ga env with
  | ok d =>
    rw [hf] at q
    intro H' e
    have q := q H' e
    cases d with
    | true => exact q C g1
    | false => exact q
  | exc x => rw [hf] at q; exact q
  | bad => rw [hf] at q; exact q
end
section
variable {P : Program} {w : World} {K : PySem.W.Frag} {mg : Str → Option Value} {base : Heap} {R : Addr → Prop} {H0 : HZ} {H H1 : Hp} {σ : L2.St} {env : En} {C dx x0 : Addr} {fs : List (Str × D)} {Dd : Ends} {Q : VK} {E : XK}
theorem init_ifr {t : En → Rs Bool} {c : Str} {k : CI} {nx : L2.St → Hp → Prop} (x : Exk K mg c) (I : InitAt K mg R H0 C dx x0 σ env H fs) (q : PostI K mg R C dx x0 Q E H (ifI t c k env fs))
    (next : ∀ H1, InitAt K mg R H0 C dx x0 σ env H1 fs → PostI K mg R C dx x0 Q E H1 (k env fs) → nx σ H1) :
    rdT K mg (fun cls d _ H => E cls d H) t σ H fun b H1 => if b = true then (∀ C, mg c = some (.ref C) → E (.ref C) none H1) else nx σ H1 :=
  init_if (rz := fun _ H1 => ∀ C, mg c = some (.ref C) → E (.ref C) none H1) I q (fun H1 e1 p C' hC => p (.ref C') none H1 (fun _ _ _ h => h) ⟨hC, .inl ⟨rfl, rfl⟩⟩) fun H1 e1 I1 q1 => next H1 I1 q1
end
end Orn

set_option linter.all false
set_option maxRecDepth 100000
set_option maxHeartbeats 4000000
namespace Orn
open L2 PySem PySem.Spec PyProof.Rows
section
variable {X : Cx} {W : L2.WX} {m ma mb mc : Md} {fa fb fc f : En → Rs D} {a b c e : Expr} {es : List Expr} {fs : En → Rs (List D)} {pos : Pos} {K : PySem.W.Frag} {mg : Str → Option Value} {H H' : Hp} {σ : L2.St} {env : En}
variable {nw : Bool} {s : Stmt} {ss : List Stmt} {g g1 g2 : En → Rs Fl} {ga gb : En → Rs Bool}
/-! ### any, all -/
def blsOf : List D → Option (List Bool)
  | [] => some []
  | .bl b :: xs => (blsOf xs).map (b :: ·)
  | _ => none
theorem blsOf_is {F : Hp} : ∀ {xs : List D} {bs : List Bool} {vs : List V}, blsOf xs = some bs → Dvs K mg F vs xs → vs = bs.map V.bl
  | [], bs, vs, h, r => by simp only [blsOf, Option.some.injEq] at h; subst h; cases r; rfl
  | .bl b :: xs, bs, vs, h, r => by
    simp only [blsOf] at h
    cases q : blsOf xs with
    | none => rw [q] at h; cases h
    | some ms =>
      rw [q] at h
      simp only [Option.map_some, Option.some.injEq] at h
      subst h
      cases r with
      | cons h1 h2 =>
        cases h1
        rw [blsOf_is q h2]
        rfl
  | .non :: _, _, _, h, _ => by simp [blsOf] at h
  | .int _ :: _, _, _, h, _ => by simp [blsOf] at h
  | .str _ :: _, _, _, h, _ => by simp [blsOf] at h
  | .lst _ :: _, _, _, h, _ => by simp [blsOf] at h
  | .rol _ :: _, _, _, h, _ => by simp [blsOf] at h
  | .tup _ :: _, _, _, h, _ => by simp [blsOf] at h
  | .obj _ _ :: _, _, _, h, _ => by simp [blsOf] at h
def quantD (q : List Bool → Bool) : D → Rs D
  | .lst xs => match blsOf xs with
    | some bs => .ok (.bl (q bs))
    | none => .bad
  | _ => .bad
def anyD : D → Rs D := quantD fun bs => bs.any id
def allD : D → Rs D := quantD fun bs => bs.all id
theorem op_quant {q : List Bool → Bool} {r : List V → Hp → VK → Prop} (hr : r = fun vs H Q => ∃ (a : Addr) (bs : List Bool), vs = [V.ref a] ∧ SqL K H a (bs.map V.bl) ∧ Q (.bl (q bs)) H) (na : ma ≠ .pk) : Op1 K mg W ma .fz (quantD q) (fun x H Q => r [x] H Q) := by
  intro R H0 σ env H Hs x da Q S ra p
  subst hr
  cases da <;> try exact p.elim
  rename_i xs
  unfold quantD at p
  dsimp only at p
  split at p
  · rename_i bs hbs
    obtain ⟨a, vs, rfl, hp, hv⟩ := ra.sh na hid_le
    have e := blsOf_is hbs hv
    subst e
    exact ⟨a, bs, rfl, .inl (.inl hp), p.flat S rfl⟩
  · exact p.elim
theorem op_any (na : ma ≠ .pk) : Op1 K mg W ma .fz anyD (fun x H Q => rAny K [x] H Q) := op_quant (r := rAny K) rfl na
theorem op_all (na : ma ≠ .pk) : Op1 K mg W ma .fz allD (fun x H Q => rAll K [x] H Q) := op_quant (r := rAll K) rfl na
/-! ### max, min of two whole numbers -/
def max2D : D → D → Rs D := intD fun i j => .int (if j > i then j else i)
def min2D : D → D → Rs D := intD fun i j => .int (if j < i then j else i)
theorem op_two {h : Int → Int → Int} : Op2 K mg W ma mb .fz (intD fun i j => .int (h i j)) (fun x y H Q => ∃ i j, [x, y] = [V.int i, V.int j] ∧ Q (.int (h i j)) H) := by
  intro R H0 σ env H Hs x y da db Q S ra rb q
  unfold intD at q
  split at q
  · rename_i i j
    exact ⟨i, j, by rw [ra.int, rb.int], q.flat S rfl⟩
  · exact q.elim
/-! ### isinstance with two built-in types -/
def isi2D (n1 n2 : String) (x : D) : Rs D := match tyName x with
  | some t => match kitB t n1, kitB t n2 with
    | some b1, some b2 => .ok (.bl (b1 || b2))
    | _, _ => .bad
  | none => .bad
theorem kit2 {t n1 n2 : String} {b1 b2 : Bool} (h1 : kitB t n1 = some b1) (h2 : kitB t n2 = some b2) : PySem.W.kitAny K (.type t) [.type n1, .type n2] = some (b1 || b2) := by
  have k1 := kit_ty (K := K) h1
  have k2 := kit_ty (K := K) h2
  unfold PySem.W.kitAny
  rw [k1]
  cases b1
  · dsimp only
    unfold PySem.W.kitAny
    rw [k2]
    cases b2 <;> rfl
  · rfl
theorem pr_isi2 {n1 n2 : String} {x t1 t2 : Str} {p p1 p2 tpos : Pos} {kk : Nat} (gl : Gl X x) (hm : X.mg x = none) (hv : bootBuiltins x = some (.builtin "isinstance")) (gt : Gl X t1) (hmt : X.mg t1 = none) (hvt : bootBuiltins t1 = some (.type n1)) (gt2 : Gl X t2) (hmt2 : X.mg t2 = none) (hvt2 : bootBuiltins t2 = some (.type n2)) (ha : PR X W ma a fa)
    (hn : x ≠ "__name__" := by decide) (hdb : (x == ("__debug__" : Str)) = false := by decide) (hnt : t1 ≠ "__name__" := by decide) (hdt : (t1 == ("__debug__" : Str)) = false := by decide) (hnt2 : t2 ≠ "__name__" := by decide) (hdt2 : (t2 == ("__debug__" : Str)) = false := by decide)
    (he : starEach (a :: [.Tuple [.Name t1 p1, .Name t2 p2] kk tpos]) X.env = (false, eval a X.env) :: starEach [.Tuple [.Name t1 p1, .Name t2 p2] kk tpos] X.env := by rfl) (he2 : starEach (.Tuple [.Name t1 p1, .Name t2 p2] kk tpos :: []) X.env = (false, eval (.Tuple [.Name t1 p1, .Name t2 p2] kk tpos) X.env) :: starEach [] X.env := by rfl)
    (he3 : starEach (.Name t1 p1 :: [.Name t2 p2]) X.env = (false, eval (.Name t1 p1) X.env) :: starEach [.Name t2 p2] X.env := by rfl) (he4 : starEach (.Name t2 p2 :: []) X.env = (false, eval (.Name t2 p2) X.env) :: starEach [] X.env := by rfl)
    (hpl : (backTo pos (starEach [.Tuple [.Name t1 p1, .Name t2 p2] kk tpos] X.env)).any (·.1) = false := by rfl) :
    PR X W .fz (.Call (.Name x p) [a, .Tuple [.Name t1 p1, .Name t2 p2] kk tpos] [] pos) (op1 (isi2D n1 n2) fa) :=
  pe_imp (pe_callB (p := p) (pos := pos) call_isiT gl hm hv (pa_cons ha (pa_cons (pe_tup (pa_cons (pe_bltn (v := .ty n1) gt hmt hvt rfl hnt hdt) (pa_cons (pe_bltn (v := .ty n2) gt2 hmt2 hvt2 rfl hnt2 hdt2) pa_nil he4) he3)) pa_nil he2) he) hn hdb he hpl) fun σ H Q ⟨R, H0, env, S, q⟩ =>
    rd_seq1 S q fun y da H2 e2 S2 ra q2 => by
  refine ⟨by show 2 ≤ sizeLine; rw [sizeLine_eq]; decide, fun tp htp => ?_⟩
  unfold isi2D at q2
  split at q2
  · rename_i t ht
    split at q2
    · rename_i b1 b2 h1 h2
      have hS : Same H2 (upd H2 tp (.tup [.ty n1, .ty n2])) := fun a o h => by rw [upd_ne (ne_of_none h htp)]; exact h
      have ty := tyX_of ((ra.pk hid_le).mono hS) ht
      exact ⟨y, tp, [.ty n1, .ty n2], .type t, [.type n1, .type n2], b1 || b2, rfl, upd_same, .cons (.ty n1) (.cons (.ty n2) .nil), ty, kit2 h1 h2, (Post.up hS q2).flat (S2.up hS) rfl⟩
    · exact q2.elim
  · exact q2.elim
/-! ### x < y <= z, whole numbers -/
def chainD (h1 h2 : Int → Int → Bool) (fa fb fc : En → Rs D) : En → Rs D := fun env => fa env >>= fun x => fb env >>= fun y => match x, y with
  | .int i, .int j => if h1 i j = true then fc env >>= fun z => match z with
      | .int k => .ok (.bl (h2 j k))
      | _ => .bad
    else .ok (.bl false)
  | _, _ => .bad
theorem pr_chain {op op' : CmpOp} {h1 h2 : Int → Int → Bool} (ho : OpR X (compareOp op) (rI0 fun i j => .bl (h1 i j))) (ho' : OpR X (compareOp op') (rI0 fun i j => .bl (h2 i j))) (ha : PR X W .fz a fa) (hb : PR X W .fz b fb) (hc : PR X W .fz c fc)
    (hm : lastMarks [op, op'] [b, c] = false := by with_unfolding_all rfl) : PR X W .fz (.Compare a [op, op'] [b, c] pos) (chainD h1 h2 fa fb fc) := pe_imp (pe_chain (pos := pos) ho ho' ha hb hc hm) fun σ H Q ⟨R, H0, env, S, q⟩ => by
  refine ⟨R, H0, env, S, ?_⟩
  unfold chainD at q
  cases ea : fa env with
  | exc x => rw [ea] at q; exact q
  | bad => rw [ea] at q; exact q
  | ok da =>
    rw [ea, Rs.bind_ok] at q
    intro x H1 e1 r1
    refine ⟨R, H0, env, S.up e1, ?_⟩
    cases eb : fb env with
    | exc x => rw [eb] at q; exact fun c d H' e' => q c d H' (e1.trans e')
    | bad => rw [eb] at q; exact q
    | ok db =>
      rw [eb, Rs.bind_ok] at q
      intro y H2 e2 r2
      cases da <;> try exact q.elim
      cases db <;> try exact q.elim
      rename_i i j
      have hx := Rl.int (m := .fz) (H := H) (H1 := H1) r1
      have hy := Rl.int (m := .fz) (H := H1) (H1 := H2) r2
      refine ⟨i, j, hx, hy, h1 i j, rfl, ?_⟩
      dsimp only at q
      by_cases hk : h1 i j = true
      · rw [if_pos hk] at q
        rw [if_pos hk]
        refine ⟨R, H0, env, (S.up e1).up e2, ?_⟩
        cases ec : fc env with
        | exc x => rw [ec] at q; exact fun c d H' e' => q c d H' ((e1.trans e2).trans e')
        | bad => rw [ec] at q; exact q
        | ok dc =>
          rw [ec, Rs.bind_ok] at q
          intro z H3 e3 r3
          cases dc <;> try exact q.elim
          rename_i k
          have hz := Rl.int (m := .fz) (H := H2) (H1 := H3) r3
          exact ⟨j, k, hy, hz, (Post.up ((e1.trans e2).trans e3) q).flat (((S.up e1).up e2).up e3) rfl⟩
      · rw [if_neg hk] at q
        rw [if_neg hk]
        exact (Post.up (e1.trans e2) q).flat ((S.up e1).up e2) rfl
/-! ### a module's whole number -/
theorem pr_globI {x : Str} {i : Int} (gl : Gl X x) (h : ∃ t, X.mg x = some (.int i t)) (hd : (x == ("__debug__" : Str)) = false := by decide) : PR X W .fz (.Name x pos) (cF (.int i)) := by
  obtain ⟨t, h⟩ := h
  exact pr_c rfl (pe_glob gl h ⟨t, rfl⟩ hd)
end
end Orn

set_option linter.all false
set_option maxRecDepth 100000
set_option maxHeartbeats 4000000
namespace Orn
open L2 PySem PySem.Spec PyProof.Rows
section
variable {K : PySem.W.Frag} {mg : Str → Option Value} {R : Addr → Prop} {H0 : HZ} {H H1 : Hp} {σ : L2.St} {env : En}
theorem own_junk {i : Nat} {u : Option V} (h : ∀ t, env[i]? ≠ some (some t)) : own (σ.set i u) env = own σ env := by
  funext p
  refine propext ⟨fun ⟨j, xs, h1, h2⟩ => ⟨j, xs, h1, ?_⟩, fun ⟨j, xs, h1, h2⟩ => ⟨j, xs, h1, ?_⟩⟩
  · rwa [List.getElem?_set_ne (fun z => h _ (by rw [z]; exact h1))] at h2
  · rwa [List.getElem?_set_ne (fun z => h _ (by rw [z]; exact h1))]
/-- what stands in a slot that is not looked at -/
theorem StR.junk {i : Nat} {u : Option V} (S : StR K mg R H0 σ H env) (h : ∀ t, env[i]? ≠ some (some t)) : StR K mg R H0 (σ.set i u) H env ∧ fz R (σ.set i u) env H = fz R σ env H := by
  have eo := own_junk (σ := σ) (u := u) h
  have ef : fz R (σ.set i u) env H = fz R σ env H := by
    unfold fz
    rw [eo]
  have at' : ∀ {j : Nat} {t : T}, env[j]? = some (some t) → (σ.set i u)[j]? = σ[j]? := fun q => List.getElem?_set_ne fun z => h _ (by rw [z]; exact q)
  refine ⟨⟨S.ex, S.res, fun p q => S.dis p (eo ▸ q), S.one, fun p q => S.new p (eo ▸ q), fun a b xs ys p h1 h2 h3 h4 => S.inj a b xs ys p h1 h2 (at' h1 ▸ h3) (at' h2 ▸ h4), fun j t q => ?_, by rw [List.length_set]; exact S.len⟩, ef⟩
  obtain ⟨v, hv, ht⟩ := S.slot j t q
  exact ⟨v, (at' q).trans hv, by rw [ef]; exact ht⟩
theorem set_none_at {i : Nat} (t : T) : (env.set i none)[i]? ≠ some (some t) := by
  rw [List.getElem?_set_self']
  cases env[i]? with
  | none => simp
  | some x => simp
theorem fz_drop {i : Nat} : Same (fz R σ env H) (fz R (σ.set i none) (env.set i none) H) := hid_sub fun p h => h.imp id fun ⟨j, xs, h1, h2⟩ => by
  have ne : i ≠ j := fun z => by
    subst z
    exact set_none_at _ h1
  rw [List.getElem?_set_ne ne] at h1 h2
  exact ⟨j, xs, h1, h2⟩
/-- a slot is forgotten -/
theorem StR.drop1 {i : Nat} (S : StR K mg R H0 σ H env) (h : noL env [i] = true) : StR K mg R H0 (σ.set i none) H (env.set i none) := S.wipe (vs := [i]) h
end
section
variable {X : Cx} {W : L2.WX} {nw : Bool} {gb : En → Rs Fl} {gs : Exn → En → Rs Fl} {pos : Pos}
/-- try: gb, except x as (slot i): gs; dom: the classes that may come, sub: those that x takes -/
def tryF (i : Nat) (dom : List Str) (sub : Str → Bool) (gb : En → Rs Fl) (gs : Exn → En → Rs Fl) : En → Rs Fl := fun env => gb env >>= fun r => match r with
  | .raise e env1 => if e.cls ∈ dom ∧ e.fs = [] ∧ noL env1 [i] = true ∧ i < env1.length then
      (if sub e.cls = true then gs e (env1.set i none) >>= fun r => match r with
        | .next env2 => if noL env2 [i] = true then .ok (.next (env2.set i none)) else .bad
        | r => .ok r
      else .ok (.raise e env1)) else .bad
  | r => .ok r
/-- what is known of the classes that may come to «except x» -/
structure Hnd (K : PySem.W.Frag) (mg : Str → Option Value) (x : Str) (dom : List Str) (sub : Str → Bool) : Prop where
  ex : ∃ C : Addr, mg x = some (.ref C) ∧ ∀ c ∈ dom, ∀ v, mg c = some v → PySem.W.exmOne K v (.ref C) = some (sub c)
/-- what is known of the exception in the suite -/
structure Cau (X : Cx) (e : Exn) (a : Addr) (oe : Obj) (cls : Value) (d : Option Addr) : Prop where
  z : Zc cls d oe
  f : ∃ vs, oe.data = .fields vs
  c : X.mg e.cls = some cls
  fs : e.fs = []
  d : d = none
theorem prs_try {i : Nat} {n x : Str} {np : Pos} {pos' : Pos} {body suite : List Stmt} {b₀ : Stmt} {dom : List Str} {sub : Str → Bool} (hs : X.stack = X.env :: X.outer) (hf : X.env.frame = some X.env.locals) (hN : X.N.Nodup) (hi : X.N[i]? = some n) (hln : X.env.kindOf n = some .local) (hd : Hnd X.K X.mg x dom sub) (gx : Gl X x)
    (tk : Takes X W)
    (hb : ∀ (W' : L2.WX) (pn : List (Addr × Obj)) (xe : Value → Shared → Prop), Takes (X.tr pn xe) W' → PassesOwn (model X.prog X.w) X.A X.env xe → PRB (X.tr pn xe) W' nw body gb)
    (hsu : ∀ (e : Exn) (a : Addr) (oe : Obj) (cls : Value) (d : Option Addr) (pn : List (Addr × Obj)), Cau X e a oe cls d → PSs (X.suite a ((a, oe) :: pn)) (b₀ :: suite) (fun Dd σ H => σ[i]? = some (some (.ref a)) ∧ rdS X.K X.mg W nw (gs e) Dd σ H))
    (hdb : (x == ("__debug__" : Str)) = false := by decide) :
    PRS X W nw (.Try body [.ExceptHandler (some (.Name x np)) (some n) (b₀ :: suite) pos'] [] [] pos) (tryF i dom sub gb gs) := by
  obtain ⟨C, hm, hc⟩ := hd.ex
  refine ps_imp (ps_try_as (c := .ref C) (i := i) (Wout := W) (tb := fun W' => rdS X.K X.mg W' nw gb)
    (ts := fun a cls d Dd σ H => ∃ e, (X.mg e.cls = some cls ∧ e.fs = [] ∧ d = none) ∧ σ[i]? = some (some (.ref a)) ∧ rdS X.K X.mg W nw (gs e) Dd σ H) hs hf hN hi hln ⟨gx, hdb, .inl hm⟩ tk hb ?_) ?_
  · intro a oe cls d pn hz hfl
    refine ⟨fun pins s σ H D I ⟨e, cau, h1, h2⟩ => ?_⟩
    exact (hsu e a oe cls d pn ⟨hz, hfl, cau.1, cau.2.1, cau.2.2⟩).run pins s σ H D I ⟨h1, h2⟩
  · intro Dd σ H ⟨R0, R, H0, env, sb, S, q⟩
    refine ⟨R0, R, H0, env, sb, S, ?_⟩
    unfold tryF at q
    cases eg : gb env with
    | exc z => rw [eg] at q; exact q.elim
    | bad => rw [eg] at q; exact q.elim
    | ok r =>
      rw [eg, Rs.bind_ok] at q
      cases r with
      | next env1 => exact q
      | ret d => exact q
      | raise e env1 =>
        intro cls dd R1 σ1 H1 sb1 S1 f1 xw
        dsimp only at q
        split at q
        · rename_i hdom
          obtain ⟨h1, h2, h3, h4⟩ := hdom
          have hx := hc e.cls h1 cls xw.1
          have hdd : dd = none := by
            rcases xw.2 with ⟨_, z⟩ | ⟨a, fs, z0, z1, z2, z3⟩
            · exact z
            · exact absurd h2 z0
          refine ⟨sub e.cls, hx, fun hsub a ha => ?_, fun hsub => ?_⟩
          · rw [if_pos hsub] at q
            have S2 := S1.drop1 h3
            obtain ⟨S3, e3⟩ := S2.junk (i := i) (u := some (.ref a)) set_none_at
            rw [List.set_set] at S3 e3
            have f2 : Same (fz R σ env H) (fz R1 (σ1.set i (some (.ref a))) (env1.set i none) H1) := by
              rw [e3]
              exact f1.trans fz_drop
            refine ⟨e, ⟨xw.1, h2, hdd⟩, ?_, R0, R1, H0, env1.set i none, sb1, S3, ?_⟩
            · rw [List.getElem?_set_self (by rw [S1.len]; exact h4)]
            · cases es : gs e (env1.set i none) with
              | exc z => rw [es] at q; exact q.elim
              | bad => rw [es] at q; exact q.elim
              | ok r =>
                rw [es, Rs.bind_ok] at q
                cases r with
                | next env2 =>
                  dsimp only at q
                  split at q
                  · rename_i h5
                    exact fun R2 σ2 H2 sb2 S4 f3 => q R2 (σ2.set i none) H2 sb2 (S4.drop1 h5) ((f2.trans f3).trans fz_drop)
                  · exact q.elim
                | ret d => exact q
                | raise e2 env2 => exact fun cls2 dd2 R2 σ2 H2 sb2 S4 f3 xw2 => q cls2 dd2 R2 σ2 H2 sb2 S4 (f2.trans f3) xw2
          · rw [if_neg (by rw [hsub]; exact Bool.false_ne_true)] at q
            exact q cls dd R1 σ1 H1 sb1 S1 f1 xw
        · exact q.elim
end
end Orn

set_option linter.all false
set_option maxRecDepth 100000
set_option maxHeartbeats 4000000
namespace Orn
open L2 PySem PySem.Spec PyProof.Rows
section
variable {X : Cx} {W : L2.WX} {nw : Bool} {gb gs : En → Rs Fl} {pos : Pos}
/-- try: gb, except x: gs; dom: the classes that may come, sub: those that x takes -/
def tryO (dom : List Str) (sub : Str → Bool) (gb gs : En → Rs Fl) : En → Rs Fl := fun env => gb env >>= fun r => match r with
  | .raise e env1 => if e.cls ∈ dom then (if sub e.cls = true then gs env1 else .ok (.raise e env1)) else .bad
  | r => .ok r
theorem prs_tryO {x : Str} {np : Pos} {pos' : Pos} {body suite : List Stmt} {b₀ : Stmt} {dom : List Str} {sub : Str → Bool} (hs : X.stack = X.env :: X.outer) (hf : X.env.frame = some X.env.locals) (hd : Hnd X.K X.mg x dom sub) (gx : Gl X x)
    (tk : Takes X W)
    (hb : ∀ (W' : L2.WX) (pn : List (Addr × Obj)) (xe : Value → Shared → Prop), Takes (X.tr pn xe) W' → PassesOwn (model X.prog X.w) X.A X.env xe → PRB (X.tr pn xe) W' nw body gb)
    (hsu : ∀ (a : Addr) (oe : Obj) (pn : List (Addr × Obj)), PRB (X.suite a ((a, oe) :: pn)) W nw (b₀ :: suite) gs)
    (hdb : (x == ("__debug__" : Str)) = false := by decide) :
    PRS X W nw (.Try body [.ExceptHandler (some (.Name x np)) none (b₀ :: suite) pos'] [] [] pos) (tryO dom sub gb gs) := by
  obtain ⟨C, hm, hc⟩ := hd.ex
  refine ps_imp (ps_try_only (c := .ref C) (Wout := W) (tb := fun W' => rdS X.K X.mg W' nw gb)
    (ts := fun a cls d => rdS X.K X.mg W nw gs) hs hf ⟨gx, hdb, .inl hm⟩ tk hb fun a oe cls d pn hz hfl => hsu a oe pn) ?_
  intro Dd σ H ⟨R0, R, H0, env, sb, S, q⟩
  refine ⟨R0, R, H0, env, sb, S, ?_⟩
  unfold tryO at q
  cases eg : gb env with
  | exc z => rw [eg] at q; exact q.elim
  | bad => rw [eg] at q; exact q.elim
  | ok r =>
    rw [eg, Rs.bind_ok] at q
    cases r with
    | next env1 => exact q
    | ret d => exact q
    | raise e env1 =>
      intro cls dd R1 σ1 H1 sb1 S1 f1 xw
      dsimp only at q
      split at q
      · rename_i hdom
        have hx := hc e.cls hdom cls xw.1
        refine ⟨sub e.cls, hx, fun hsub a ha => ?_, fun hsub => ?_⟩
        · rw [if_pos hsub] at q
          exact ⟨R0, R1, H0, env1, sb1, S1, q.up f1⟩
        · rw [if_neg (by rw [hsub]; exact Bool.false_ne_true)] at q
          exact q cls dd R1 σ1 H1 sb1 S1 f1 xw
      · exact q.elim
end
end Orn

set_option linter.all false
set_option maxRecDepth 100000
set_option maxHeartbeats 4000000
namespace Orn
open L2 PySem PySem.Spec PyProof.Rows
/-! ### lists and tuples as what is gone through (enumerate, zip) -/
def IsIt (k : Bool) (h : Heap) (it a : Addr) (i : Nat) : Prop := match k with
  | true => h.IsListIter it a i
  | false => h.IsTupleIter it a i
def IsCt (k : Bool) (h : Heap) (a : Addr) (items : Array Value) : Prop := match k with
  | true => h.IsList a items
  | false => h.IsTuple a items
def SqK (k : Bool) (K : PySem.W.Frag) (H : Hp) (a : Addr) (xs : List V) : Prop := match k with
  | true => SqL K H a xs
  | false => SqT K H a xs
def itO (k : Bool) (a : Addr) : Obj := match k with
  | true => { cls := .type "list_iterator", data := .fields #[.ref a, .int 0 0] }
  | false => { cls := .type "tuple_iterator", data := .fields #[.ref a, .int 0 0] }
theorem IsIt.obj {k : Bool} {h : Heap} {it a : Addr} {i : Nat} (x : IsIt k h it a i) : ∃ o, h.get? it = some o ∧ ∀ v, o.data ≠ .cell v := by
  cases k
  · obtain ⟨o, ho, _, hd⟩ := x
    exact ⟨o, ho, fun v q => by rw [hd] at q; cases q⟩
  · obtain ⟨o, ho, _, hd⟩ := x
    exact ⟨o, ho, fun v q => by rw [hd] at q; cases q⟩
theorem IsIt.at {k : Bool} {h h' : Heap} {it a : Addr} {i : Nat} (x : IsIt k h it a i) (e : ∀ o, h.get? it = some o → h'.get? it = some o) : IsIt k h' it a i := by
  cases k
  · exact Heap.IsTupleIter.at x e
  · exact Heap.IsListIter.at x e
theorem IsIt.mk0 {k : Bool} {h : Heap} {it a : Addr} (x : h.get? it = some (itO k a)) : IsIt k h it a 0 := by
  cases k
  · exact ⟨_, x, rfl, rfl⟩
  · exact ⟨_, x, rfl, rfl⟩
theorem IsCt.lt {k : Bool} {h : Heap} {a : Addr} {items : Array Value} (x : IsCt k h a items) : a < h.objs.size := by
  cases k
  · obtain ⟨o, ho, _⟩ := x; exact Heap.lt_size ho
  · obtain ⟨o, ho, _⟩ := x; exact Heap.lt_size ho
theorem draws_seqK {prog : Program} {w : World} {A : Around} (hh : A.handled = none) (k : Bool) (it a : Addr) (hne : a ≠ it) (items : Array Value) :
    Draws prog w A it [it, a] items.size (fun i v => items[i]? = some v) (fun i h => IsIt k h it a i ∧ IsCt k h a items) := by
  cases k
  · exact Draws.tuple hh it a hne items
  · exact Draws.list hh it a hne items
theorem begins_seqK (k : Bool) (a : Addr) (items : Array Value) : Begins (.ref a) (itO k a) fun h => IsCt k h a items := by
  cases k
  · exact begins_tuple a items
  · exact begins_list a items
section
variable {X : Cx} {pins : List (Addr × Obj)} {σ : L2.St} {H : Hp} {s : Shared} {k : Bool} {a : Addr} {xs ys : List V}
theorem SqK.it (I : Inv X pins σ H s) (h : SqK k X.K H a xs) : ∃ its : List Value, Vals xs its ∧ IsCt k s.heap a its.toArray ∧ xs.length ≤ sizeLine := by
  cases k
  · exact I.tuple h
  · obtain ⟨its, r, p, z⟩ := I.list h
    exact ⟨its, r, p.isList, z⟩
theorem SqK.inj (I : Inv X pins σ H s) (h : SqK k X.K H a xs) (h' : SqK k X.K H a ys) : xs = ys := by
  cases k
  · exact I.tuple_inj h h'
  · exact I.list_inj h h'
end
theorem SqK.same {K : PySem.W.Frag} {H H' : Hp} {k : Bool} {a : Addr} {xs : List V} (e : Same H H') (h : SqK k K H a xs) : SqK k K H' a xs := by
  cases k
  · rcases h with (h | ⟨o, h⟩) | h
    · exact .inl (.inl (e _ _ h))
    · exact .inl (.inr ⟨o, e _ _ h⟩)
    · exact .inr h
  · exact e.seq h
/-- n turns, turn i giving the tuple f i -/
abbrev CW := Hp → (Nat → List V) → Nat → Prop
def ItW (C : CW) : It :=
  ⟨fun i H => ∃ f n, C H f n ∧ i < n,
   fun i H v H' => ∃ T o, v = .ref T ∧ H T = none ∧ o.dict = none ∧ ∀ f n, C H f n → H' = upd H T (.frz o (.tup (f i))),
   fun i H => ∃ f, C H f i⟩
theorem walk_W {C : CW} {f : Nat → List V} {n : Nat} : Walk (ItW C) n (fun H => C H f n) (fun i H x H' => ∃ T o, x = .ref T ∧ H T = none ∧ o.dict = none ∧ H' = upd H T (.frz o (.tup (f i)))) :=
  ⟨fun i H hi h => ⟨f, n, h, hi⟩, fun H h => ⟨f, h⟩, fun i H x H' hi h ⟨T, o, h1, h2, h3, h4⟩ => ⟨T, o, h1, h2, h3, h4 f n h⟩⟩
section
variable {K : PySem.W.Frag} {mg : Str → Option Value} {R : Addr → Prop} {H0 : HZ} {H H1 : Hp} {σ : L2.St} {env : En} {W : L2.WX} {nw : Bool} {g : En → Rs Fl} {tt : En → Rs Bool} {fe : En → Rs D}
/-- a turn whose value is new -/
theorem loop_turnW {R0 : Addr → Prop} {Fs : Hp} {Dd : Ends} {t : D → En → Rs En} {js : List Nat} {xs : List D} {i : Nat} {x : D} {v : V} {H' : Hp} (hx : xs[i]? = some x) (e : Same H H') (L : LoopAt K mg W nw R0 H0 Fs Dd t g xs i σ H)
    (hv : ∀ R env, StR K mg R H0 σ H env → Same Fs (fz R σ env H) → Dv K mg (fz R σ env H') v x) :
    rdG K mg js t v σ H' fun σ2 H2 => rdS K mg W nw g { Dd with nx := LoopAt K mg W nw R0 H0 Fs Dd t g xs (i + 1), ct := LoopAt K mg W nw R0 H0 Fs Dd t g xs (i + 1), bk := Dd.nx } σ2 H2 := by
  obtain ⟨R, env, sb, S, f, q⟩ := L
  have hv := hv R env S f
  have S := S.up e
  have f := f.trans (fz_same e)
  have hd : xs.drop i = x :: xs.drop (i + 1) := by
    obtain ⟨hl, e⟩ := List.getElem?_eq_some_iff.mp hx
    rw [List.drop_eq_getElem_cons hl, e]
  rw [hd] at q
  unfold loopF at q
  cases e1 : t x env with
  | exc z => rw [e1] at q; exact q.elim
  | bad => rw [e1] at q; exact q.elim
  | ok env1 =>
    rw [e1] at q
    dsimp only at q
    refine ⟨R, H0, env, x, env1, S, hv, e1, fun σ2 S2 f2 _ _ => ⟨R0, R, H0, env1, sb, S2, ?_⟩⟩
    unfold seqS at q
    cases eg : g env1 with
    | exc z => rw [eg] at q; exact q.elim
    | bad => rw [eg] at q; exact q.elim
    | ok r =>
      rw [eg, Rs.bind_ok] at q
      cases r with
      | next env2 => exact fun R3 σ3 H3 sb3 S3 f3 => ⟨R3, env2, sb3, S3, (f.trans f2).trans f3, q⟩
      | ret d => exact q
      | raise ex env2 => exact fun cls dd R3 σ3 H3 sb3 S3 f3 xw => q cls dd R3 σ3 H3 sb3 S3 ((f.trans f2).trans f3) xw
theorem comp_turnW {t : Tg} {vs : List Nat} {p : Addr} {xs ys : List D} {i : Nat} {x : D} {v : V} (S : StR K mg R H0 σ H1 env) (hn : noL env vs = true) (hl : xs.length ≤ SL) (hp : H1 p = none) (hj : ∀ j, j ∈ t.slots → j ∈ vs)
    (hx : xs[i]? = some x) (hv : Dv K mg (dl p (fz R σ env H)) v x) (C : CompAt K mg R σ env H1 p t vs tt fe xs ys i H) :
    rdG K mg t.slots t.put v (wipe σ vs) H fun σ2 H2 => wipe σ2 vs = wipe σ vs ∧ rdT K mg W0 tt σ2 H2 fun b H3 =>
      if b = true then rdP K mg W0 .fz fe σ2 H3 fun y H4 => ∃ acc, H4 p = some (.lst acc) ∧ acc.length < sizeLine ∧ CompAt K mg R σ env H1 p t vs tt fe xs ys (i + 1) (upd H4 p (.lst (acc ++ [y]))) else CompAt K mg R σ env H1 p t vs tt fe xs ys (i + 1) H3 := by
  obtain ⟨eH, acc, done, rest, ha, hd, hlen, hr, hy⟩ := C
  have hi : i < xs.length := (List.getElem?_eq_some_iff.mp hx).1
  have hd0 : xs.drop i = x :: xs.drop (i + 1) := by
    obtain ⟨hl, e⟩ := List.getElem?_eq_some_iff.mp hx
    rw [List.drop_eq_getElem_cons hl, e]
  rw [hd0] at hr
  unfold compL at hr
  obtain ⟨S2, sub2⟩ := S.aside eH hp ha
  have S3 := S2.wipe hn
  split at hr
  · rename_i env1 he1
    have hv3 : Dv K mg (fz (fun a => R a ∨ a = p) (wipe σ vs) (wipeE env vs) H) v x := by
      rw [fz_wipe hn]
      refine hv.mono fun a o h => ?_
      unfold dl at h
      by_cases z : a = p
      · rw [if_pos z] at h; cases h
      · rw [if_neg z] at h
        have na : ¬ (R a ∨ own σ env a) := fun z => by
          rw [show fz R σ env H a = none from hid_yes z] at h
          cases h
        rw [show fz R σ env H a = H a from hid_no na] at h
        show hid _ _ a = some o
        rw [hid_no (fun q => q.elim (fun q => q.elim (fun q => na (.inl q)) z) (fun q => na (.inr q)))]
        exact h
    refine ⟨_, _, _, x, env1, S3, hv3, he1, fun σ2 S4 f4 n4 l4 => ?_⟩
    refine ⟨wipe_back hj n4 l4, ?_⟩
    refine ⟨_, _, env1, S4, ?_⟩
    -- what is one's own stays hidden
    have ownS : ∀ q, own σ env q → own σ2 env1 q := fun q h => by
      obtain ⟨j, zs, h1, h2⟩ := (own_wipe hn).mpr h
      have hjv : j ∉ t.slots := fun z => wipe_in (hj j z) h1
      exact ⟨j, zs, by rw [put_out t x _ env1 he1 j hjv]; exact h1, by rw [n4 j hjv]; exact h2⟩
    have back : ∀ H4, Same (fz (fun a => R a ∨ a = p) σ2 env1 H4) (dl p (fz R σ env H4)) := fun H4 a o h => by
      have na : ¬ ((R a ∨ a = p) ∨ own σ2 env1 a) := fun z => by
        rw [show fz (fun a => R a ∨ a = p) σ2 env1 H4 a = none from hid_yes z] at h
        cases h
      rw [show fz (fun a => R a ∨ a = p) σ2 env1 H4 a = H4 a from hid_no na] at h
      unfold dl
      rw [if_neg (fun z => na (.inl (.inr z)))]
      show hid _ _ a = some o
      rw [hid_no (fun z => na (z.imp .inl (ownS a)))]
      exact h
    split at hr
    · rename_i hb
      rw [hb]
      intro H3 e3
      show if true = true then _ else _
      rw [if_pos rfl]
      split at hr
      · rename_i y hfe
        refine ⟨_, _, env1, S4.up e3, ?_⟩
        rw [hfe]
        intro w H4 e4 r4
        cases hc : compL t tt fe (wipeE env vs) (List.drop (i + 1) xs) with
        | exc z => rw [hc] at hr; cases hr
        | bad => rw [hc] at hr; cases hr
        | ok rest2 =>
          rw [hc, Rs.bind_ok] at hr
          injection hr with hr
          subst hr
          have e5 : Same H (upd H4 p (.lst (acc ++ [w]))) → True := fun _ => trivial
          have h4 := e4 _ _ (e3 _ _ ha)
          have z1 : Same (dl p (fz R σ env H)) (dl p (fz R σ env (upd H4 p (.lst (acc ++ [w]))))) := fun a o h => by
            unfold dl at h ⊢
            by_cases z : a = p
            · rw [if_pos z] at h; cases h
            · rw [if_neg z] at h ⊢
              have na : ¬ (R a ∨ own σ env a) := fun z => by
                rw [show fz R σ env H a = none from hid_yes z] at h
                cases h
              rw [show fz R σ env H a = H a from hid_no na] at h
              show hid _ _ a = some o
              rw [hid_no na, upd_ne z]
              exact e4 _ _ (e3 _ _ h)
          have z2 : Same (dl p (fz R σ env H4)) (dl p (fz R σ env (upd H4 p (.lst (acc ++ [w]))))) := fun a o h => by
            unfold dl at h ⊢
            by_cases z : a = p
            · rw [if_pos z] at h; cases h
            · rw [if_neg z] at h ⊢
              have na : ¬ (R a ∨ own σ env a) := fun z => by
                rw [show fz R σ env H4 a = none from hid_yes z] at h
                cases h
              rw [show fz R σ env H4 a = H4 a from hid_no na] at h
              show hid _ _ a = some o
              rw [hid_no na, upd_ne z]
              exact h
          refine ⟨acc, h4, lt_sl (by rw [hd.len]; omega), fun a o h => ?_, acc ++ [w], done ++ [y], rest2, upd_same, (hd.mono z1).app (.cons ((Dv.mono (back H4) r4).mono z2) .nil), by rw [List.length_append]; show done.length + 1 ≤ i + 1; omega, hc, by rw [List.append_assoc]; exact hy⟩
          rw [upd_ne (ne_of_none h hp)]
          exact e4 _ _ (e3 _ _ (eH _ _ h))
      · cases hr
    · rename_i hb
      rw [hb]
      intro H3 e3
      show if false = true then _ else _
      rw [if_neg Bool.false_ne_true]
      refine ⟨eH.trans e3, acc, done, rest, e3 _ _ ha, hd.mono (fun a o h => ?_), by omega, hr, hy⟩
      unfold dl at h ⊢
      by_cases z : a = p
      · rw [if_pos z] at h; cases h
      · rw [if_neg z] at h ⊢
        exact fz_same e3 _ _ h
    · cases hr
  · cases hr
end
end Orn

set_option linter.all false
set_option maxRecDepth 100000
set_option maxHeartbeats 4000000
namespace PySem
open Sem (wp)
theorem meets_enumerate_new1 {v : Value} {o : Obj} {H : Heap → Prop} (B : Begins v o H) :
    Meets (Builtin.«enumerate.__new__» ⟨[.type "enumerate", v], []⟩) (fun _ R s => H s.heap ∧
      R (.ok (.ret (.ref (s.heap.push o).objs.size))) { s with heap := (s.heap.push o).push { cls := .type "enumerate", data := .fields #[.none, .bool false, .ref s.heap.objs.size, rawInt 0, .none, .none] } }) :=
  .of_wp fun prog w A R s h => by
    obtain ⟨hp, g, d, tk, os⟩ := s; obtain ⟨h1, h⟩ := h
    have hsub := sub_enumerate
    have q1 : ∀ {A' : Around} {E : Value → Shared → Prop} {Q : Value → Shared → Prop}, Q (.ref hp.objs.size) ⟨hp.push o, g, d, tk, os⟩ → wpAny (model prog w) A' (pyIter v) Q E ⟨hp, g, d, tk, os⟩ :=
      fun q => B.iter prog w _ _ ⟨hp, g, d, tk, os⟩ _ h1 q
    wp_walk using q1
    refine wpAny_stack_any fun st => wpAny_pure ?_
    split
    · rename_i c _ _ _ _ _
      cases (c == Value.type "enumerate")
      · wp_walk using q1
        exact ⟨_, rfl, h⟩
      · wp_walk using q1
        exact ⟨_, rfl, h⟩
    · wp_walk using q1
      exact ⟨_, rfl, h⟩
section
variable {prog : Program} {w : World} {A : Around} {E : Value → Shared → Prop} {s : Shared}
theorem enum_begins1 {v : Value} {o : Obj} {H : Heap → Prop} {Q : Value → Shared → Prop} (B : Begins v o H) (h1 : H s.heap)
    (h : ∀ h', IsEnum h' (s.heap.objs.size + 1) s.heap.objs.size 0 .none → h'.get? s.heap.objs.size = some o → h'.objs.size = s.heap.objs.size + 2 →
      (∀ b o, s.heap.get? b = some o → h'.get? b = some o) → Q (.ref (s.heap.objs.size + 1)) { s with heap := h' }) :
    wpAny (model prog w) A (call (.type "enumerate") [v]) Q E s := by
  refine callType_new F.called_enumerate (by decide) (F.typeCall_enumerate_1 _) (F.newCall_enumerate_1 _) (fun obj => F.args_object_init_2 obj _) F.entry_enumerate_new
    (meets_enumerate_new1 B) ⟨h1, ?_⟩
  have hz : (s.heap.push o).objs.size = s.heap.objs.size + 1 := Heap.size_push ..
  show _ ∧ _
  rw [hz]
  have he : IsEnum ((s.heap.push o).push { cls := .type "enumerate", data := .fields #[.none, .bool false, .ref s.heap.objs.size, rawInt 0, .none, .none] }) (s.heap.objs.size + 1) s.heap.objs.size 0 .none := by
    have := Heap.get?_push_size (s.heap.push o) (o := { cls := .type "enumerate", data := .fields #[.none, .bool false, .ref s.heap.objs.size, rawInt 0, .none, .none] }) rfl
    rw [hz] at this; exact this
  refine ⟨⟨_, he, rfl⟩, h _ he (Heap.get?_push_of_some _ (Heap.get?_push_size _ B.free)) (by rw [Heap.size_push, hz]) fun b o x => Heap.get?_push_of_some _ (Heap.get?_push_of_some _ x)⟩
end
end PySem
namespace Orn
open L2 PySem PySem.Spec PyProof.Rows
def atE (xs : List V) (i : Nat) : List V := match xs[i]? with
  | some x => [.int (i : Nat), x]
  | none => []
def CE (K : PySem.W.Frag) (k : Bool) (a : Addr) : CW := fun H f n => ∃ xs, SqK k K H a xs ∧ n = xs.length ∧ f = atE xs
theorem turn_enumW {P : Program} {w : World} {K : PySem.W.Frag} {elts : List Expr} {kk : Nat} {tpos : Pos} {k : Bool} {a e it : Addr} (h1 : e ≠ it) (h2 : e ≠ a) (h3 : a ≠ it) :
    Turn P w K (.Tuple elts kk tpos) (ItW (CE K k a)) [e, it] e (fun i h => (∃ old, IsEnum h e it ((i : Nat) : Int) old) ∧ IsIt k h it a i) where
  mem := by simp
  obj := fun i h st b hb => by
    obtain ⟨⟨old, he⟩, hi⟩ := st
    have e' : b = e ∨ b = it := by simpa using hb
    rcases e' with z | z
    · rw [z]; exact ⟨_, he, fun v q => nomatch q⟩
    · rw [z]; exact hi.obj
  keep := fun i h h' st k => let ⟨⟨old, he⟩, hi⟩ := st; ⟨⟨old, k e (by simp) _ he⟩, hi.at fun o q => k it (by simp) o q⟩
  item := by
    intro X hP hw hK hc i pins s σ H E I hf st hg
    subst hP hw hK
    obtain ⟨⟨old, he⟩, hit⟩ := st
    obtain ⟨f, n, ⟨xs, hq, rfl, rfl⟩, hi⟩ := hg
    obtain ⟨its, rv, p, hz⟩ := hq.it I
    have hn : i < its.toArray.size := by rw [List.size_toArray, ← rv.length]; exact hi
    have D := draws_seqK (prog := X.prog) (w := X.w) (A := X.A.in1) (I.ok.hd hc) k it a h3 its.toArray
    have hel : e < s.heap.objs.size := Heap.lt_size he
    have hil : it < s.heap.objs.size := by obtain ⟨_, q, _⟩ := hit.obj; exact Heap.lt_size q
    refine wpAny_pyNext_enum_itemD D he ⟨hit, p⟩ hn h1 (by simp [h1, h2]) fun u h' tk hu ho hst hT hsz hk => ?_
    refine ⟨_, rfl, wpAny_letOwnedTupleGo_enum (s := { s with heap := h', toks := tk + 1 }) ho fun h'' he' sb => ?_⟩
    obtain ⟨x, hx, ru⟩ : ∃ x, xs[i]? = some x ∧ RelV x u := by
      obtain ⟨u', hu', ru⟩ := rv.get (List.getElem?_eq_getElem hi)
      have e1 : its.toArray[i]? = some u' := by simpa using hu'
      have e2 := hu.symm.trans e1
      injection e2 with e2
      subst e2
      exact ⟨_, List.getElem?_eq_getElem hi, ru⟩
    have hT2 : h''.get? s.heap.objs.size = some { cls := .type "tuple", data := .seq #[.int i tk, u] } := (sb.2 _ (Nat.ne_of_gt hel)).trans hT
    have new : ObjOk X.prog X.w (upd H s.heap.objs.size (.frz { cls := .type "tuple", data := .seq #[.int i tk, u] } (.tup [.int (i : Nat), x]))) h'' s.heap.objs.size (.frz { cls := .type "tuple", data := .seq #[.int i tk, u] } (.tup [.int (i : Nat), x])) :=
      ⟨hT2, by show 2 ≤ sizeLine; decide, [.int i tk, u], .cons ⟨_, rfl⟩ (.cons ru .nil), ⟨_, hT2, rfl, _, rfl⟩⟩
    have I1 := I.turnedNew (t' := tk + 1) (ch := [e, it]) (fun b ob hb q => (sb.2 b (fun z => hb (by simp [z]))).trans (hk b ob (fun z => hb (by simp [z])) (fun z => hb (by simp [z])) q)) hf (Nat.le_refl _) new
    refine ⟨.ref s.heap.objs.size, _, I1, rfl, ⟨s.heap.objs.size, { cls := .type "tuple", data := .seq #[.int i tk, u] }, rfl, I.hok.fresh (Nat.le_refl _), rfl, fun f n ⟨ys, hy, _, ef⟩ => ?_⟩, ⟨⟨u, ?_⟩, hst.1.at fun o q => (sb.2 it (Ne.symm h1)).trans q⟩, fun b hb => ?_⟩
    · have ey := hy.inj I hq
      subst ey
      subst ef
      unfold atE
      rw [hx]
    · have e1 : ((i + 1 : Nat) : Int) = (i : Int) + 1 := by omega
      rw [e1]; exact he'
    · have hb' : b < s.heap.objs.size := by
        have e' : b = e ∨ b = it := by simpa using hb
        rcases e' with z | z
        · rw [z]; exact hel
        · rw [z]; exact hil
      rw [upd_ne (Nat.ne_of_lt hb')]
      exact (hf b hb).1
  done := by
    intro X hP hw hK hc i pins s σ H E I hf st hg
    subst hP hw hK
    obtain ⟨⟨old, he⟩, hit⟩ := st
    obtain ⟨f, xs, hq, rfl, rfl⟩ := hg
    obtain ⟨its, rv, p, hz⟩ := hq.it I
    have D := draws_seqK (prog := X.prog) (w := X.w) (A := X.A.in1) (I.ok.hd hc) k it a h3 its.toArray
    obtain ⟨f0, f1, f2, f3, f4, f5⟩ := hf it (by simp)
    have hl : its.toArray.size = xs.length := by rw [List.size_toArray, ← rv.length]
    exact wpAny_pyNext_enum_endD D he (by rw [hl]; exact ⟨hit, p⟩) fun h' eb => ⟨rfl, I.turned (t' := s.toks) (fun b o hb q => eb b o hb q) f0 f1 f3 f4 f5⟩
  self := fun A i s Q E st h => let ⟨⟨_, he⟩, _⟩ := st; wpAny_pyIter_enum he h
def iEnumW (K : PySem.W.Frag) (ta : TA) : TI := fun σ H R => ta σ H fun vs H1 => ∃ k a xs, vs = [.ref a] ∧ SqK k K H1 a xs ∧ R (ItW (CE K k a)) H1
theorem pi_enumW {X : Cx} {e : Expr} {ta : TA} {p pos tpos : Pos} {elts : List Expr} {kk : Nat} (hg : Gl X "enumerate") (hm : X.mg "enumerate" = none) (ha : PA X [e] ta) (hs : starEach [e] X.env = [(false, eval e X.env)] := by rfl) :
    PI X (.Tuple elts kk tpos) (.Call (.Name "enumerate" p) [e] [] pos) (iEnumW X.K ta) := by
  refine ⟨fun pins s σ H R I h => ?_⟩
  refine Call_ (ld_blt I hg hm boot_enumerate (PyProof.Rows.callWith_type1 (thn (ha.run pos pins s σ H _ I h) fun us s1 ⟨vs, H1, I1, r1, q1⟩ => ?_) hs rfl))
  obtain ⟨k, a, xs, ex, hq, q⟩ := q1
  subst ex
  cases r1 with
  | cons r rr =>
    cases rr
    cases r
    obtain ⟨its, rv, p', hz⟩ := hq.it I1
    refine enum_begins1 (begins_seqK k a its.toArray) p' fun h' he hit hsz hk => wpAny_pyIter_enum he ?_
    have I2 : Inv X pins σ H1 { s1 with heap := h' } := I1.kept (t' := s1.toks) hk
    have hal := p'.lt
    refine ⟨s1.heap.objs.size + 1, [s1.heap.objs.size + 1, s1.heap.objs.size], _, _, H1, rfl, I2, turn_enumW (Nat.succ_ne_self _) (Nat.ne_of_gt (Nat.lt_succ_of_lt hal)) (Nat.ne_of_lt hal), ⟨⟨.none, he⟩, IsIt.mk0 hit⟩, fun b hb => ?_, q⟩
    have e' : b = s1.heap.objs.size + 1 ∨ b = s1.heap.objs.size := by simpa using hb
    have hle : s1.heap.objs.size ≤ b := by
      rcases e' with z | z
      · rw [z]; exact Nat.le_add_right _ _
      · rw [z]; exact Nat.le_refl _
    exact I1.fpOk hle (I1.hok.fresh hle)
end Orn

set_option linter.all false
set_option maxRecDepth 100000
set_option maxHeartbeats 4000000
namespace Orn
open L2 PySem PySem.Spec PyProof.Rows
section
variable {K : PySem.W.Frag} {mg : Str → Option Value} {R : Addr → Prop} {H0 : HZ} {F H H1 H' : Hp} {σ : L2.St} {env : En} {W : L2.WX} {nw : Bool} {g : En → Rs Fl} {tt : En → Rs Bool} {fe : En → Rs D} {fs : En → Rs (List D)}
theorem Dv.sq {v : V} {d : D} {xs : List D} (h : Dv K mg F v d) (e : itemsD d = some xs) : ∃ k a ws, v = .ref a ∧ SqK k K F a ws ∧ Dvs K mg F ws xs := by
  cases d <;> simp only [itemsD, reduceCtorEq, Option.some.injEq] at e
  · subst e
    obtain ⟨p, ws, rfl, hp, hs⟩ := Dv.lst_of h
    exact ⟨true, p, ws, rfl, .inl (.inl hp), hs⟩
  · subst e
    obtain ⟨p, ws, rfl, hp, hs⟩ := Dv.rol_of h
    exact ⟨true, p, ws, rfl, hp, hs⟩
  · subst e
    obtain ⟨p, ws, rfl, hp, hs⟩ := Dv.tup_of h
    exact ⟨false, p, ws, rfl, hp.sq, hs⟩
theorem same_new {T : Addr} {o : HO} (h : H T = none) : Same H (upd H T o) := fun a u e => by
  rw [upd_ne (ne_of_none e h)]
  exact e
theorem loop_W {C : CW} {f : Nat → List V} {n : Nat} {R0 : Addr → Prop} {Fs : Hp} {Dd : Ends} {t : Tg} {xs : List D} (hC : ∀ H, Same Fs H → C H f n) (hn : n = xs.length) (hf : ∀ i, i < n → ∃ ds, xs[i]? = some (.tup ds) ∧ Dvs K mg Fs (f i) ds)
    (L0 : LoopAt K mg W nw R0 H0 Fs Dd t.put g xs 0 σ H) :
    ∃ Wn : Nat → Nat → L2.St → Hp → Prop, (∃ m, Wn 0 m σ H) ∧ ∀ i m σ H, Wn i m σ H →
      ((ItW C).stop i H ∧ Dd.nx σ H) ∨ ((ItW C).go i H ∧ ∃ N : L2.St → Hp → Prop, (∀ σ' H', N σ' H' → ∃ m', m' < m ∧ Wn (i + 1) m' σ' H') ∧ ∀ x H', (ItW C).yld i H x H' → rdG K mg t.slots t.put x σ H' fun σ2 H2 => rdS K mg W nw g { Dd with nx := N, ct := N, bk := Dd.nx } σ2 H2) := by
  refine for_it (walk_W (C := C) (f := f) (n := n)) (LoopAt K mg W nw R0 H0 Fs Dd t.put g xs) L0 (fun i σ H _ L => ?_) (fun i x σ H H' hi L y => ?_) (fun σ H L => ?_)
  · obtain ⟨R, env, sb, S, f, q⟩ := L
    exact hC H (f.trans hid_le)
  · obtain ⟨T, o, rfl, hT, hd, rfl⟩ := y
    obtain ⟨ds, hx, hv⟩ := hf i hi
    refine loop_turnW hx (same_new hT) L fun R env S f2 => ?_
    have e1 : fz R σ env (upd H T (.frz o (.tup (f i)))) T = some (.frz o (.tup (f i))) := (S.newF (same_new hT) hT).trans upd_same
    exact Dv.tup (.inl ⟨o, e1, hd⟩) ((hv.mono f2).mono (fz_same (same_new hT)))
  · rw [hn] at L
    exact loop_end L
theorem CompAt.up {t : Tg} {vs : List Nat} {p : Addr} {xs ys : List D} {i : Nat} (C : CompAt K mg R σ env H1 p t vs tt fe xs ys i H) (e : Same H H') : CompAt K mg R σ env H1 p t vs tt fe xs ys i H' := by
  obtain ⟨eH, acc, done, rest, ha, hd, hlen, hr, hy⟩ := C
  refine ⟨eH.trans e, acc, done, rest, e _ _ ha, hd.mono (fun a o h => ?_), hlen, hr, hy⟩
  unfold dl at h ⊢
  by_cases z : a = p
  · rw [if_pos z] at h; cases h
  · rw [if_neg z] at h ⊢
    exact fz_same e _ _ h
theorem comp_W {C : CW} {f : Nat → List V} {n : Nat} {t : Tg} {vs : List Nat} {xs ys : List D} {p : Addr} {Q : VK} (hj : ∀ j, j ∈ t.slots → j ∈ vs) (S : StR K mg R H0 σ H1 env) (hC : ∀ H, Same (fz R σ env H1) H → C H f n) (hn : n = xs.length)
    (hf : ∀ i, i < n → ∃ ds, xs[i]? = some (.tup ds) ∧ Dvs K mg (fz R σ env H1) (f i) ds) (hnl : noL env vs = true) (hl : xs.length ≤ SL) (hc : compL t tt fe (wipeE env vs) xs = .ok ys) (hp : H1 p = none)
    (q : Post K mg W R H0 σ env .new H1 Q (.ok (.lst ys))) :
    ∃ Wn : Nat → Nat → Hp → Prop, (∃ m, Wn 0 m (upd H1 p (.lst []))) ∧ ∀ i m H, Wn i m H →
      ((ItW C).stop i H ∧ Q (.ref p) H) ∨ ((ItW C).go i H ∧ ∃ Nx : Hp → Prop, (∀ H', Nx H' → ∃ m', m' < m ∧ Wn (i + 1) m' H') ∧ ∀ x H', (ItW C).yld i H x H' → rdG K mg t.slots t.put x (wipe σ vs) H' fun σ2 H2 => wipe σ2 vs = wipe σ vs ∧ rdT K mg W0 tt σ2 H2 fun b H3 =>
        if b = true then rdP K mg W0 .fz fe σ2 H3 fun y H4 => ∃ acc, H4 p = some (.lst acc) ∧ acc.length < sizeLine ∧ Nx (upd H4 p (.lst (acc ++ [y]))) else Nx H3) := by
  refine lc_it (walk_W (C := C) (f := f) (n := n)) (Qd := fun H => Q (.ref p) H) (CompAt K mg R σ env H1 p t vs tt fe xs ys) (comp_start hc hp) (fun i H _ C => ?_) (fun i x H H' hi C y => ?_) (fun H C => ?_)
  · exact hC H (hid_le.trans C.1)
  · obtain ⟨T, o, rfl, hT, hd, rfl⟩ := y
    obtain ⟨ds, hx, hv⟩ := hf i hi
    have e1 := same_new (o := .frz o (.tup (f i))) hT
    have C' := C.up e1
    have hTp : T ≠ p := fun z => by
      obtain ⟨_, acc, _, _, ha, _⟩ := C
      rw [← z, hT] at ha
      cases ha
    have hT1 : H1 T = none := C.1.free hT
    refine comp_turnW S hnl hl hp hj hx (Dv.tup (.inl ⟨o, ?_, hd⟩) (hv.mono fun a u h => ?_)) C'
    · unfold dl
      rw [if_neg hTp]
      exact (S.newF (C.1.trans e1) hT1).trans upd_same
    · unfold dl
      rw [if_neg (fun z => by
        have e2 := hid_le _ _ h
        rw [z, hp] at e2
        cases e2)]
      exact fz_same (C.1.trans e1) _ _ h
  · rw [hn] at C
    exact comp_end hp q C S
end
/-! ### enumerate -/
def eg : List D → Rs (List D)
  | [d] => match itemsD d with
    | some xs => .ok (xs.mapIdx fun i x => .tup [.int (i : Nat), x])
    | none => .bad
  | _ => .bad
theorem eg_src {K : PySem.W.Frag} {mg : Str → Option Value} {F : Hp} {vs : List V} {ds xs : List D} (h : Dvs K mg F vs ds) (e : eg ds = .ok xs) : ∃ k a ws, vs = [.ref a] ∧ SqK k K F a ws ∧ ws.length = xs.length ∧ ∀ i, i < ws.length → ∃ ys, xs[i]? = some (.tup ys) ∧ Dvs K mg F (atE ws i) ys := by
  unfold eg at e
  split at e
  · rename_i d
    cases h with
    | cons h r =>
      cases r
      split at e
      · rename_i zs hz
        injection e with e
        subst e
        obtain ⟨k, a, ws, rfl, hq, hs⟩ := h.sq hz
        refine ⟨k, a, ws, rfl, hq, by rw [List.length_mapIdx, hs.len], fun i hi => ?_⟩
        obtain ⟨x, hx, hv⟩ := hs.getV (List.getElem?_eq_getElem hi)
        refine ⟨[.int (i : Nat), x], by rw [List.getElem?_mapIdx, hx]; rfl, ?_⟩
        unfold atE
        rw [List.getElem?_eq_getElem hi]
        exact .cons (.int _) (.cons hv .nil)
      · cases e
  · cases e
section
variable {X : Cx} {W : L2.WX} {nw : Bool} {g : En → Rs Fl} {fs : En → Rs (List D)} {tt : En → Rs Bool} {fe : En → Rs D} {pos : Pos}
theorem prs_forE {t : Tg} {a : Expr} {body : List Stmt} {p pos2 tpos : Pos} {elts : List Expr} {kk : Nat} (hp : PassesOwn (model X.prog X.w) X.A X.env X.xe) (hc : X.calm = true) (gl : Gl X "enumerate") (hm : X.mg "enumerate" = none) (ha : PRA X W [a] fs) (hg : PRG X (.Tuple elts kk tpos) t) (hb : PRB X W nw body g)
    (hs1 : starEach [a] X.env = [(false, eval a X.env)] := by rfl)
    (hs : ∀ x, foldedSetIterable (.Call (.Name "enumerate" p) [a] [] pos2) X.env x = pure x := by intro _; rfl) : PRS X W nw (.For (.Tuple elts kk tpos) (.Call (.Name "enumerate" p) [a] [] pos2) body [] pos) (forR eg t g fs) :=
  ps_imp (ps_for (pos := pos) hp hc (pi_enumW (p := p) (pos := pos2) gl hm ha hs1) hg hb hs) fun Dd σ H ⟨R0, R, H0, env, sb, S, q⟩ => by
  refine rdA_with sb S q fun vs ds H1 e1 S1 r1 q1 => ?_
  split at q1
  · rename_i xs hxs
    obtain ⟨k, a, ws, rfl, hq, hn, hf⟩ := eg_src r1 hxs
    exact ⟨k, a, ws, rfl, hq.same hid_le, loop_W (C := CE X.K k a) (f := atE ws) (n := ws.length) (Fs := fz R σ env H1) (fun H e => ⟨ws, hq.same e, rfl, rfl⟩) hn hf ⟨R, env, sb, S1, Same.refl _, q1⟩⟩
  · exact q1.elim
theorem comp_rdE {σ : L2.St} {H : Hp} {t : Tg} {vs : List Nat} (hj : ∀ j, j ∈ t.slots → j ∈ vs) {Q : VK} (h : rdP X.K X.mg W .new (compR eg t vs tt fe fs) σ H Q) :
    tLc (iEnumW X.K (rdA X.K X.mg W fs)) (rdG X.K X.mg t.slots t.put) (rdT X.K X.mg W0 tt) (rdP X.K X.mg W0 .fz fe) vs σ H Q := by
  obtain ⟨R, H0, env, S, q⟩ := h
  unfold compR at q
  refine rdA_post S q fun ws0 ds H1 e1 S1 r1 q1 => ?_
  split at q1
  · rename_i xs hxs
    obtain ⟨k, a, ws, rfl, hq, hn, hf⟩ := eg_src r1 hxs
    obtain ⟨hnl, hl, ys, hc, q2⟩ := compB_ok q1
    exact ⟨k, a, ws, rfl, hq.same hid_le, fun D hD => comp_W (C := CE X.K k a) (f := atE ws) (n := ws.length) hj S1 (fun H e => ⟨ws, hq.same e, rfl, rfl⟩) hn hf hnl hl hc hD q2⟩
  · exact q1.elim
end
end Orn

set_option linter.all false
set_option maxRecDepth 100000
set_option maxHeartbeats 4000000
namespace Orn
open L2 PySem PySem.Spec PyProof.Rows
section
variable {X : Cx} {W : L2.WX} {nw : Bool} {g : En → Rs Fl} {fs : En → Rs (List D)} {tt : En → Rs Bool} {fe : En → Rs D} {pos : Pos}
theorem pr_compE {elt a : Expr} {ifs : List Expr} {scope : Scope} {own : List (Str × Nat)} {t : Tg} {p pos2 tpos : Pos} {elts : List Expr} {kk : Nat} (hc : X.calm = true) (hN : X.N.Nodup) (gl : Gl X "enumerate") (hm : X.mg "enumerate" = none) (ha : PRA X W [a] fs) (ok : BlkOk X.N X.env.scope scope own) (hg : PRGc X scope (.Tuple elts kk tpos) t) (ht : PRTc X scope ifs tt) (he : PRc X scope elt fe)
    (hj : ∀ j, j ∈ t.slots → j ∈ own.map (·.2) := by decide) (hs1 : starEach [a] X.env = [(false, eval a X.env)] := by rfl) (hs : ∀ x, foldedSetIterable (.Call (.Name "enumerate" p) [a] [] pos2) X.env x = pure x := by intro _; rfl) :
    PR X W .new (.ListComp elt [⟨.Tuple elts kk tpos, .Call (.Name "enumerate" p) [a] [] pos2, ifs, 0⟩] scope pos) (compR eg t (own.map (·.2)) tt fe fs) := pe_imp (pe_lc hc hN (pi_enumW gl hm ha hs1) ok hg ht he hs) fun σ H Q h => comp_rdE hj h
end
/-! ### zip of two -/
def at2 (xs ys : List V) (i : Nat) : List V := match xs[i]?, ys[i]? with
  | some x, some y => [x, y]
  | _, _ => []
def CZ2 (K : PySem.W.Frag) (k1 k2 : Bool) (a b : Addr) : CW := fun H f n => ∃ xs ys, SqK k1 K H a xs ∧ SqK k2 K H b ys ∧ n = min xs.length ys.length ∧ f = at2 xs ys
theorem relV_at {xs : List V} {its : List Value} {i : Nat} {u : Value} (rv : Vals xs its) (hi : i < xs.length) (hu : its.toArray[i]? = some u) : ∃ x, xs[i]? = some x ∧ RelV x u := by
  obtain ⟨u', hu', ru⟩ := rv.get (List.getElem?_eq_getElem hi)
  have e1 : its.toArray[i]? = some u' := by simpa using hu'
  have e2 := hu.symm.trans e1
  injection e2 with e2
  subst e2
  exact ⟨_, List.getElem?_eq_getElem hi, ru⟩
theorem turn_zip2W {P : Program} {w : World} {K : PySem.W.Frag} {elts : List Expr} {kk : Nat} {tpos : Pos} {k1 k2 : Bool} {a b z TI TO i1 i2 : Addr} (S : ZipSep2 z TI TO i1 i2 [i1, a] [i2, b]) (ha : a ≠ i1) (hb : b ≠ i2) :
    Turn P w K (.Tuple elts kk tpos) (ItW (CZ2 K k1 k2 a b)) [z, TI, TO, i1, i2] z (fun i h => IsZip h z TI TO .none ∧ IsTupOf2 h TI (.ref i1) (.ref i2) ∧ (∃ x y, IsTupOf2 h TO x y) ∧ IsIt k1 h i1 a i ∧ IsIt k2 h i2 b i) where
  mem := by simp
  obj := fun i h st c hc => by
    obtain ⟨hz, hTI, ⟨x, y, hTO⟩, h1, h2⟩ := st
    have e' : c = z ∨ c = TI ∨ c = TO ∨ c = i1 ∨ c = i2 := by simpa using hc
    rcases e' with q | q | q | q | q
    · rw [q]; exact ⟨_, hz, fun v q => nomatch q⟩
    · rw [q]; exact ⟨_, hTI, fun v q => nomatch q⟩
    · rw [q]; exact ⟨_, hTO, fun v q => nomatch q⟩
    · rw [q]; exact h1.obj
    · rw [q]; exact h2.obj
  keep := fun i h h' st k => by
    obtain ⟨hz, hTI, ⟨x, y, hTO⟩, h1, h2⟩ := st
    exact ⟨k z (by simp) _ hz, k TI (by simp) _ hTI, ⟨x, y, k TO (by simp) _ hTO⟩, h1.at fun o q => k i1 (by simp) o q, h2.at fun o q => k i2 (by simp) o q⟩
  item := by
    intro X hP hw hK hc i pins s σ H E I hf st hg
    subst hP hw hK
    obtain ⟨hz, hTI, ⟨x0, y0, hTO⟩, h1, h2⟩ := st
    obtain ⟨f, n, ⟨xs, ys, hqx, hqy, rfl, rfl⟩, hi⟩ := hg
    obtain ⟨its, rv, p, _⟩ := hqx.it I
    obtain ⟨its2, rv2, p2, _⟩ := hqy.it I
    have D1 := draws_seqK (prog := X.prog) (w := X.w) (A := X.A.in1) (I.ok.hd hc) k1 i1 a ha its.toArray
    have D2 := draws_seqK (prog := X.prog) (w := X.w) (A := X.A.in1) (I.ok.hd hc) k2 i2 b hb its2.toArray
    have l1 : its.toArray.size = xs.length := by rw [List.size_toArray, ← rv.length]
    have l2 : its2.toArray.size = ys.length := by rw [List.size_toArray, ← rv2.length]
    have hi1 : i < xs.length := by omega
    have hi2 : i < ys.length := by omega
    have hzl : z < s.heap.objs.size := Heap.lt_size hz
    refine wpAny_pyNext_zipD2_item S D1 D2 hz hTI hTO ⟨h1, p⟩ ⟨h2, p2⟩ (by omega) (by omega) fun u u2 h' tk hu hu2 z' TO' st1 st2 hT hsz hk => ?_
    refine ⟨_, rfl, wpAny_letOwnedTupleGo_zip (s := { s with heap := h', toks := tk }) z' fun h'' z'' sb => ?_⟩
    obtain ⟨x, hx, ru⟩ := relV_at rv hi1 hu
    obtain ⟨y, hy, ru2⟩ := relV_at rv2 hi2 hu2
    have hT2 : h''.get? s.heap.objs.size = some { cls := .type "tuple", data := .seq #[u, u2] } := (sb.2 _ (Nat.ne_of_gt hzl)).trans hT
    have new : ObjOk X.prog X.w (upd H s.heap.objs.size (.frz { cls := .type "tuple", data := .seq #[u, u2] } (.tup [x, y]))) h'' s.heap.objs.size (.frz { cls := .type "tuple", data := .seq #[u, u2] } (.tup [x, y])) :=
      ⟨hT2, by show 2 ≤ sizeLine; decide, [u, u2], .cons ru (.cons ru2 .nil), ⟨_, hT2, rfl, _, rfl⟩⟩
    have I1 := I.turnedNew (t' := tk) (ch := [z, TI, TO, i1, i2]) (fun c o hb q => (sb.2 c (fun q' => hb (by simp [q']))).trans (hk c o (fun q' => hb (by simp [q'])) (fun q' => hb (by simp [q'])) (fun q' => hb (by simp [q'])) (fun q' => hb (by simp [q'])) q)) hf (Nat.le_refl _) new
    refine ⟨.ref s.heap.objs.size, _, I1, rfl, ⟨s.heap.objs.size, { cls := .type "tuple", data := .seq #[u, u2] }, rfl, I.hok.fresh (Nat.le_refl _), rfl, fun f n ⟨as, bs, h3, h4, _, ef⟩ => ?_⟩, ⟨z'', ?_, ⟨u, u2, ?_⟩, ?_, ?_⟩, fun c hcm => ?_⟩
    · have e1 := h3.inj I hqx
      have e2 := h4.inj I hqy
      subst e1
      subst e2
      subst ef
      unfold at2
      rw [hx, hy]
    · exact (sb.2 _ S.TIz).trans (hk _ _ S.TIz S.TITO S.TIi1 S.TIi2 hTI)
    · exact (sb.2 _ S.TOz).trans TO'
    · exact st1.1.at fun o q => (sb.2 _ S.zi1.symm).trans q
    · exact st2.1.at fun o q => (sb.2 _ S.zi2.symm).trans q
    · have hlt : c < s.heap.objs.size := by
        have e' : c = z ∨ c = TI ∨ c = TO ∨ c = i1 ∨ c = i2 := by simpa using hcm
        rcases e' with q | q | q | q | q
        · rw [q]; exact hzl
        · rw [q]; exact Heap.lt_size hTI
        · rw [q]; exact Heap.lt_size hTO
        · rw [q]; obtain ⟨_, e1, _⟩ := h1.obj; exact Heap.lt_size e1
        · rw [q]; obtain ⟨_, e2, _⟩ := h2.obj; exact Heap.lt_size e2
      rw [upd_ne (Nat.ne_of_lt hlt)]
      exact (hf c hcm).1
  done := by
    intro X hP hw hK hc i pins s σ H E I hf st hg
    subst hP hw hK
    obtain ⟨hz, hTI, ⟨x0, y0, hTO⟩, h1, h2⟩ := st
    obtain ⟨f, xs, ys, hqx, hqy, hn, rfl⟩ := hg
    obtain ⟨its, rv, p, _⟩ := hqx.it I
    obtain ⟨its2, rv2, p2, _⟩ := hqy.it I
    have D1 := draws_seqK (prog := X.prog) (w := X.w) (A := X.A.in1) (I.ok.hd hc) k1 i1 a ha its.toArray
    have D2 := draws_seqK (prog := X.prog) (w := X.w) (A := X.A.in1) (I.ok.hd hc) k2 i2 b hb its2.toArray
    have l1 : its.toArray.size = xs.length := by rw [List.size_toArray, ← rv.length]
    have l2 : its2.toArray.size = ys.length := by rw [List.size_toArray, ← rv2.length]
    exact wpAny_pyNext_zipD2_end S D1 D2 hz hTI hTO ⟨h1, p⟩ ⟨h2, p2⟩ (by omega) (by omega) (by omega) fun h' tk hk => ⟨rfl, I.turnedL (t' := tk) (ch := [z, TI, TO, i1, i2]) (fun c o hb q =>
      hk c o (fun q' => hb (by simp [q'])) (fun q' => hb (by simp [q'])) (fun q' => hb (by simp [q'])) (fun q' => hb (by simp [q'])) q) hf⟩
  self := fun A i s Q E st h => wpAny_pyIter_zip st.1 h
def iZip2W (K : PySem.W.Frag) (ta : TA) : TI := fun σ H R => ta σ H fun vs H1 => ∃ k1 k2 a b xs ys, vs = [.ref a, .ref b] ∧ SqK k1 K H1 a xs ∧ SqK k2 K H1 b ys ∧ R (ItW (CZ2 K k1 k2 a b)) H1
theorem pi_zip2W {X : Cx} {e e2 : Expr} {ta : TA} {p pos tpos : Pos} {elts : List Expr} {kk : Nat} (hg : Gl X "zip") (hm : X.mg "zip" = none) (ha : PA X [e, e2] ta)
    (hs : starEach [e, e2] X.env = (false, eval e X.env) :: starEach [e2] X.env := by rfl) (hpl : (backTo pos (starEach [e2] X.env)).any (·.1) = false := by rfl) :
    PI X (.Tuple elts kk tpos) (.Call (.Name "zip" p) [e, e2] [] pos) (iZip2W X.K ta) := by
  refine ⟨fun pins s σ H R I h => ?_⟩
  refine Call_ (ld_blt I hg hm PyProof.Rows.boot_zip (PyProof.Rows.callWith_type1 (thn (ha.run pos pins s σ H _ I h) fun us s1 ⟨vs, H1, I1, r1, q1⟩ => ?_) hs hpl))
  obtain ⟨k1, k2, a, b, xs, ys, ex, hqx, hqy, q⟩ := q1
  subst ex
  cases r1 with
  | cons r rr =>
    cases rr with
    | cons r' rr =>
      cases rr
      cases r
      cases r'
      obtain ⟨its, rv, p1, _⟩ := hqx.it I1
      obtain ⟨its2, rv2, p2, _⟩ := hqy.it I1
      have la := p1.lt
      have lb := p2.lt
      refine zip_begins2 (begins_seqK k1 a its.toArray) (begins_seqK k2 b its2.toArray) p1 p2 fun h' hz hTI hTO h1 h2 hsz hk => wpAny_pyIter_zip hz ?_
      have I2 : Inv X pins σ H1 { s1 with heap := h' } := I1.kept (t' := s1.toks) hk
      refine ⟨s1.heap.objs.size + 4, [s1.heap.objs.size + 4, s1.heap.objs.size + 2, s1.heap.objs.size + 3, s1.heap.objs.size, s1.heap.objs.size + 1], _, _, H1, rfl, I2, turn_zip2W (zip_sep2 (fp1 := [a]) (fp2 := [b]) (fun c hc => by rw [List.mem_singleton.mp hc]; exact la) (fun c hc => by rw [List.mem_singleton.mp hc]; exact lb)) (Nat.ne_of_lt la) (Nat.ne_of_lt (Nat.lt_succ_of_lt lb)), ⟨hz, hTI, ⟨_, _, hTO⟩, IsIt.mk0 h1, IsIt.mk0 h2⟩, fun c hcm => ?_, q⟩
      have e' : c = s1.heap.objs.size + 4 ∨ c = s1.heap.objs.size + 2 ∨ c = s1.heap.objs.size + 3 ∨ c = s1.heap.objs.size ∨ c = s1.heap.objs.size + 1 := by simpa using hcm
      have hle : s1.heap.objs.size ≤ c := by
        rcases e' with z | z | z | z | z
        · rw [z]; exact Nat.le_add_right _ _
        · rw [z]; exact Nat.le_add_right _ _
        · rw [z]; exact Nat.le_add_right _ _
        · rw [z]; exact Nat.le_refl _
        · rw [z]; exact Nat.le_add_right _ _
      exact I1.fpOk hle (I1.hok.fresh hle)
def zip2 : List D → List D → List D
  | x :: xs, y :: ys => .tup [x, y] :: zip2 xs ys
  | _, _ => []
theorem zip2_len : ∀ (xs ys : List D), (zip2 xs ys).length = min xs.length ys.length
  | [], _ => by unfold zip2; simp
  | _ :: _, [] => by unfold zip2; simp
  | x :: xs, y :: ys => by unfold zip2; rw [List.length_cons, zip2_len xs ys, List.length_cons, List.length_cons]; omega
theorem zip2_at : ∀ (xs ys : List D) (i : Nat) (x y : D), xs[i]? = some x → ys[i]? = some y → (zip2 xs ys)[i]? = some (.tup [x, y])
  | [], _, i, _, _, h, _ => by simp at h
  | _ :: _, [], i, _, _, _, h => by simp at h
  | x :: xs, y :: ys, 0, a, b, h1, h2 => by
    have h1 := Option.some.inj h1
    have h2 := Option.some.inj h2
    subst h1
    subst h2
    rfl
  | x :: xs, y :: ys, i + 1, a, b, h1, h2 => by
    unfold zip2
    exact zip2_at xs ys i a b h1 h2
def zg2 : List D → Rs (List D)
  | [a, b] => match itemsD a, itemsD b with
    | some xs, some ys => .ok (zip2 xs ys)
    | _, _ => .bad
  | _ => .bad
theorem zg2_src {K : PySem.W.Frag} {mg : Str → Option Value} {F : Hp} {vs : List V} {ds zs : List D} (h : Dvs K mg F vs ds) (e : zg2 ds = .ok zs) : ∃ k1 k2 a b ws us, vs = [.ref a, .ref b] ∧ SqK k1 K F a ws ∧ SqK k2 K F b us ∧ min ws.length us.length = zs.length ∧ ∀ i, i < min ws.length us.length → ∃ ys, zs[i]? = some (.tup ys) ∧ Dvs K mg F (at2 ws us i) ys := by
  unfold zg2 at e
  split at e
  · rename_i d d2
    cases h with
    | cons h r =>
      cases r with
      | cons h2 r =>
        cases r
        split at e
        · rename_i xs ys hx hy
          injection e with e
          subst e
          obtain ⟨k1, a, ws, rfl, hq, hs⟩ := h.sq hx
          obtain ⟨k2, b, us, rfl, hq2, hs2⟩ := h2.sq hy
          refine ⟨k1, k2, a, b, ws, us, rfl, hq, hq2, by rw [zip2_len, hs.len, hs2.len], fun i hi => ?_⟩
          have hi1 : i < ws.length := by omega
          have hi2 : i < us.length := by omega
          obtain ⟨x, hx, hv⟩ := hs.getV (List.getElem?_eq_getElem hi1)
          obtain ⟨y, hy, hv2⟩ := hs2.getV (List.getElem?_eq_getElem hi2)
          refine ⟨[x, y], zip2_at _ _ _ _ _ hx hy, ?_⟩
          unfold at2
          rw [List.getElem?_eq_getElem hi1, List.getElem?_eq_getElem hi2]
          exact .cons hv (.cons hv2 .nil)
        · cases e
  · cases e
section
variable {X : Cx} {W : L2.WX} {nw : Bool} {g : En → Rs Fl} {fs : En → Rs (List D)} {tt : En → Rs Bool} {fe : En → Rs D} {pos : Pos}
theorem prs_forZ2 {t : Tg} {a b : Expr} {body : List Stmt} {p pos2 tpos : Pos} {elts : List Expr} {kk : Nat} (hp : PassesOwn (model X.prog X.w) X.A X.env X.xe) (hc : X.calm = true) (gl : Gl X "zip") (hm : X.mg "zip" = none) (ha : PRA X W [a, b] fs) (hg : PRG X (.Tuple elts kk tpos) t) (hb : PRB X W nw body g)
    (hs1 : starEach [a, b] X.env = (false, eval a X.env) :: starEach [b] X.env := by rfl) (hpl : (backTo pos2 (starEach [b] X.env)).any (·.1) = false := by rfl)
    (hs : ∀ x, foldedSetIterable (.Call (.Name "zip" p) [a, b] [] pos2) X.env x = pure x := by intro _; rfl) : PRS X W nw (.For (.Tuple elts kk tpos) (.Call (.Name "zip" p) [a, b] [] pos2) body [] pos) (forR zg2 t g fs) :=
  ps_imp (ps_for (pos := pos) hp hc (pi_zip2W (p := p) (pos := pos2) gl hm ha hs1 hpl) hg hb hs) fun Dd σ H ⟨R0, R, H0, env, sb, S, q⟩ => by
  refine rdA_with sb S q fun vs ds H1 e1 S1 r1 q1 => ?_
  split at q1
  · rename_i xs hxs
    obtain ⟨k1, k2, a, b, ws, us, rfl, hq, hq2, hn, hf⟩ := zg2_src r1 hxs
    exact ⟨k1, k2, a, b, ws, us, rfl, hq.same hid_le, hq2.same hid_le, loop_W (C := CZ2 X.K k1 k2 a b) (f := at2 ws us) (n := min ws.length us.length) (Fs := fz R σ env H1) (fun H e => ⟨ws, us, hq.same e, hq2.same e, rfl, rfl⟩) hn hf ⟨R, env, sb, S1, Same.refl _, q1⟩⟩
  · exact q1.elim
theorem comp_rdZ2 {σ : L2.St} {H : Hp} {t : Tg} {vs : List Nat} (hj : ∀ j, j ∈ t.slots → j ∈ vs) {Q : VK} (h : rdP X.K X.mg W .new (compR zg2 t vs tt fe fs) σ H Q) :
    tLc (iZip2W X.K (rdA X.K X.mg W fs)) (rdG X.K X.mg t.slots t.put) (rdT X.K X.mg W0 tt) (rdP X.K X.mg W0 .fz fe) vs σ H Q := by
  obtain ⟨R, H0, env, S, q⟩ := h
  unfold compR at q
  refine rdA_post S q fun ws0 ds H1 e1 S1 r1 q1 => ?_
  split at q1
  · rename_i xs hxs
    obtain ⟨k1, k2, a, b, ws, us, rfl, hq, hq2, hn, hf⟩ := zg2_src r1 hxs
    obtain ⟨hnl, hl, ys, hc, q2⟩ := compB_ok q1
    exact ⟨k1, k2, a, b, ws, us, rfl, hq.same hid_le, hq2.same hid_le, fun D hD => comp_W (C := CZ2 X.K k1 k2 a b) (f := at2 ws us) (n := min ws.length us.length) hj S1 (fun H e => ⟨ws, us, hq.same e, hq2.same e, rfl, rfl⟩) hn hf hnl hl hc hD q2⟩
  · exact q1.elim
theorem pr_compZ2 {elt a b : Expr} {ifs : List Expr} {scope : Scope} {own : List (Str × Nat)} {t : Tg} {p pos2 tpos : Pos} {elts : List Expr} {kk : Nat} (hc : X.calm = true) (hN : X.N.Nodup) (gl : Gl X "zip") (hm : X.mg "zip" = none) (ha : PRA X W [a, b] fs) (ok : BlkOk X.N X.env.scope scope own) (hg : PRGc X scope (.Tuple elts kk tpos) t) (ht : PRTc X scope ifs tt) (he : PRc X scope elt fe)
    (hj : ∀ j, j ∈ t.slots → j ∈ own.map (·.2) := by decide) (hs1 : starEach [a, b] X.env = (false, eval a X.env) :: starEach [b] X.env := by rfl) (hpl : (backTo pos2 (starEach [b] X.env)).any (·.1) = false := by rfl) (hs : ∀ x, foldedSetIterable (.Call (.Name "zip" p) [a, b] [] pos2) X.env x = pure x := by intro _; rfl) :
    PR X W .new (.ListComp elt [⟨.Tuple elts kk tpos, .Call (.Name "zip" p) [a, b] [] pos2, ifs, 0⟩] scope pos) (compR zg2 t (own.map (·.2)) tt fe fs) := pe_imp (pe_lc hc hN (pi_zip2W gl hm ha hs1 hpl) ok hg ht he hs) fun σ H Q h => comp_rdZ2 hj h
end
end Orn

set_option linter.all false
set_option maxRecDepth 100000
set_option maxHeartbeats 4000000
namespace Orn
open L2 PySem PySem.Spec PyProof.Rows
/-! ### zip of three -/
def at3 (xs ys us : List V) (i : Nat) : List V := match xs[i]?, ys[i]?, us[i]? with
  | some x, some y, some u => [x, y, u]
  | _, _, _ => []
def CZ3 (K : PySem.W.Frag) (k1 k2 k3 : Bool) (a b c : Addr) : CW := fun H f n => ∃ xs ys us, SqK k1 K H a xs ∧ SqK k2 K H b ys ∧ SqK k3 K H c us ∧ n = min (min xs.length ys.length) us.length ∧ f = at3 xs ys us
theorem turn_zip3W {P : Program} {w : World} {K : PySem.W.Frag} {elts : List Expr} {kk : Nat} {tpos : Pos} {k1 k2 k3 : Bool} {a b c z TI TO i1 i2 i3 : Addr} (S : ZipSep3 z TI TO i1 i2 i3 [i1, a] [i2, b] [i3, c]) (ha : a ≠ i1) (hb : b ≠ i2) (hcc : c ≠ i3) :
    Turn P w K (.Tuple elts kk tpos) (ItW (CZ3 K k1 k2 k3 a b c)) [z, TI, TO, i1, i2, i3] z (fun i h => IsZip h z TI TO .none ∧ IsTupOf3 h TI (.ref i1) (.ref i2) (.ref i3) ∧ (∃ x y u, IsTupOf3 h TO x y u) ∧ IsIt k1 h i1 a i ∧ IsIt k2 h i2 b i ∧ IsIt k3 h i3 c i) where
  mem := by simp
  obj := fun i h st c hc => by
    obtain ⟨hz, hTI, ⟨x, y, u, hTO⟩, h1, h2, h3⟩ := st
    have e' : c = z ∨ c = TI ∨ c = TO ∨ c = i1 ∨ c = i2 ∨ c = i3 := by simpa using hc
    rcases e' with q | q | q | q | q | q
    · rw [q]; exact ⟨_, hz, fun v q => nomatch q⟩
    · rw [q]; exact ⟨_, hTI, fun v q => nomatch q⟩
    · rw [q]; exact ⟨_, hTO, fun v q => nomatch q⟩
    · rw [q]; exact h1.obj
    · rw [q]; exact h2.obj
    · rw [q]; exact h3.obj
  keep := fun i h h' st k => by
    obtain ⟨hz, hTI, ⟨x, y, u, hTO⟩, h1, h2, h3⟩ := st
    exact ⟨k z (by simp) _ hz, k TI (by simp) _ hTI, ⟨x, y, u, k TO (by simp) _ hTO⟩, h1.at fun o q => k i1 (by simp) o q, h2.at fun o q => k i2 (by simp) o q, h3.at fun o q => k i3 (by simp) o q⟩
  item := by
    intro X hP hw hK hc i pins s σ H E I hf st hg
    subst hP hw hK
    obtain ⟨hz, hTI, ⟨x0, y0, u0, hTO⟩, h1, h2, h3⟩ := st
    obtain ⟨f, n, ⟨xs, ys, us, hqx, hqy, hqu, rfl, rfl⟩, hi⟩ := hg
    obtain ⟨its, rv, p, _⟩ := hqx.it I
    obtain ⟨its2, rv2, p2, _⟩ := hqy.it I
    obtain ⟨its3, rv3, p3, _⟩ := hqu.it I
    have D1 := draws_seqK (prog := X.prog) (w := X.w) (A := X.A.in1) (I.ok.hd hc) k1 i1 a ha its.toArray
    have D2 := draws_seqK (prog := X.prog) (w := X.w) (A := X.A.in1) (I.ok.hd hc) k2 i2 b hb its2.toArray
    have D3 := draws_seqK (prog := X.prog) (w := X.w) (A := X.A.in1) (I.ok.hd hc) k3 i3 c hcc its3.toArray
    have l1 : its.toArray.size = xs.length := by rw [List.size_toArray, ← rv.length]
    have l2 : its2.toArray.size = ys.length := by rw [List.size_toArray, ← rv2.length]
    have l3 : its3.toArray.size = us.length := by rw [List.size_toArray, ← rv3.length]
    have hi1 : i < xs.length := by omega
    have hi2 : i < ys.length := by omega
    have hi3 : i < us.length := by omega
    have hzl : z < s.heap.objs.size := Heap.lt_size hz
    refine wpAny_pyNext_zipD3_item S D1 D2 D3 hz hTI hTO ⟨h1, p⟩ ⟨h2, p2⟩ ⟨h3, p3⟩ (by omega) (by omega) (by omega) fun u u2 u3 h' tk hu hu2 hu3 z' TO' st1 st2 st3 hT hsz hk => ?_
    refine ⟨_, rfl, wpAny_letOwnedTupleGo_zip (s := { s with heap := h', toks := tk }) z' fun h'' z'' sb => ?_⟩
    obtain ⟨x, hx, ru⟩ := relV_at rv hi1 hu
    obtain ⟨y, hy, ru2⟩ := relV_at rv2 hi2 hu2
    obtain ⟨v, hv, ru3⟩ := relV_at rv3 hi3 hu3
    have hT2 : h''.get? s.heap.objs.size = some { cls := .type "tuple", data := .seq #[u, u2, u3] } := (sb.2 _ (Nat.ne_of_gt hzl)).trans hT
    have new : ObjOk X.prog X.w (upd H s.heap.objs.size (.frz { cls := .type "tuple", data := .seq #[u, u2, u3] } (.tup [x, y, v]))) h'' s.heap.objs.size (.frz { cls := .type "tuple", data := .seq #[u, u2, u3] } (.tup [x, y, v])) :=
      ⟨hT2, by show 3 ≤ sizeLine; decide, [u, u2, u3], .cons ru (.cons ru2 (.cons ru3 .nil)), ⟨_, hT2, rfl, _, rfl⟩⟩
    have I1 := I.turnedNew (t' := tk) (ch := [z, TI, TO, i1, i2, i3]) (fun c o hb q => (sb.2 c (fun q' => hb (by simp [q']))).trans (hk c o (fun q' => hb (by simp [q'])) (fun q' => hb (by simp [q'])) (fun q' => hb (by simp [q'])) (fun q' => hb (by simp [q'])) (fun q' => hb (by simp [q'])) q)) hf (Nat.le_refl _) new
    refine ⟨.ref s.heap.objs.size, _, I1, rfl, ⟨s.heap.objs.size, { cls := .type "tuple", data := .seq #[u, u2, u3] }, rfl, I.hok.fresh (Nat.le_refl _), rfl, fun f n ⟨as, bs, cs, h3, h4, h5, _, ef⟩ => ?_⟩, ⟨z'', ?_, ⟨u, u2, u3, ?_⟩, ?_, ?_, ?_⟩, fun c hcm => ?_⟩
    · have e1 := h3.inj I hqx
      have e2 := h4.inj I hqy
      have e3 := h5.inj I hqu
      subst e1
      subst e2
      subst e3
      subst ef
      unfold at3
      rw [hx, hy, hv]
    · exact (sb.2 _ S.TIz).trans (hk _ _ S.TIz S.TITO S.TIi1 S.TIi2 S.TIi3 hTI)
    · exact (sb.2 _ S.TOz).trans TO'
    · exact st1.1.at fun o q => (sb.2 _ S.zi1.symm).trans q
    · exact st2.1.at fun o q => (sb.2 _ S.zi2.symm).trans q
    · exact st3.1.at fun o q => (sb.2 _ S.zi3.symm).trans q
    · have hlt : c < s.heap.objs.size := by
        have e' : c = z ∨ c = TI ∨ c = TO ∨ c = i1 ∨ c = i2 ∨ c = i3 := by simpa using hcm
        rcases e' with q | q | q | q | q | q
        · rw [q]; exact hzl
        · rw [q]; exact Heap.lt_size hTI
        · rw [q]; exact Heap.lt_size hTO
        · rw [q]; obtain ⟨_, e1, _⟩ := h1.obj; exact Heap.lt_size e1
        · rw [q]; obtain ⟨_, e2, _⟩ := h2.obj; exact Heap.lt_size e2
        · rw [q]; obtain ⟨_, e3, _⟩ := h3.obj; exact Heap.lt_size e3
      rw [upd_ne (Nat.ne_of_lt hlt)]
      exact (hf c hcm).1
  done := by
    intro X hP hw hK hc i pins s σ H E I hf st hg
    subst hP hw hK
    obtain ⟨hz, hTI, ⟨x0, y0, u0, hTO⟩, h1, h2, h3⟩ := st
    obtain ⟨f, xs, ys, us, hqx, hqy, hqu, hn, rfl⟩ := hg
    obtain ⟨its, rv, p, _⟩ := hqx.it I
    obtain ⟨its2, rv2, p2, _⟩ := hqy.it I
    obtain ⟨its3, rv3, p3, _⟩ := hqu.it I
    have D1 := draws_seqK (prog := X.prog) (w := X.w) (A := X.A.in1) (I.ok.hd hc) k1 i1 a ha its.toArray
    have D2 := draws_seqK (prog := X.prog) (w := X.w) (A := X.A.in1) (I.ok.hd hc) k2 i2 b hb its2.toArray
    have D3 := draws_seqK (prog := X.prog) (w := X.w) (A := X.A.in1) (I.ok.hd hc) k3 i3 c hcc its3.toArray
    have l1 : its.toArray.size = xs.length := by rw [List.size_toArray, ← rv.length]
    have l2 : its2.toArray.size = ys.length := by rw [List.size_toArray, ← rv2.length]
    have l3 : its3.toArray.size = us.length := by rw [List.size_toArray, ← rv3.length]
    exact wpAny_pyNext_zipD3_end S D1 D2 D3 hz hTI hTO ⟨h1, p⟩ ⟨h2, p2⟩ ⟨h3, p3⟩ (by omega) (by omega) (by omega) (by omega) fun h' tk hk => ⟨rfl, I.turnedL (t' := tk) (ch := [z, TI, TO, i1, i2, i3]) (fun c o hb q =>
      hk c o (fun q' => hb (by simp [q'])) (fun q' => hb (by simp [q'])) (fun q' => hb (by simp [q'])) (fun q' => hb (by simp [q'])) (fun q' => hb (by simp [q'])) q) hf⟩
  self := fun A i s Q E st h => wpAny_pyIter_zip st.1 h
def iZip3W (K : PySem.W.Frag) (ta : TA) : TI := fun σ H R => ta σ H fun vs H1 => ∃ k1 k2 k3 a b c xs ys us, vs = [.ref a, .ref b, .ref c] ∧ SqK k1 K H1 a xs ∧ SqK k2 K H1 b ys ∧ SqK k3 K H1 c us ∧ R (ItW (CZ3 K k1 k2 k3 a b c)) H1
theorem pi_zip3W {X : Cx} {e e2 e3 : Expr} {ta : TA} {p pos tpos : Pos} {elts : List Expr} {kk : Nat} (hg : Gl X "zip") (hm : X.mg "zip" = none) (ha : PA X [e, e2, e3] ta)
    (hs : starEach [e, e2, e3] X.env = (false, eval e X.env) :: starEach [e2, e3] X.env := by rfl) (hpl : (backTo pos (starEach [e2, e3] X.env)).any (·.1) = false := by rfl) :
    PI X (.Tuple elts kk tpos) (.Call (.Name "zip" p) [e, e2, e3] [] pos) (iZip3W X.K ta) := by
  refine ⟨fun pins s σ H R I h => ?_⟩
  refine Call_ (ld_blt I hg hm PyProof.Rows.boot_zip (PyProof.Rows.callWith_type1 (thn (ha.run pos pins s σ H _ I h) fun us s1 ⟨vs, H1, I1, r1, q1⟩ => ?_) hs hpl))
  obtain ⟨k1, k2, k3, a, b, c, xs, ys, us, ex, hqx, hqy, hqu, q⟩ := q1
  subst ex
  cases r1 with
  | cons r rr =>
    cases rr with
    | cons r' rr =>
      cases rr with
      | cons r'' rr =>
        cases rr
        cases r
        cases r'
        cases r''
        obtain ⟨its, rv, p1, _⟩ := hqx.it I1
        obtain ⟨its2, rv2, p2, _⟩ := hqy.it I1
        obtain ⟨its3, rv3, p3, _⟩ := hqu.it I1
        have la := p1.lt
        have lb := p2.lt
        have lc := p3.lt
        refine zip_begins3 (begins_seqK k1 a its.toArray) (begins_seqK k2 b its2.toArray) (begins_seqK k3 c its3.toArray) p1 p2 p3 fun h' hz hTI hTO h1 h2 h3 hsz hk => wpAny_pyIter_zip hz ?_
        have I2 : Inv X pins σ H1 { s1 with heap := h' } := I1.kept (t' := s1.toks) hk
        refine ⟨s1.heap.objs.size + 5, [s1.heap.objs.size + 5, s1.heap.objs.size + 3, s1.heap.objs.size + 4, s1.heap.objs.size, s1.heap.objs.size + 1, s1.heap.objs.size + 2], _, _, H1, rfl, I2, turn_zip3W (zip_sep3 (fp1 := [a]) (fp2 := [b]) (fp3 := [c]) (fun c hc => by rw [List.mem_singleton.mp hc]; exact la) (fun c hc => by rw [List.mem_singleton.mp hc]; exact lb) (fun c hc => by rw [List.mem_singleton.mp hc]; exact lc)) (Nat.ne_of_lt la) (Nat.ne_of_lt (Nat.lt_succ_of_lt lb)) (Nat.ne_of_lt (Nat.lt_succ_of_lt (Nat.lt_succ_of_lt lc))), ⟨hz, hTI, ⟨_, _, _, hTO⟩, IsIt.mk0 h1, IsIt.mk0 h2, IsIt.mk0 h3⟩, fun c hcm => ?_, q⟩
        have e' : c = s1.heap.objs.size + 5 ∨ c = s1.heap.objs.size + 3 ∨ c = s1.heap.objs.size + 4 ∨ c = s1.heap.objs.size ∨ c = s1.heap.objs.size + 1 ∨ c = s1.heap.objs.size + 2 := by simpa using hcm
        have hle : s1.heap.objs.size ≤ c := by
          rcases e' with z | z | z | z | z | z
          · rw [z]; exact Nat.le_add_right _ _
          · rw [z]; exact Nat.le_add_right _ _
          · rw [z]; exact Nat.le_add_right _ _
          · rw [z]; exact Nat.le_refl _
          · rw [z]; exact Nat.le_add_right _ _
          · rw [z]; exact Nat.le_add_right _ _
        exact I1.fpOk hle (I1.hok.fresh hle)
def zip3 : List D → List D → List D → List D
  | x :: xs, y :: ys, z :: zs => .tup [x, y, z] :: zip3 xs ys zs
  | _, _, _ => []
theorem zip3_len : ∀ (xs ys zs : List D), (zip3 xs ys zs).length = min (min xs.length ys.length) zs.length
  | [], _, _ => by unfold zip3; simp
  | _ :: _, [], _ => by unfold zip3; simp
  | _ :: _, _ :: _, [] => by unfold zip3; simp
  | x :: xs, y :: ys, z :: zs => by unfold zip3; rw [List.length_cons, zip3_len xs ys zs, List.length_cons, List.length_cons, List.length_cons]; omega
theorem zip3_at : ∀ (xs ys zs : List D) (i : Nat) (x y z : D), xs[i]? = some x → ys[i]? = some y → zs[i]? = some z → (zip3 xs ys zs)[i]? = some (.tup [x, y, z])
  | [], _, _, i, _, _, _, h, _, _ => by simp at h
  | _ :: _, [], _, i, _, _, _, _, h, _ => by simp at h
  | _ :: _, _ :: _, [], i, _, _, _, _, _, h => by simp at h
  | x :: xs, y :: ys, z :: zs, 0, a, b, c, h1, h2, h3 => by
    have h1 := Option.some.inj h1
    have h2 := Option.some.inj h2
    have h3 := Option.some.inj h3
    subst h1
    subst h2
    subst h3
    rfl
  | x :: xs, y :: ys, z :: zs, i + 1, a, b, c, h1, h2, h3 => by
    unfold zip3
    exact zip3_at xs ys zs i a b c h1 h2 h3
def zg3 : List D → Rs (List D)
  | [a, b, c] => match itemsD a, itemsD b, itemsD c with
    | some xs, some ys, some zs => .ok (zip3 xs ys zs)
    | _, _, _ => .bad
  | _ => .bad
theorem zg3_src {K : PySem.W.Frag} {mg : Str → Option Value} {F : Hp} {vs : List V} {ds rs : List D} (h : Dvs K mg F vs ds) (e : zg3 ds = .ok rs) : ∃ k1 k2 k3 a b c ws us ts, vs = [.ref a, .ref b, .ref c] ∧ SqK k1 K F a ws ∧ SqK k2 K F b us ∧ SqK k3 K F c ts ∧ min (min ws.length us.length) ts.length = rs.length ∧ ∀ i, i < min (min ws.length us.length) ts.length → ∃ ys, rs[i]? = some (.tup ys) ∧ Dvs K mg F (at3 ws us ts i) ys := by
  unfold zg3 at e
  split at e
  · rename_i d d2 d3
    cases h with
    | cons h r =>
      cases r with
      | cons h2 r =>
        cases r with
        | cons h3 r =>
          cases r
          split at e
          · rename_i xs ys zs hx hy hz
            injection e with e
            subst e
            obtain ⟨k1, a, ws, rfl, hq, hs⟩ := h.sq hx
            obtain ⟨k2, b, us, rfl, hq2, hs2⟩ := h2.sq hy
            obtain ⟨k3, c, ts, rfl, hq3, hs3⟩ := h3.sq hz
            refine ⟨k1, k2, k3, a, b, c, ws, us, ts, rfl, hq, hq2, hq3, by rw [zip3_len, hs.len, hs2.len, hs3.len], fun i hi => ?_⟩
            have hi1 : i < ws.length := by omega
            have hi2 : i < us.length := by omega
            have hi3 : i < ts.length := by omega
            obtain ⟨x, hx, hv⟩ := hs.getV (List.getElem?_eq_getElem hi1)
            obtain ⟨y, hy, hv2⟩ := hs2.getV (List.getElem?_eq_getElem hi2)
            obtain ⟨z, hz, hv3⟩ := hs3.getV (List.getElem?_eq_getElem hi3)
            refine ⟨[x, y, z], zip3_at _ _ _ _ _ _ _ hx hy hz, ?_⟩
            unfold at3
            rw [List.getElem?_eq_getElem hi1, List.getElem?_eq_getElem hi2, List.getElem?_eq_getElem hi3]
            exact .cons hv (.cons hv2 (.cons hv3 .nil))
          · cases e
  · cases e
section
variable {X : Cx} {W : L2.WX} {nw : Bool} {g : En → Rs Fl} {fs : En → Rs (List D)} {tt : En → Rs Bool} {fe : En → Rs D} {pos : Pos}
theorem prs_forZ3 {t : Tg} {a b c : Expr} {body : List Stmt} {p pos2 tpos : Pos} {elts : List Expr} {kk : Nat} (hp : PassesOwn (model X.prog X.w) X.A X.env X.xe) (hc : X.calm = true) (gl : Gl X "zip") (hm : X.mg "zip" = none) (ha : PRA X W [a, b, c] fs) (hg : PRG X (.Tuple elts kk tpos) t) (hb : PRB X W nw body g)
    (hs1 : starEach [a, b, c] X.env = (false, eval a X.env) :: starEach [b, c] X.env := by rfl) (hpl : (backTo pos2 (starEach [b, c] X.env)).any (·.1) = false := by rfl)
    (hs : ∀ x, foldedSetIterable (.Call (.Name "zip" p) [a, b, c] [] pos2) X.env x = pure x := by intro _; rfl) : PRS X W nw (.For (.Tuple elts kk tpos) (.Call (.Name "zip" p) [a, b, c] [] pos2) body [] pos) (forR zg3 t g fs) :=
  ps_imp (ps_for (pos := pos) hp hc (pi_zip3W (p := p) (pos := pos2) gl hm ha hs1 hpl) hg hb hs) fun Dd σ H ⟨R0, R, H0, env, sb, S, q⟩ => by
  refine rdA_with sb S q fun vs ds H1 e1 S1 r1 q1 => ?_
  split at q1
  · rename_i xs hxs
    obtain ⟨k1, k2, k3, a, b, c, ws, us, ts, rfl, hq, hq2, hq3, hn, hf⟩ := zg3_src r1 hxs
    exact ⟨k1, k2, k3, a, b, c, ws, us, ts, rfl, hq.same hid_le, hq2.same hid_le, hq3.same hid_le, loop_W (C := CZ3 X.K k1 k2 k3 a b c) (f := at3 ws us ts) (n := min (min ws.length us.length) ts.length) (Fs := fz R σ env H1) (fun H e => ⟨ws, us, ts, hq.same e, hq2.same e, hq3.same e, rfl, rfl⟩) hn hf ⟨R, env, sb, S1, Same.refl _, q1⟩⟩
  · exact q1.elim
theorem comp_rdZ3 {σ : L2.St} {H : Hp} {t : Tg} {vs : List Nat} (hj : ∀ j, j ∈ t.slots → j ∈ vs) {Q : VK} (h : rdP X.K X.mg W .new (compR zg3 t vs tt fe fs) σ H Q) :
    tLc (iZip3W X.K (rdA X.K X.mg W fs)) (rdG X.K X.mg t.slots t.put) (rdT X.K X.mg W0 tt) (rdP X.K X.mg W0 .fz fe) vs σ H Q := by
  obtain ⟨R, H0, env, S, q⟩ := h
  unfold compR at q
  refine rdA_post S q fun ws0 ds H1 e1 S1 r1 q1 => ?_
  split at q1
  · rename_i xs hxs
    obtain ⟨k1, k2, k3, a, b, c, ws, us, ts, rfl, hq, hq2, hq3, hn, hf⟩ := zg3_src r1 hxs
    obtain ⟨hnl, hl, ys, hc, q2⟩ := compB_ok q1
    exact ⟨k1, k2, k3, a, b, c, ws, us, ts, rfl, hq.same hid_le, hq2.same hid_le, hq3.same hid_le, fun D hD => comp_W (C := CZ3 X.K k1 k2 k3 a b c) (f := at3 ws us ts) (n := min (min ws.length us.length) ts.length) hj S1 (fun H e => ⟨ws, us, ts, hq.same e, hq2.same e, hq3.same e, rfl, rfl⟩) hn hf hnl hl hc hD q2⟩
  · exact q1.elim
theorem pr_compZ3 {elt a b c : Expr} {ifs : List Expr} {scope : Scope} {own : List (Str × Nat)} {t : Tg} {p pos2 tpos : Pos} {elts : List Expr} {kk : Nat} (hc : X.calm = true) (hN : X.N.Nodup) (gl : Gl X "zip") (hm : X.mg "zip" = none) (ha : PRA X W [a, b, c] fs) (ok : BlkOk X.N X.env.scope scope own) (hg : PRGc X scope (.Tuple elts kk tpos) t) (ht : PRTc X scope ifs tt) (he : PRc X scope elt fe)
    (hj : ∀ j, j ∈ t.slots → j ∈ own.map (·.2) := by decide) (hs1 : starEach [a, b, c] X.env = (false, eval a X.env) :: starEach [b, c] X.env := by rfl) (hpl : (backTo pos2 (starEach [b, c] X.env)).any (·.1) = false := by rfl) (hs : ∀ x, foldedSetIterable (.Call (.Name "zip" p) [a, b, c] [] pos2) X.env x = pure x := by intro _; rfl) :
    PR X W .new (.ListComp elt [⟨.Tuple elts kk tpos, .Call (.Name "zip" p) [a, b, c] [] pos2, ifs, 0⟩] scope pos) (compR zg3 t (own.map (·.2)) tt fe fs) := pe_imp (pe_lc hc hN (pi_zip3W gl hm ha hs1 hpl) ok hg ht he hs) fun σ H Q h => comp_rdZ3 hj h
end
end Orn

set_option linter.all false
set_option maxRecDepth 100000
set_option maxHeartbeats 4000000
namespace Orn
open L2 PySem PySem.Spec PyProof.Rows
/-! ### constants of a module -/
structure GlD (K : PySem.W.Frag) (mg : Str → Option Value) (x : Str) (d : D) : Prop where
  ex : ∃ (u : Value) (v : V), mg x = some u ∧ RelV v u ∧ ∀ F, Dv K mg F v d
theorem gld_int {K : PySem.W.Frag} {mg : Str → Option Value} {x : Str} {i : Int} {t : Tok} (h : mg x = some (.int i t)) : GlD K mg x (.int i) := ⟨⟨_, .int i, h, ⟨t, rfl⟩, fun F => .int i⟩⟩
theorem gld_str {K : PySem.W.Frag} {mg : Str → Option Value} {x : Str} {z : Str} {t : Tok} (h : mg x = some (.str z t)) : GlD K mg x (.str z) := ⟨⟨_, .str z, h, ⟨t, rfl⟩, fun F => .str z⟩⟩
theorem dvs_strs {K : PySem.W.Frag} {mg : Str → Option Value} {F : Hp} : ∀ (ss : List Str), Dvs K mg F (ss.map V.str) (ss.map D.str)
  | [] => .nil
  | s :: ss => .cons (.str s) (dvs_strs ss)
theorem gld_strs {K : PySem.W.Frag} {mg : Str → Option Value} {x : Str} {a : Addr} {o : Obj} {ss : List Str} {its : Array Value} {n : Nat} (h : mg x = some (.ref a)) (l : K.lookup a = some o) (hc : o.cls = .type "tuple") (hd : o.dict = none) (hs : o.data = .seq its n) (hv : Vals (ss.map V.str) its.toList) (hz : its.size ≤ sizeLine) : GlD K mg x (.tup (ss.map D.str)) :=
  ⟨⟨_, .ref a, h, rfl, fun F => .tup (.inr ⟨o, its, n, l, hc, hd, hs, hz, hv⟩) (dvs_strs ss)⟩⟩
section
variable {X : Cx} {W : L2.WX} {nw : Bool} {fa : En → Rs D} {pos : Pos} {s : Stmt}
theorem pr_globD {x : Str} {d : D} (gl : Gl X x) (h : GlD X.K X.mg x d) (hd : (x == ("__debug__" : Str)) = false := by decide) : PR X W .fz (.Name x pos) (cF d) := by
  obtain ⟨u, v, h1, h2, h3⟩ := h.ex
  exact pe_imp (pe_glob gl h1 h2 hd) fun σ H Q ⟨R, H0, env, S, q⟩ => q v H (Same.refl H) (h3 _)
/-! ### x.extend(a new list) -/
def extF (i : Nat) (fa : En → Rs D) : En → Rs Fl := withL i fun xs => withE fa fun d env => match d with
  | .lst ys => if xs.length + ys.length ≤ SL then .ok (.next (env.set i (some (.l (xs ++ ys))))) else .bad
  | _ => .bad
theorem prs_ext {i : Nat} (h : PS X s (tDrop (tBM X.K "list" rExtend (tVar i) (tCons (rdP X.K X.mg W .new fa) tNil)))) : PRS X W nw s (extF i fa) := ps_imp h fun Dd σ H ⟨R0, R, H0, env, sb, S, q⟩ => by
  unfold extF withL at q
  split at q
  · rename_i xs hi
    obtain ⟨p, vs, hv, hp, hs⟩ := S.lst hi
    refine ⟨.ref p, hv, .inl ⟨rfl, vs, .inl (.inl hp)⟩, ?_⟩
    refine rd_with (ma := .new) sb S (Same.refl _) q fun v d H1 e1 S1 r1 q1 => ?_
    obtain ⟨p2, vs2, ys, rfl, rfl, hn, hp2, hF, hs2⟩ := Nw.old r1
    dsimp only at q1
    split at q1
    · rename_i hl
      obtain ⟨p', vs', hv', hp', hs'⟩ := S1.lst hi
      rw [hv] at hv'
      have z := Option.some.inj (Option.some.inj hv')
      injection z with z
      subst z
      obtain ⟨S2, sub⟩ := S1.putL hi hv (hs'.app hs2)
      exact ⟨p, p2, vs', vs2, rfl, rfl, hp', hp2, by rw [hs'.len, hs2.len, sizeLine_eq]; exact hl, q1 _ _ _ sb S2 sub⟩
    · exact q1.elim
  · exact q.elim
end
/-! ### a list of one's own, lent for the time of an expression -/
/-- no list within -/
inductive NoL : D → Prop
  | non : NoL .non
  | bl (b : Bool) : NoL (.bl b)
  | int (i : Int) : NoL (.int i)
  | str (x : Str) : NoL (.str x)
  | tup {xs : List D} : (∀ x ∈ xs, NoL x) → NoL (.tup xs)
  | obj {c : Str} {fs : List (Str × D)} : (∀ x ∈ fs, NoL x.2) → NoL (.obj c fs)
section
variable {K : PySem.W.Frag} {mg : Str → Option Value} {F F' : Hp}
mutual
theorem Dv.noL (e : ∀ a o, F a = some o → (∀ vs, o ≠ .lst vs) → F' a = some o) : ∀ {v : V} {x : D}, NoL x → Dv K mg F v x → Dv K mg F' v x
  | _, _, _, .non => .non
  | _, _, _, .bl b => .bl b
  | _, _, _, .int i => .int i
  | _, _, _, .str s => .str s
  | _, _, n, .lst h r => by cases n
  | _, _, n, .rol h r => by cases n
  | _, _, n, .tup h r => .tup (h.imp (fun ⟨o, h, d⟩ => ⟨o, e _ _ h (fun vs z => by cases z), d⟩) id) (Dvs.noL e (by cases n; assumption) r)
  | _, _, n, .obj h c r => .obj (e _ _ h (fun vs z => by cases z)) c (Dfs.noL e (by cases n; assumption) r)
theorem Dvs.noL (e : ∀ a o, F a = some o → (∀ vs, o ≠ .lst vs) → F' a = some o) : ∀ {vs : List V} {xs : List D}, (∀ x ∈ xs, NoL x) → Dvs K mg F vs xs → Dvs K mg F' vs xs
  | _, _, _, .nil => .nil
  | _, _, n, .cons h r => .cons (Dv.noL e (n _ (List.mem_cons_self ..)) h) (Dvs.noL e (fun x q => n x (List.mem_cons_of_mem _ q)) r)
theorem Dfs.noL (e : ∀ a o, F a = some o → (∀ vs, o ≠ .lst vs) → F' a = some o) : ∀ {vs : List (Str × V)} {xs : List (Str × D)}, (∀ x ∈ xs, NoL x.2) → Dfs K mg F vs xs → Dfs K mg F' vs xs
  | _, _, _, .nil => .nil
  | _, _, n, .cons h r => .cons (Dv.noL e (n (_, _) (List.mem_cons_self ..)) h) (Dfs.noL e (fun x q => n x (List.mem_cons_of_mem _ q)) r)
end
end
section
variable {X : Cx} {W : L2.WX} {nw : Bool} {fa : En → Rs D} {s : Stmt}
open Classical in
/-- y = fa, the list of one's own in slot i lent to fa -/
noncomputable def asgT (i j : Nat) (fa : En → Rs D) : En → Rs Fl := withL i fun xs env => match fa (env.set i (some (.d (.lst xs)))) with
  | .ok d => if NoL d then .ok (.next (env.set j (some (.d d)))) else .bad
  | .exc e => if e.fs = [] then .ok (.raise e env) else .bad
  | .bad => .bad
theorem prs_asgT {i j : Nat} (h : PS X s (tAsg (rdP X.K X.mg W .fz fa) (gName j))) : PRS X W nw s (asgT i j fa) := ps_imp h fun Dd σ H ⟨R0, R, H0, env, sb, S, q⟩ => by
  unfold asgT withL at q
  split at q
  · rename_i xs hi
    obtain ⟨S2, sub⟩ := S.freeze hi
    refine ⟨R, H0, _, S2, ?_⟩
    dsimp only at q
    cases ea : fa (env.set i (some (.d (.lst xs)))) with
    | exc x =>
      rw [ea] at q
      dsimp only at q
      split at q
      · rename_i hx
        refine fun cls dd H' e xw => q cls dd R σ H' sb (S.up e) (fz_same e) ⟨xw.1, xw.2.imp id fun ⟨a, fs, h0, _⟩ => absurd hx h0⟩
      · exact q.elim
    | bad => rw [ea] at q; exact q.elim
    | ok d =>
      rw [ea] at q
      dsimp only at q
      split at q
      · rename_i hn
        intro v H1 e1 r1
        have S1 := S.up e1
        have r2 : Dv X.K X.mg (fz R σ env H1) v d := Dv.noL (fun a o h hl => by
          have na : ¬ (R a ∨ own σ (env.set i (some (.d (.lst xs)))) a) := fun z => by
            rw [show fz R σ (env.set i (some (.d (.lst xs)))) H1 a = none from hid_yes z] at h
            cases h
          rw [show fz R σ (env.set i (some (.d (.lst xs)))) H1 a = H1 a from hid_no na] at h
          have nb : ¬ (R a ∨ own σ env a) := fun z => by
            rcases z with z | ⟨k, zs, h1, h2⟩
            · exact na (.inl z)
            · obtain ⟨w, hw, p, vs, rfl, hp, _⟩ := S1.slot k _ h1
              rw [hw] at h2
              have e := Option.some.inj (Option.some.inj h2)
              injection e with e
              subst e
              rw [hp] at h
              injection h with h
              exact hl vs h.symm
          show hid _ _ a = some o
          rw [hid_no nb]
          exact h) hn r1
        exact q R _ H1 sb (S1.setD r2) ((fz_same e1).trans fz_setD)
      · exact q.elim
  · exact q.elim
end
end Orn

set_option linter.all false
set_option maxRecDepth 100000
set_option maxHeartbeats 4000000
namespace Orn
open L2 PySem PySem.Spec PyProof.Rows
/-! ### the suite of an except: what asks the exception -/
abbrev PRf (X : Cx) (Φ : L2.St → Prop) (W : L2.WX) (m : Md) (e : Expr) (f : En → Rs D) : Prop := PE X e (fun σ H Q => Φ σ ∧ rdP X.K X.mg W m f σ H Q)
/-- isinstance(e, c) is b for every exception e of the class cls -/
structure ExI (K : PySem.W.Frag) (mg : Str → Option Value) (cls c : Str) (b : Bool) : Prop where
  ex : ∃ D C : Addr, mg cls = some (.ref D) ∧ mg c = some (.ref C) ∧ ExcC K D ∧ PySem.W.kitOne K (.ref D) (.ref C) = some b
section
variable {X : Cx} {Φ : L2.St → Prop} {W : L2.WX} {m ma : Md} {a b e : Expr} {fa fb f : En → Rs D} {pos : Pos} {nw : Bool}
theorem prf_of (h : PR X W m e f) : PRf X Φ W m e f := pe_imp h fun σ H Q q => q.2
theorem prf_one {op} (h : PRf X Φ W m a f) : PRf X Φ W m (.BoolOp op [a] pos) f := pe_one h
theorem prf_not (ha : PRf X Φ W ma a fa) : PRf X Φ W .fz (.UnaryOp .Not a pos) (op1 notD fa) := pe_imp (pe_not (pos := pos) ha) fun σ H Q ⟨hΦ, R, H0, env, S, q⟩ => ⟨hΦ, rd_seq1 S q fun x da H2 e2 S2 ra q2 => by
  cases da <;> try exact q2.elim
  exact ⟨_, ra.bl, q2.flat S2 rfl⟩⟩
theorem prf_and {rest : List Expr} (ha : PRf X Φ W ma a fa) (hb : PRf X Φ W .fz (.BoolOp .And (b :: rest) pos) fb) : PRf X Φ W .fz (.BoolOp .And (a :: b :: rest) pos) (andF fa fb) := pe_imp (pe_and (pos := pos) ha hb) fun σ H Q ⟨hΦ, R, H0, env, S, q⟩ => by
  refine ⟨hΦ, R, H0, env, S, ?_⟩
  unfold andF at q
  cases ea : fa env with
  | exc x => rw [ea] at q; exact q
  | bad => rw [ea] at q; exact q
  | ok da =>
    rw [ea, Rs.bind_ok] at q
    intro x H1 e1 r1
    cases da <;> try exact q.elim
    rename_i k
    refine ⟨k, r1.bl, ?_⟩
    cases k with
    | true => exact ⟨hΦ, R, H0, env, S.up e1, Post.up e1 q⟩
    | false => exact (Post.up e1 q).flat (S.up e1) rfl
theorem prf_or {rest : List Expr} (ha : PRf X Φ W ma a fa) (hb : PRf X Φ W .fz (.BoolOp .Or (b :: rest) pos) fb) : PRf X Φ W .fz (.BoolOp .Or (a :: b :: rest) pos) (orF fa fb) := pe_imp (pe_or (pos := pos) ha hb) fun σ H Q ⟨hΦ, R, H0, env, S, q⟩ => by
  refine ⟨hΦ, R, H0, env, S, ?_⟩
  unfold orF at q
  cases ea : fa env with
  | exc x => rw [ea] at q; exact q
  | bad => rw [ea] at q; exact q
  | ok da =>
    rw [ea, Rs.bind_ok] at q
    intro x H1 e1 r1
    cases da <;> try exact q.elim
    rename_i k
    refine ⟨k, r1.bl, ?_⟩
    cases k with
    | true => exact (Post.up e1 q).flat (S.up e1) rfl
    | false => exact ⟨hΦ, R, H0, env, S.up e1, Post.up e1 q⟩
theorem prf_ret (ha : PRf X Φ W .fz a fa) : PS X (.Return (some a) pos) (fun Dd σ H => Φ σ ∧ rdS X.K X.mg W false (retF fa) Dd σ H) := ps_imp (ps_ret (pos := pos) ha) fun Dd σ H ⟨hΦ, R0, R, H0, env, sb, S, q⟩ => ⟨hΦ, rd_with (ma := .fz) sb S (Same.refl _) q fun v d H1 e1 S1 r1 q1 =>
  q1 v H1 S1.ex (Dv.mono (hid_sub fun a h => .inl (sb a h).1) r1) (fun z => by cases z)⟩
/-- isinstance(e, C), e the exception that the suite holds, its class known -/
theorem prf_isE {i : Nat} {n c : Str} {np cp p : Pos} {ea : Addr} {oe : Obj} {pn : List (Addr × Obj)} {ex : Exn} {cls : Value} {d : Option Addr} {bb : Bool} (cau : Cau X ex ea oe cls d) (hI : ExI X.K X.mg ex.cls c bb)
    (hn : PE (X.suite ea ((ea, oe) :: pn)) (.Name n np) (tVar i)) (gc : Gl (X.suite ea ((ea, oe) :: pn)) c) (gi : Gl (X.suite ea ((ea, oe) :: pn)) "isinstance") (hm : X.mg "isinstance" = none)
    (hdc : (c == ("__debug__" : Str)) = false := by decide)
    (he : starEach (.Name n np :: [.Name c cp]) X.env = (false, eval (.Name n np) X.env) :: starEach [.Name c cp] X.env := by rfl) (he2 : starEach (.Name c cp :: []) X.env = (false, eval (.Name c cp) X.env) :: starEach [] X.env := by rfl) (hpl : (backTo pos (starEach [.Name c cp] X.env)).any (·.1) = false := by rfl) :
    PRf (X.suite ea ((ea, oe) :: pn)) (fun σ => σ[i]? = some (some (.ref ea))) W .fz (.Call (.Name "isinstance" p) [.Name n np, .Name c cp] [] pos) (cF (.bl bb)) := by
  obtain ⟨DD, C, h1, h2, h3, h4⟩ := hI.ex
  have ec : cls = .ref DD := Option.some.inj (cau.c.symm.trans h1)
  have ed := cau.d
  subst ec
  subst ed
  refine pe_imp (pe_callB (p := p) (pos := pos) (call_isE (X := X) (pn := pn) h3 cau.z cau.f) gi hm boot_isinstance (pa_cons hn (pa_cons (pe_glob (X := X.suite ea ((ea, oe) :: pn)) (v := .ref C) gc h2 rfl hdc) pa_nil he2) he) (by decide) (by decide) he hpl) fun σ H Q ⟨hΦ, R, H0, env, S, q⟩ => ?_
  refine ⟨.ref ea, hΦ, .ref C, .ref C, bb, rfl, fun u r => r, h4, ?_⟩
  exact q (.bl bb) H (Same.refl H) (Dv.bl bb)
end
end Orn

set_option linter.all false
set_option maxRecDepth 100000
set_option maxHeartbeats 4000000
namespace Orn
open L2 PySem PySem.Spec PyProof.Rows
section
variable {X : Cx} {W : L2.WX} {nw : Bool} {fa fe : En → Rs D} {tt : En → Rs Bool} {pos : Pos}
/-! ### a comprehension over a list of one's own -/
theorem comp_rdS {σ : L2.St} {H : Hp} {t : Tg} {vs : List Nat} (hj : ∀ j, j ∈ t.slots → j ∈ vs) {Q : VK} (h : rdP X.K X.mg W .new (compF t vs tt fe fa) σ H Q) :
    tLc (iSeq X.K (rdP X.K X.mg W .sh fa)) (rdG X.K X.mg t.slots t.put) (rdT X.K X.mg W0 tt) (rdP X.K X.mg W0 .fz fe) vs σ H Q := by
  obtain ⟨R, H0, env, S, q⟩ := h
  unfold compF at q
  left
  refine ⟨R, H0, env, S, ?_⟩
  cases ea : fa env with
  | exc x =>
    rw [ea] at q
    exact q
  | bad => rw [ea] at q; exact q.elim
  | ok d =>
    rw [ea, Rs.bind_ok] at q
    cases ei : itemsD d with
    | none => rw [ei] at q; exact q.elim
    | some xs =>
      rw [ei] at q
      dsimp only at q
      obtain ⟨hn, hl, ys, hc, q2⟩ := compB_ok q
      intro v H1 e1 r1
      obtain ⟨p, ws, zs, rfl, rfl, hp, hs⟩ := r1
      simp only [itemsD, Option.some.injEq] at ei
      subst ei
      refine ⟨p, rfl, ⟨ws, .inl (.inl hp)⟩, fun D hD => ?_⟩
      refine lc_list (K := X.K) (a := p) (xs := ws) (Qd := fun H => Q (.ref D) H) (CompAt X.K X.mg R σ env H1 D t vs tt fe _ ys) (comp_start hc hD) (fun i H' _ C => ?_) (fun i x H' hx C => ?_) (fun H' C => ?_)
      · exact .inl (.inl (C.1 _ _ hp))
      · obtain ⟨d, hd, hv⟩ := hs.getV hx
        exact comp_turn (S.up e1) hn hl hD hj hd hv C
      · rw [hs.len] at C
        exact comp_end hD (Post.up e1 q2) C (S.up e1)
theorem pr_compS {elt tg iter : Expr} {ifs : List Expr} {scope : Scope} {own : List (Str × Nat)} {t : Tg} (hc : X.calm = true) (hN : X.N.Nodup) (ha : PR X W .sh iter fa) (ok : BlkOk X.N X.env.scope scope own) (hg : PRGc X scope tg t) (ht : PRTc X scope ifs tt) (he : PRc X scope elt fe)
    (hj : ∀ j, j ∈ t.slots → j ∈ own.map (·.2) := by decide) (hs : ∀ x, foldedSetIterable iter X.env x = pure x := by intro _; rfl) :
    PR X W .new (.ListComp elt [⟨tg, iter, ifs, 0⟩] scope pos) (compF t (own.map (·.2)) tt fe fa) := pe_imp (pe_lc hc hN (pi_seq ha) ok hg ht he hs) fun σ H Q h => comp_rdS hj h
theorem prs_setCompS {i : Nat} {y : Str} {py spos : Pos} {elt tg iter : Expr} {ifs : List Expr} {scope : Scope} {own : List (Str × Nat)} {t : Tg} (hc : X.calm = true) (hN : X.N.Nodup) (hy : X.N[i]? = some y) (hyl : X.env.scope.names.lookup y = some .local)
    (hsw : swapsWith (.ListComp elt [⟨tg, iter, ifs, 0⟩] scope pos) (some (.Name y py)) spos.line X.env = pure true) (ha : PR X W .sh iter fa) (ok : BlkOk X.N X.env.scope scope own) (hg : PRGc X scope tg t) (ht : PRTc X scope ifs tt) (he : PRc X scope elt fe)
    (hj : ∀ j, j ∈ t.slots → j ∈ own.map (·.2) := by decide) (hs : ∀ x, foldedSetIterable iter X.env x = pure x := by intro _; rfl) :
    PRS X W nw (.Assign [.Name y py] (.ListComp elt [⟨tg, iter, ifs, 0⟩] scope pos) spos) (asgF i (compF t (own.map (·.2)) tt fe fa)) := ps_imp (ps_setLc hc hN hy hyl hsw (pi_seq ha) ok hg ht he hs) fun Dd σ H ⟨R0, R, H0, env, sb, S, q⟩ => by
  refine comp_rdS (fe := fe) (tt := tt) hj ⟨R, H0, env, S, ?_⟩
  unfold asgF withE at q
  cases ea : compF t (own.map (·.2)) tt fe fa env with
  | exc x =>
    rw [ea] at q
    exact fun cls dd H' e xw => q cls dd R σ H' sb (S.up e) (fz_same e) xw
  | bad => rw [ea] at q; exact q
  | ok d =>
    rw [ea] at q
    intro v H1 e1 r1
    obtain ⟨p, vs, xs, rfl, rfl, hn, hp, hF, hs⟩ := Nw.old r1
    exact q _ _ _ sb ((S.up e1).setD (Dv.lst hF hs)) ((fz_same e1).trans fz_setD)
/-! ### try: .. except x as n, where one class comes through -/
def suE (c : Str) (g : En → Rs Fl) : Exn → En → Rs Fl := fun e env => if e.cls = c then g env else .bad
theorem prs_try1 {gb g : En → Rs Fl} {i : Nat} {n x c : Str} {np : Pos} {pos' : Pos} {body suite : List Stmt} {b₀ : Stmt} {dom : List Str} {sub : Str → Bool} (hs : X.stack = X.env :: X.outer) (hf : X.env.frame = some X.env.locals) (hN : X.N.Nodup) (hi : X.N[i]? = some n) (hln : X.env.kindOf n = some .local) (hd : Hnd X.K X.mg x dom sub) (gx : Gl X x)
    (tk : Takes X W)
    (hb : ∀ (W' : L2.WX) (pn : List (Addr × Obj)) (xe : Value → Shared → Prop), Takes (X.tr pn xe) W' → PassesOwn (model X.prog X.w) X.A X.env xe → PRB (X.tr pn xe) W' nw body gb)
    (hsu : ∀ (e : Exn) (a : Addr) (oe : Obj) (cls : Value) (d : Option Addr) (pn : List (Addr × Obj)), Cau X e a oe cls d → e.cls = c → PSs (X.suite a ((a, oe) :: pn)) (b₀ :: suite) (fun Dd σ H => σ[i]? = some (some (.ref a)) ∧ rdS X.K X.mg W nw g Dd σ H))
    (hdb : (x == ("__debug__" : Str)) = false := by decide) :
    PRS X W nw (.Try body [.ExceptHandler (some (.Name x np)) (some n) (b₀ :: suite) pos'] [] [] pos) (tryF i dom sub gb (suE c g)) :=
  prs_try hs hf hN hi hln hd gx tk hb (fun e a oe cls d pn cau => by
    by_cases h : e.cls = c
    · have e1 : suE c g e = g := by
        funext env
        unfold suE
        rw [if_pos h]
      rw [e1]
      exact hsu e a oe cls d pn cau h
    · have e1 : suE c g e = fun _ => .bad := by
        funext env
        unfold suE
        rw [if_neg h]
      rw [e1]
      exact ⟨fun pins s σ H Dd I q => by
        obtain ⟨_, R0, R, H0, env, sb, S, q⟩ := q
        exact q.elim⟩) hdb
/-! ### what the handlers and isinstance ask of the classes -/
theorem hnd_mk {K : PySem.W.Frag} {mg : Str → Option Value} {x : Str} {C : Addr} {dom : List Str} {sub : Str → Bool} (h : mg x = some (.ref C)) (h1 : PySem.W.subIn K (.ref C) (.type "BaseException") = some true) (h2 : PySem.W.hasDictIn K C = true) (h3 : PySem.W.typeIn K (.ref C) = some (.type "type"))
    (h4 : ∀ c ∈ dom, ∃ D : Addr, mg c = some (.ref D) ∧ PySem.W.subIn K (.ref D) (.ref C) = some (sub c)) : Hnd K mg x dom sub :=
  ⟨C, h, fun c hc v hv => by
    obtain ⟨D, hD, hs⟩ := h4 c hc
    rw [hD] at hv
    injection hv with hv
    subst hv
    exact PySem.W.exm_ref h1 h2 h3 hs⟩
end
end Orn

set_option linter.all false
set_option maxRecDepth 100000
set_option maxHeartbeats 4000000
namespace Orn
open L2 PySem PySem.Spec PyProof.Rows
/-! ### in a list, the items compared as data -/
def inE : D → D → Rs D := fun x y => match toPy x, toPy y with
  | some d, some (.list ds) => if SeqAt.shaped d = true ∧ SeqAt.shaped (.list ds) = true then .ok (.bl (ds.any fun z => PyData.eqv z d)) else .bad
  | _, _ => .bad
def notInE : D → D → Rs D := fun x y => notR (inE x y)
section
variable {X : Cx} {W : L2.WX} {m ma mb : Md} {fa fb : En → Rs D} {a b : Expr} {pos : Pos} {K : PySem.W.Frag} {mg : Str → Option Value}
theorem op_inED : Op2 K mg W ma mb .fz inE (rInD K) := by
  intro R H0 σ env H Hs x y da db Q S ra rb q
  unfold inE at q
  split at q
  · rename_i d ds hd hd'
    split at q
    · rename_i hs
      exact ⟨d, ds, Dv.dp _ (ra.pk hid_le) hd, Dv.dp _ (rb.pk hid_le) hd', hs.1, hs.2, q.flat S rfl⟩
    · exact q.elim
  · exact q.elim
theorem op_notInED : Op2 K mg W ma mb .fz notInE (rNotInD K) := by
  intro R H0 σ env H Hs x y da db Q S ra rb q
  unfold notInE inE at q
  split at q
  · rename_i d ds hd hd'
    split at q
    · rename_i hs
      exact ⟨d, ds, Dv.dp _ (ra.pk hid_le) hd, Dv.dp _ (rb.pk hid_le) hd', hs.1, hs.2, q.flat S rfl⟩
    · exact q.elim
  · exact q.elim
theorem pr_inE {k : Nat} (hr : Rm k X.A) (ha : PR X W ma a fa) (hb : PR X W mb b fb) (hm : behindInMarks .In b = false := by rfl) : PR X W .fz (.Compare a [.In] [b] pos) (op2 inE fa fb) := pr_cmp (op_inD (by have := hr.r.un; omega)) op_inED ha hb hm
theorem pr_notInE {k : Nat} (hr : Rm k X.A) (ha : PR X W ma a fa) (hb : PR X W mb b fb) (hm : behindInMarks .NotIn b = false := by rfl) : PR X W .fz (.Compare a [.NotIn] [b] pos) (op2 notInE fa fb) := pr_cmp (op_notInD (by have := hr.r.un; omega)) op_notInED ha hb hm
theorem ptc_inE {k : Nat} (hr : Rm k X.A) (ha : PR X W ma a fa) (hb : PR X W mb b fb) (hm : behindInMarks .In b = false := by rfl) : PRT X W (.Compare a [.In] [b] pos) (tcmp inE fa fb) := pt_cmp (op_inD (by have := hr.r.un; omega)) op_inED ha hb hm
theorem ptc_notInE {k : Nat} (hr : Rm k X.A) (ha : PR X W ma a fa) (hb : PR X W mb b fb) (hm : behindInMarks .NotIn b = false := by rfl) : PRT X W (.Compare a [.NotIn] [b] pos) (tcmp notInE fa fb) := pt_cmp (op_notInD (by have := hr.r.un; omega)) op_notInED ha hb hm
end
end Orn

set_option linter.all false
set_option maxRecDepth 100000
set_option maxHeartbeats 4000000
namespace Orn
open L2 PySem PySem.Spec PyProof.Rows
/-! ### cells: what may change and be shared -/
/-- a value, perhaps with pointers to cells -/
inductive U where
  | d (x : D) | p (n : Nat) | tup (us : List U)
inductive Cell where
  | lst (us : List U) | ins (c : Str) (fs : List (Str × U)) | dct (kvs : List (L2.Key × U))
abbrev Cs := List Cell
mutual
inductive Uv (K : PySem.W.Frag) (mg : Str → Option Value) (al : List Addr) (F : Hp) : V → U → Prop
  | d {v : V} {x : D} : Dv K mg F v x → Uv K mg al F v (.d x)
  | p {n : Nat} {a : Addr} : al[n]? = some a → Uv K mg al F (.ref a) (.p n)
  | tup {a : Addr} {vs : List V} {us : List U} : GT K F a vs → Uvs K mg al F vs us → Uv K mg al F (.ref a) (.tup us)
inductive Uvs (K : PySem.W.Frag) (mg : Str → Option Value) (al : List Addr) (F : Hp) : List V → List U → Prop
  | nil : Uvs K mg al F [] []
  | cons {v : V} {vs : List V} {u : U} {us : List U} : Uv K mg al F v u → Uvs K mg al F vs us → Uvs K mg al F (v :: vs) (u :: us)
end
inductive Ufs (K : PySem.W.Frag) (mg : Str → Option Value) (al : List Addr) (F : Hp) : List (Str × V) → List (Str × U) → Prop
  | nil : Ufs K mg al F [] []
  | cons {f : Str} {v : V} {vs : List (Str × V)} {u : U} {us : List (Str × U)} : Uv K mg al F v u → Ufs K mg al F vs us → Ufs K mg al F ((f, v) :: vs) ((f, u) :: us)
inductive Uks (K : PySem.W.Frag) (mg : Str → Option Value) (al : List Addr) (F : Hp) : List (L2.Key × V) → List (L2.Key × U) → Prop
  | nil : Uks K mg al F [] []
  | cons {k : L2.Key} {v : V} {vs : List (L2.Key × V)} {u : U} {us : List (L2.Key × U)} : Uv K mg al F v u → Uks K mg al F vs us → Uks K mg al F ((k, v) :: vs) ((k, u) :: us)
section
variable {K : PySem.W.Frag} {mg : Str → Option Value} {al al' : List Addr} {F F' H H' : Hp}
theorem pre_at {n : Nat} {a : Addr} (p : al <+: al') (h : al[n]? = some a) : al'[n]? = some a := by
  obtain ⟨t, rfl⟩ := p
  rw [List.getElem?_append_left (List.getElem?_eq_some_iff.mp h).1]
  exact h
mutual
theorem Uv.mono (p : al <+: al') (e : Same F F') : ∀ {v : V} {u : U}, Uv K mg al F v u → Uv K mg al' F' v u
  | _, _, .d h => .d (h.mono e)
  | _, _, .p h => .p (pre_at p h)
  | _, _, .tup h r => .tup (same_g e h) (Uvs.mono p e r)
theorem Uvs.mono (p : al <+: al') (e : Same F F') : ∀ {vs : List V} {us : List U}, Uvs K mg al F vs us → Uvs K mg al' F' vs us
  | _, _, .nil => .nil
  | _, _, .cons h r => .cons (Uv.mono p e h) (Uvs.mono p e r)
end
theorem Ufs.mono (p : al <+: al') (e : Same F F') : ∀ {vs : List (Str × V)} {us : List (Str × U)}, Ufs K mg al F vs us → Ufs K mg al' F' vs us
  | _, _, .nil => .nil
  | _, _, .cons h r => .cons (h.mono p e) (Ufs.mono p e r)
theorem Uks.mono (p : al <+: al') (e : Same F F') : ∀ {vs : List (L2.Key × V)} {us : List (L2.Key × U)}, Uks K mg al F vs us → Uks K mg al' F' vs us
  | _, _, .nil => .nil
  | _, _, .cons h r => .cons (h.mono p e) (Uks.mono p e r)
theorem Uks.len : ∀ {vs : List (L2.Key × V)} {us : List (L2.Key × U)}, Uks K mg al F vs us → vs.length = us.length
  | _, _, .nil => rfl
  | _, _, .cons _ r => congrArg (· + 1) (Uks.len r)
theorem Uks.keys : ∀ {vs : List (L2.Key × V)} {us : List (L2.Key × U)}, Uks K mg al F vs us → vs.map (·.1) = us.map (·.1)
  | _, _, .nil => rfl
  | _, _, .cons _ r => by rw [List.map_cons, List.map_cons, Uks.keys r]
theorem Uvs.len : ∀ {vs : List V} {us : List U}, Uvs K mg al F vs us → vs.length = us.length
  | _, _, .nil => rfl
  | _, _, .cons _ r => congrArg (· + 1) (Uvs.len r)
theorem Uvs.get : ∀ {vs : List V} {us : List U} {i : Nat} {u : U}, Uvs K mg al F vs us → us[i]? = some u → ∃ v, vs[i]? = some v ∧ Uv K mg al F v u
  | _, _, i, u, .nil, h => by simp at h
  | _, _, 0, u, .cons (v := v) h r, e => by
    have e' := Option.some.inj e
    exact ⟨v, rfl, e' ▸ h⟩
  | _, _, i + 1, u, .cons h r, e => Uvs.get (i := i) r e
theorem Uvs.app : ∀ {vs ws : List V} {us ts : List U}, Uvs K mg al F vs us → Uvs K mg al F ws ts → Uvs K mg al F (vs ++ ws) (us ++ ts)
  | _, _, _, _, .nil, q => q
  | _, _, _, _, .cons h r, q => .cons h (Uvs.app r q)
theorem Uvs.set : ∀ {vs : List V} {us : List U} (n : Nat) {v : V} {u : U}, Uvs K mg al F vs us → Uv K mg al F v u → Uvs K mg al F (vs.set n v) (us.set n u)
  | _, _, n, _, _, .nil, _ => by simp; exact .nil
  | _, _, 0, _, _, .cons h r, q => by simpa using .cons q r
  | _, _, n + 1, _, _, .cons h r, q => by simpa using .cons h (Uvs.set n r q)
theorem Ufs.look {f : Str} : ∀ {vs : List (Str × V)} {xs : List (Str × U)} {x : U}, Ufs K mg al F vs xs → xs.lookup f = some x → ∃ v, vs.lookup f = some v ∧ Uv K mg al F v x
  | _, _, x, .nil, h => by simp at h
  | _, _, x, .cons (f := g) (v := v) h r, e => by
    rw [List.lookup_cons] at e ⊢
    by_cases q : (f == g) = true
    · simp only [q] at e ⊢
      have e' := Option.some.inj e
      exact ⟨v, rfl, e' ▸ h⟩
    · simp only [Bool.not_eq_true] at q
      simp only [q] at e ⊢
      exact Ufs.look r e
end
/- data alone -/
mutual
def datU : U → Option D
  | .d x => some x
  | .p _ => none
  | .tup us => (datUs us).map .tup
def datUs : List U → Option (List D)
  | [] => some []
  | u :: us => match datU u, datUs us with
    | some x, some xs => some (x :: xs)
    | _, _ => none
end
section
variable {K : PySem.W.Frag} {mg : Str → Option Value} {al : List Addr} {F : Hp}
mutual
theorem Uv.dat : ∀ (u : U) {v : V} {x : D}, Uv K mg al F v u → datU u = some x → Dv K mg F v x
  | .d y, v, x, h, e => by
    unfold datU at e
    injection e with e
    subst e
    cases h with
    | d h => exact h
  | .p n, v, x, h, e => by unfold datU at e; cases e
  | .tup us, v, x, h, e => by
    unfold datU at e
    cases h with
    | tup g r =>
      cases q : datUs us with
      | none => rw [q] at e; cases e
      | some xs =>
        rw [q] at e
        have e := Option.some.inj e
        subst e
        exact .tup g (Uvs.dat us r q)
theorem Uvs.dat : ∀ (us : List U) {vs : List V} {xs : List D}, Uvs K mg al F vs us → datUs us = some xs → Dvs K mg F vs xs
  | [], vs, xs, h, e => by
    unfold datUs at e
    injection e with e
    subst e
    cases h
    exact .nil
  | u :: us, vs, xs, h, e => by
    unfold datUs at e
    cases h with
    | cons h r =>
      split at e
      · rename_i x ys hx hy
        injection e with e
        subst e
        exact .cons (Uv.dat u h hx) (Uvs.dat us r hy)
      · cases e
end
end
theorem datUs_d : ∀ xs : List D, datUs (xs.map .d) = some xs
  | [] => by simp [datUs]
  | x :: xs => by rw [List.map_cons, datUs, datUs_d xs, datU]
def datK : List (L2.Key × U) → Option (List (L2.Key × D))
  | [] => some []
  | (k, u) :: us => match datU u, datK us with
    | some x, some xs => some ((k, x) :: xs)
    | _, _ => none
theorem Uks.dat {K : PySem.W.Frag} {mg : Str → Option Value} {al : List Addr} {F : Hp} : ∀ (us : List (L2.Key × U)) {vs : List (L2.Key × V)} {xs : List (L2.Key × D)}, Uks K mg al F vs us → datK us = some xs → Kd K mg F vs xs
  | [], vs, xs, h, e => by
    unfold datK at e
    injection e with e
    subst e
    cases h
    exact .nil
  | (k, u) :: us, vs, xs, h, e => by
    unfold datK at e
    cases h with
    | cons h r =>
      split at e
      · rename_i x ys hx hy
        injection e with e
        subst e
        exact .cons (Uv.dat u h hx) (Uks.dat us r hy)
      · cases e
def CellAt (K : PySem.W.Frag) (mg : Str → Option Value) (al : List Addr) (F H : Hp) (a : Addr) : Cell → Prop
  | .lst us => ∃ vs, H a = some (.lst vs) ∧ Uvs K mg al F vs us
  | .ins c fs => ∃ C dx vs, H a = some (.ins C dx vs) ∧ mg c = some (.ref C) ∧ Ufs K mg al F vs fs
  | .dct kvs => ∃ vs, H a = some (.dK vs) ∧ Uks K mg al F vs kvs
/-- the cells as they stand -/
structure Gh (K : PySem.W.Frag) (mg : Str → Option Value) (R : Addr → Prop) (al : List Addr) (F H : Hp) (cs : Cs) : Prop where
  len : al.length = cs.length
  nd : al.Nodup
  cell : ∀ (n : Nat) (a : Addr) (c : Cell), al[n]? = some a → cs[n]? = some c → R a ∧ CellAt K mg al F H a c
section
variable {K : PySem.W.Frag} {mg : Str → Option Value} {R R' : Addr → Prop} {al al' : List Addr} {F F' H H' : Hp} {cs : Cs} {a : Addr} {c : Cell}
theorem CellAt.mono (p : al <+: al') (e : Same F F') (eh : ∀ o, H a = some o → H' a = some o) (h : CellAt K mg al F H a c) : CellAt K mg al' F' H' a c := by
  cases c with
  | lst us =>
    obtain ⟨vs, h1, h2⟩ := h
    exact ⟨vs, eh _ h1, h2.mono p e⟩
  | ins c fs =>
    obtain ⟨C, dx, vs, h1, h2, h3⟩ := h
    exact ⟨C, dx, vs, eh _ h1, h2, h3.mono p e⟩
  | dct kvs =>
    obtain ⟨vs, h1, h2⟩ := h
    exact ⟨vs, eh _ h1, h2.mono p e⟩
theorem Gh.inR (G : Gh K mg R al F H cs) {a : Addr} (h : a ∈ al) : R a := by
  obtain ⟨n, hn, e⟩ := List.getElem_of_mem h
  have hc : n < cs.length := by rw [← G.len]; exact hn
  exact (G.cell n a cs[n] (by rw [List.getElem?_eq_getElem hn, e]) (List.getElem?_eq_getElem hc)).1
theorem Gh.up (G : Gh K mg R al F H cs) (e : Same F F') (eh : Same H H') : Gh K mg R al F' H' cs :=
  ⟨G.len, G.nd, fun n a c h1 h2 => let ⟨r, q⟩ := G.cell n a c h1 h2; ⟨r, q.mono (List.prefix_refl al) e (fun o => eh a o)⟩⟩
theorem Gh.reR (G : Gh K mg R al F H cs) (hr : ∀ a, R a → R' a) : Gh K mg R' al F H cs :=
  ⟨G.len, G.nd, fun n a c h1 h2 => let ⟨r, q⟩ := G.cell n a c h1 h2; ⟨hr a r, q⟩⟩
end
/-! ### a frame -/
inductive Lo where
  | d (x : D) | l (xs : List D) | u (u : U)
abbrev Ev := List (Option Lo)
def basL : Lo → Option T
  | .d x => some (.d x)
  | .l xs => some (.l xs)
  | .u _ => none
def bas (ev : Ev) : En := ev.map fun o => o.bind basL
def snF (cs : Cs) (u : U) : Fld := match datU u with
  | some x => .dat x
  | none => match u with
    | .p n => match cs[n]? with
      | some (.lst us) => match datUs us with
        | some xs => .ls xs
        | none => .no
      | _ => .no
    | _ => .no
def snL (cs : Cs) : Lo → Option T
  | .d x => some (.d x)
  | .l xs => some (.l xs)
  | .u u => match datU u with
    | some x => some (.d x)
    | none => match u with
      | .p n => match cs[n]? with
        | some (.lst us) => (datUs us).map T.sl
        | some (.ins c fs) => some (.so c (fs.map fun q => (q.1, snF cs q.2)))
        | some (.dct kvs) => (datK kvs).map T.sd
        | none => none
      | _ => none
def snp (cs : Cs) (ev : Ev) : En := ev.map fun o => o.bind (snL cs)
theorem bas_at {ev : Ev} {i : Nat} {t : T} (h : (bas ev)[i]? = some (some t)) : ∃ l, ev[i]? = some (some l) ∧ basL l = some t := by
  unfold bas at h
  rw [List.getElem?_map] at h
  cases q : ev[i]? with
  | none => rw [q] at h; cases h
  | some o =>
    rw [q] at h
    cases o with
    | none => cases h
    | some l => exact ⟨l, rfl, Option.some.inj h⟩
theorem snp_at {cs : Cs} {ev : Ev} {i : Nat} {t : T} (h : (snp cs ev)[i]? = some (some t)) : ∃ l, ev[i]? = some (some l) ∧ snL cs l = some t := by
  unfold snp at h
  rw [List.getElem?_map] at h
  cases q : ev[i]? with
  | none => rw [q] at h; cases h
  | some o =>
    rw [q] at h
    cases o with
    | none => cases h
    | some l => exact ⟨l, rfl, Option.some.inj h⟩
theorem bas_of {ev : Ev} {i : Nat} {l : Lo} {t : T} (h : ev[i]? = some (some l)) (e : basL l = some t) : (bas ev)[i]? = some (some t) := by
  unfold bas
  rw [List.getElem?_map, h]
  exact congrArg some e
theorem snp_of {cs : Cs} {ev : Ev} {i : Nat} {l : Lo} {t : T} (h : ev[i]? = some (some l)) (e : snL cs l = some t) : (snp cs ev)[i]? = some (some t) := by
  unfold snp
  rw [List.getElem?_map, h]
  exact congrArg some e
theorem basL_l {l : Lo} {xs : List D} (h : basL l = some (.l xs)) : l = .l xs := by
  cases l <;> simp [basL] at h
  rw [h]
theorem snL_l {cs : Cs} {l : Lo} {xs : List D} (h : snL cs l = some (.l xs)) : l = .l xs := by
  cases l with
  | d x => simp [snL] at h
  | l ys => simp [snL] at h; rw [h]
  | u u =>
    unfold snL at h
    dsimp only at h
    split at h
    · cases h
    · split at h
      · split at h
        · rename_i us _
          cases q : datUs us with
          | none => rw [q] at h; cases h
          | some ys => rw [q] at h; cases h
        · cases h
        · rename_i us _
          cases q : datK us with
          | none => rw [q] at h; cases h
          | some ys => rw [q] at h; cases h
        · cases h
      · cases h
theorem snL_ll {cs : Cs} {l : Lo} {xs : List (List D)} : snL cs l ≠ some (.ll xs) := fun h => by
  cases l with
  | d x => simp [snL] at h
  | l ys => simp [snL] at h
  | u u =>
    unfold snL at h
    dsimp only at h
    split at h
    · cases h
    · split at h
      · split at h
        · rename_i us _
          cases q : datUs us with
          | none => rw [q] at h; cases h
          | some ys => rw [q] at h; cases h
        · cases h
        · rename_i us _
          cases q : datK us with
          | none => rw [q] at h; cases h
          | some ys => rw [q] at h; cases h
        · cases h
      · cases h
theorem own_bs {σ : L2.St} {ev : Ev} {cs : Cs} {p : Addr} : own σ (snp cs ev) p ↔ own σ (bas ev) p := by
  constructor
  · rintro ⟨i, xs, h1, h2⟩
    obtain ⟨l, hl, e⟩ := snp_at h1
    rw [snL_l e] at hl
    exact ⟨i, xs, bas_of hl rfl, h2⟩
  · rintro ⟨i, xs, h1, h2⟩
    obtain ⟨l, hl, e⟩ := bas_at h1
    rw [basL_l e] at hl
    exact ⟨i, xs, snp_of hl rfl, h2⟩
theorem fz_bs {R : Addr → Prop} {σ : L2.St} {ev : Ev} {cs : Cs} {H : Hp} : fz R σ (snp cs ev) H = fz R σ (bas ev) H := by
  unfold fz
  congr 1
  funext a
  rw [own_bs]
theorem Ro_bs {R : Addr → Prop} {σ : L2.St} {ev : Ev} {cs : Cs} : Ro R σ (snp cs ev) = Ro R σ (bas ev) := by
  funext a
  show (R a ∨ own σ (snp cs ev) a) = (R a ∨ own σ (bas ev) a)
  rw [own_bs]
structure StE (K : PySem.W.Frag) (mg : Str → Option Value) (R : Addr → Prop) (al : List Addr) (H0 : HZ) (σ : L2.St) (H : Hp) (ev : Ev) (cs : Cs) : Prop where
  S : StR K mg R H0 σ H (bas ev)
  G : Gh K mg R al (fz R σ (bas ev) H) H cs
  u : ∀ (i : Nat) (u : U), ev[i]? = some (some (.u u)) → ∃ v, σ[i]? = some (some v) ∧ Uv K mg al (fz R σ (bas ev) H) v u
  z : ∀ a, a ∈ al → H0 a = none
/-- from one moment to a later one: cells may have changed, new ones may have come -/
structure Tr (R : Addr → Prop) (al : List Addr) (H : Hp) (R' : Addr → Prop) (al' : List Addr) (H' : Hp) : Prop where
  pre : al <+: al'
  rr : ∀ a, R a → R' a
  rn : ∀ a, R' a → R a ∨ a ∈ al'
  keep : ∀ a o, a ∉ al → H a = some o → H' a = some o
  new : ∀ a, a ∈ al' → a ∉ al → H a = none
  stay : ∀ a, a ∈ al → H' a ≠ none
section
variable {K : PySem.W.Frag} {mg : Str → Option Value} {R R' R2 : Addr → Prop} {al al' al2 : List Addr} {H0 : HZ} {F F' H H' H1 H2 : Hp} {cs cs' : Cs} {σ : L2.St} {ev : Ev}
theorem Tr.trans (a : Tr R al H R' al' H') (b : Tr R' al' H' R2 al2 H2) : Tr R al H R2 al2 H2 where
  pre := a.pre.trans b.pre
  rr := fun x h => b.rr x (a.rr x h)
  rn := fun x h => (b.rn x h).elim (fun h => (a.rn x h).imp id fun h => b.pre.subset h) .inr
  keep := fun x o n h => b.keep x o (fun z => by rw [a.new x z n] at h; cases h) (a.keep x o n h)
  new := fun x h n => by
    by_cases z : x ∈ al'
    · exact a.new x z n
    · cases q : H x with
      | none => rfl
      | some o =>
        have := a.keep x o n q
        rw [b.new x h z] at this
        cases this
  stay := fun x h => b.stay x (a.pre.subset h)
theorem Tr.same (e : Same H H') (h : ∀ a, a ∈ al → H a ≠ none) : Tr R al H R al H' :=
  ⟨List.prefix_refl al, fun _ h => h, fun _ h => .inl h, fun a o _ q => e a o q, fun a h n => absurd h n, fun a q z => h a q (e.free z)⟩
theorem StE.alN (S : StE K mg R al H0 σ H ev cs) : ∀ a, a ∈ al → H a ≠ none := fun a h => S.S.res a (S.G.inR h)
theorem StE.up (S : StE K mg R al H0 σ H ev cs) (e : Same H H1) : StE K mg R al H0 σ H1 ev cs :=
  ⟨S.S.up e, S.G.up (fz_same e) e, fun i u h => let ⟨v, h1, h2⟩ := S.u i u h; ⟨v, h1, h2.mono (List.prefix_refl al) (fz_same e)⟩, S.z⟩
theorem StE.sn (S : StE K mg R al H0 σ H ev cs) : StR K mg R H0 σ H (snp cs ev) := by
  have G := S.G
  have fld : ∀ (u : U) (v : V), Uv K mg al (fz R σ (bas ev) H) v u → SnF K mg R (fz R σ (bas ev) H) H v (snF cs u) := fun u v h => by
    unfold snF
    split
    · rename_i x hx
      exact Uv.dat u h hx
    · split
      · rename_i n _
        split
        · rename_i us hc
          split
          · rename_i xs hx
            cases h with
            | p ha =>
              obtain ⟨r, vs, h1, h2⟩ := G.cell _ _ _ ha hc
              exact ⟨_, vs, rfl, r, h1, Uvs.dat us h2 hx⟩
          · trivial
        · trivial
      · trivial
  refine ⟨S.S.ex, S.S.res, fun p h => S.S.dis p (own_bs.mp h), fun i j xs t h1 => ?_, fun p h => S.S.new p (own_bs.mp h), fun i j xs ys p h1 h2 => ?_, fun i t h => ?_, ?_⟩
  · obtain ⟨l, _, e⟩ := snp_at h1
    exact absurd e snL_ll
  · obtain ⟨l, hl, e⟩ := snp_at h1
    obtain ⟨l2, hl2, e2⟩ := snp_at h2
    rw [snL_l e] at hl
    rw [snL_l e2] at hl2
    exact S.S.inj i j xs ys p (bas_of hl rfl) (bas_of hl2 rfl)
  · obtain ⟨l, hl, e⟩ := snp_at h
    rw [fz_bs]
    cases l with
    | d x =>
      have e := Option.some.inj e
      subst e
      exact S.S.slot i _ (bas_of hl rfl)
    | l xs =>
      have e := Option.some.inj e
      subst e
      exact S.S.slot i _ (bas_of hl rfl)
    | u u =>
      obtain ⟨v, hv, hu⟩ := S.u i u hl
      refine ⟨v, hv, ?_⟩
      unfold snL at e
      dsimp only at e
      split at e
      · rename_i x hx
        have e := Option.some.inj e
        subst e
        exact Uv.dat u hu hx
      · split at e
        · rename_i n _
          split at e
          · rename_i us hc
            cases q : datUs us with
            | none => rw [q] at e; cases e
            | some xs =>
              rw [q] at e
              have e := Option.some.inj e
              subst e
              cases hu with
              | p ha =>
                obtain ⟨r, vs, h1, h2⟩ := G.cell _ _ _ ha hc
                exact ⟨_, vs, rfl, r, h1, Uvs.dat us h2 q⟩
          · rename_i c fs hc
            have e := Option.some.inj e
            subst e
            cases hu with
            | p ha =>
              obtain ⟨r, C, dx, vs, h1, h2, h3⟩ := G.cell _ _ _ ha hc
              refine ⟨_, C, dx, vs, rfl, r, h1, h2, fun f x hx => ?_⟩
              have look : ∀ {vs : List (Str × V)} {fs : List (Str × U)}, Ufs K mg al (fz R σ (bas ev) H) vs fs → (fs.map fun q => (q.1, snF cs q.2)).lookup f = some x → ∃ w, vs.lookup f = some w ∧ SnF K mg R (fz R σ (bas ev) H) H w x := by
                intro vs fs h
                induction h with
                | nil => intro q; simp at q
                | cons hv r ih =>
                  rename_i g w vs u us
                  intro q
                  rw [List.map_cons, List.lookup_cons] at q
                  rw [List.lookup_cons]
                  by_cases z : (f == g) = true
                  · simp only [z] at q ⊢
                    have q := Option.some.inj q
                    subst q
                    exact ⟨w, rfl, fld u w hv⟩
                  · simp only [Bool.not_eq_true] at z
                    simp only [z] at q ⊢
                    exact ih q
              exact look h3 hx
          · rename_i us hc
            cases q : datK us with
            | none => rw [q] at e; cases e
            | some xs =>
              rw [q] at e
              have e := Option.some.inj e
              subst e
              cases hu with
              | p ha =>
                obtain ⟨r, vs, h1, h2⟩ := G.cell _ _ _ ha hc
                exact ⟨_, vs, rfl, r, h1, Uks.dat us h2 q⟩
          · cases e
        · cases e
  · rw [S.S.len]
    unfold bas snp
    rw [List.length_map, List.length_map]
end
end Orn

set_option linter.all false
set_option maxRecDepth 100000
set_option maxHeartbeats 4000000
namespace Orn
open L2 PySem PySem.Spec PyProof.Rows
section
variable {K : PySem.W.Frag} {mg : Str → Option Value} {R R' R2 : Addr → Prop} {al al' al2 : List Addr} {H0 : HZ} {F F' H H' H1 H2 : Hp} {cs cs' : Cs} {σ : L2.St} {ev : Ev}
theorem Gh.there (G : Gh K mg R al F H cs) {a : Addr} (h : a ∈ al) : H a ≠ none := by
  obtain ⟨n, hn, e⟩ := List.getElem_of_mem h
  have hc : n < cs.length := by rw [← G.len]; exact hn
  obtain ⟨_, q⟩ := G.cell n a cs[n] (by rw [List.getElem?_eq_getElem hn, e]) (List.getElem?_eq_getElem hc)
  generalize cs[n] = c at q
  cases c with
  | lst us => obtain ⟨vs, h1, _⟩ := q; rw [h1]; intro z; cases z
  | ins c fs => obtain ⟨C, dx, vs, h1, _⟩ := q; rw [h1]; intro z; cases z
  | dct kvs => obtain ⟨vs, h1, _⟩ := q; rw [h1]; intro z; cases z
theorem bas_one (ev : Ev) : One (bas ev) := fun i j xs t h1 => by
  obtain ⟨l, _, e⟩ := bas_at h1
  cases l <;> simp [basL] at e
theorem StE.frz (S : StE K mg R al H0 σ H ev cs) (T : Tr R al H R' al' H') : Same (fz R σ (bas ev) H) (fz R' σ (bas ev) H') := fun a o h => by
  have na : ¬ (R a ∨ own σ (bas ev) a) := fun z => by
    rw [show fz R σ (bas ev) H a = none from hid_yes z] at h
    cases h
  rw [show fz R σ (bas ev) H a = H a from hid_no na] at h
  have nal : a ∉ al := fun z => na (.inl (S.G.inR z))
  show hid _ _ a = some o
  rw [hid_no]
  · exact T.keep a o nal h
  · rintro (z | z)
    · rcases T.rn a z with z | z
      · exact na (.inl z)
      · rw [T.new a z nal] at h; cases h
    · exact na (.inr z)
theorem StE.tr (S : StE K mg R al H0 σ H ev cs) (T : Tr R al H R' al' H') (G : Gh K mg R' al' (fz R' σ (bas ev) H') H' cs') : StE K mg R' al' H0 σ H' ev cs' := by
  have f := S.frz T
  refine ⟨⟨fun a o h => ?_, fun a h => ?_, fun p h z => ?_, bas_one ev, S.S.new, S.S.inj, fun i t h => ?_, S.S.len⟩, G, fun i u h => ?_, fun a h => ?_⟩
  · exact T.keep a o (fun z => by rw [S.z a z] at h; cases h) (S.S.ex a o h)
  · by_cases z : a ∈ al'
    · exact G.there z
    · have r := (T.rn a h).resolve_right z
      cases q : H a with
      | none => exact absurd q (S.S.res a r)
      | some o =>
        rw [T.keep a o (fun z' => z (T.pre.subset z')) q]
        intro z; cases z
  · rcases T.rn p z with z | z
    · exact S.S.dis p h z
    · by_cases q : p ∈ al
      · exact S.S.dis p h (S.G.inR q)
      · exact S.S.resH (.inr h) (T.new p z q)
  · obtain ⟨v, hv, ht⟩ := S.S.slot i t h
    refine ⟨v, hv, ?_⟩
    obtain ⟨l, hl, e⟩ := bas_at h
    cases l with
    | d x =>
      have e := Option.some.inj e
      subst e
      exact Dv.mono f ht
    | l xs =>
      have e := Option.some.inj e
      subst e
      obtain ⟨p, vs, rfl, hp, hs⟩ := ht
      exact ⟨p, vs, rfl, T.keep _ _ (fun z => S.S.dis p ⟨i, xs, h, hv⟩ (S.G.inR z)) hp, hs.mono f⟩
    | u u => cases e
  · obtain ⟨v, h1, h2⟩ := S.u i u h
    exact ⟨v, h1, h2.mono T.pre f⟩
  · by_cases q : a ∈ al
    · exact S.z a q
    · exact S.S.ex.free (T.new a h q)
/-- a cell more -/
theorem StE.alloc (S : StE K mg R al H0 σ H ev cs) {p : Addr} {o : HO} {c : Cell} (hp : H p = none)
    (hc : ∀ F', Same (fz R σ (bas ev) H) F' → CellAt K mg (al ++ [p]) F' (upd H p o) p c) :
    Tr R al H (fun a => R a ∨ a = p) (al ++ [p]) (upd H p o) ∧ StE K mg (fun a => R a ∨ a = p) (al ++ [p]) H0 σ (upd H p o) ev (cs ++ [c]) := by
  have npa : p ∉ al := fun z => S.alN p z hp
  have T : Tr R al H (fun a => R a ∨ a = p) (al ++ [p]) (upd H p o) := by
    refine ⟨List.prefix_append _ _, fun _ h => .inl h, fun a h => h.imp id fun h => by rw [h]; simp, fun a u n h => ?_, fun a h n => ?_, fun a h => ?_⟩
    · rw [upd_ne (ne_of_none h hp)]
      exact h
    · rcases List.mem_append.mp h with z | z
      · exact absurd z n
      · rw [List.mem_singleton.mp z]; exact hp
    · have ne : a ≠ p := fun z => npa (z ▸ h)
      rw [upd_ne ne]
      exact S.alN a h
  have f := S.frz T
  refine ⟨T, S.tr T ⟨by rw [List.length_append, List.length_append, S.G.len]; rfl, ?_, fun n a k h1 h2 => ?_⟩⟩
  · rw [List.nodup_append]
    exact ⟨S.G.nd, by simp, fun a ha b hb z => npa (by rw [← List.mem_singleton.mp hb, ← z]; exact ha)⟩
  · by_cases hn : n < al.length
    · rw [List.getElem?_append_left hn] at h1
      rw [List.getElem?_append_left (by rw [← S.G.len]; exact hn)] at h2
      obtain ⟨r, q⟩ := S.G.cell n a k h1 h2
      exact ⟨.inl r, q.mono (List.prefix_append _ _) f fun u hu => (upd_ne (ne_of_none hu hp)).trans hu⟩
    · rw [List.getElem?_append_right (by omega)] at h1
      rw [List.getElem?_append_right (by rw [← S.G.len]; omega), ← S.G.len] at h2
      have hz : n - al.length = 0 := by
        cases q : n - al.length with
        | zero => rfl
        | succ m => rw [q] at h1; simp at h1
      rw [hz] at h1 h2
      have h1 := Option.some.inj h1
      have h2 := Option.some.inj h2
      subst h1
      subst h2
      exact ⟨.inr rfl, hc _ f⟩
/-- a cell changes -/
theorem StE.put (S : StE K mg R al H0 σ H ev cs) {n : Nat} {p : Addr} {o : HO} {c : Cell} (hn : al[n]? = some p) (ho : (o matches .own _) = false)
    (hc : ∀ F', Same (fz R σ (bas ev) H) F' → CellAt K mg al F' (upd H p o) p c) :
    Tr R al H R al (upd H p o) ∧ StE K mg R al H0 σ (upd H p o) ev (cs.set n c) := by
  have hm := List.mem_of_getElem? hn
  have T : Tr R al H R al (upd H p o) := by
    refine ⟨List.prefix_refl _, fun _ h => h, fun a h => .inl h, fun a u n h => ?_, fun a h n => absurd h n, fun a h => ?_⟩
    · rw [upd_ne (fun z => n (by rw [z]; exact hm))]
      exact h
    · by_cases z : a = p
      · rw [z, upd_same]; intro z; cases z
      · rw [upd_ne z]; exact S.alN a h
  have f := S.frz T
  refine ⟨T, S.tr T ⟨by rw [List.length_set]; exact S.G.len, S.G.nd, fun m a k h1 h2 => ?_⟩⟩
  by_cases e : n = m
  · subst e
    rw [hn] at h1
    have h1 := Option.some.inj h1
    subst h1
    have hl : n < cs.length := by rw [← S.G.len]; exact (List.getElem?_eq_some_iff.mp hn).1
    rw [List.getElem?_set_self hl] at h2
    have h2 := Option.some.inj h2
    subst h2
    exact ⟨S.G.inR hm, hc _ f⟩
  · rw [List.getElem?_set_ne e] at h2
    obtain ⟨r, q⟩ := S.G.cell m a k h1 h2
    refine ⟨r, q.mono (List.prefix_refl _) f fun u hu => (upd_ne (fun z => e ?_)).trans hu⟩
    rw [z] at h1
    exact nodup_at S.G.nd hn h1
end
/-! ### what a run of an expression gives -/
inductive Re (α : Type) where
  | ok (a : α) (c : Cs) | exc (e : Exn) (c : Cs) | bad
def bindE {α β : Type} (x : Re α) (k : α → Cs → Re β) : Re β := match x with
  | .ok a c => k a c
  | .exc e c => .exc e c
  | .bad => .bad
def liftR {α : Type} (x : Rs α) (c : Cs) : Re α := match x with
  | .ok a => .ok a c
  | .exc e => .exc e c
  | .bad => .bad
def PostE (K : PySem.W.Frag) (mg : Str → Option Value) (W : L2.WX) (R : Addr → Prop) (al : List Addr) (H0 : HZ) (σ : L2.St) (ev : Ev) (H : Hp) (Q : VK) : Re U → Prop
  | .ok u cs => ∀ v H' R' al', Tr R al H R' al' H' → StE K mg R' al' H0 σ H' ev cs → Uv K mg al' (fz R' σ (bas ev) H') v u → Q v H'
  | .exc e cs => ∀ cls dd H' R' al', Tr R al H R' al' H' → StE K mg R' al' H0 σ H' ev cs → XW K mg (Ro R' σ (bas ev)) e cls dd H' → W cls dd σ H'
  | .bad => False
def PostEA (K : PySem.W.Frag) (mg : Str → Option Value) (W : L2.WX) (R : Addr → Prop) (al : List Addr) (H0 : HZ) (σ : L2.St) (ev : Ev) (H : Hp) (Q : List V → Hp → Prop) : Re (List U) → Prop
  | .ok us cs => ∀ vs H' R' al', Tr R al H R' al' H' → StE K mg R' al' H0 σ H' ev cs → Uvs K mg al' (fz R' σ (bas ev) H') vs us → Q vs H'
  | .exc e cs => ∀ cls dd H' R' al', Tr R al H R' al' H' → StE K mg R' al' H0 σ H' ev cs → XW K mg (Ro R' σ (bas ev)) e cls dd H' → W cls dd σ H'
  | .bad => False
def PostET (K : PySem.W.Frag) (mg : Str → Option Value) (W : L2.WX) (R : Addr → Prop) (al : List Addr) (H0 : HZ) (σ : L2.St) (ev : Ev) (H : Hp) (Q : Bool → Hp → Prop) : Re Bool → Prop
  | .ok b cs => ∀ H' R' al', Tr R al H R' al' H' → StE K mg R' al' H0 σ H' ev cs → Q b H'
  | .exc e cs => ∀ cls dd H' R' al', Tr R al H R' al' H' → StE K mg R' al' H0 σ H' ev cs → XW K mg (Ro R' σ (bas ev)) e cls dd H' → W cls dd σ H'
  | .bad => False
section
variable {K : PySem.W.Frag} {mg : Str → Option Value} {W : L2.WX} {R R' R2 : Addr → Prop} {al al' al2 : List Addr} {H0 : HZ} {F F' H H' H1 H2 : Hp} {cs cs' : Cs} {σ : L2.St} {ev : Ev}
theorem PostE.up {Q : VK} {r : Re U} (T : Tr R al H R' al' H') (h : PostE K mg W R al H0 σ ev H Q r) : PostE K mg W R' al' H0 σ ev H' Q r := by
  cases r with
  | ok u c => exact fun v H2 R2 al2 T2 => h v H2 R2 al2 (T.trans T2)
  | exc e c => exact fun cls dd H2 R2 al2 T2 => h cls dd H2 R2 al2 (T.trans T2)
  | bad => exact h
theorem PostEA.up {Q : List V → Hp → Prop} {r : Re (List U)} (T : Tr R al H R' al' H') (h : PostEA K mg W R al H0 σ ev H Q r) : PostEA K mg W R' al' H0 σ ev H' Q r := by
  cases r with
  | ok u c => exact fun v H2 R2 al2 T2 => h v H2 R2 al2 (T.trans T2)
  | exc e c => exact fun cls dd H2 R2 al2 T2 => h cls dd H2 R2 al2 (T.trans T2)
  | bad => exact h
theorem PostET.up {Q : Bool → Hp → Prop} {r : Re Bool} (T : Tr R al H R' al' H') (h : PostET K mg W R al H0 σ ev H Q r) : PostET K mg W R' al' H0 σ ev H' Q r := by
  cases r with
  | ok u c => exact fun H2 R2 al2 T2 => h H2 R2 al2 (T.trans T2)
  | exc e c => exact fun cls dd H2 R2 al2 T2 => h cls dd H2 R2 al2 (T.trans T2)
  | bad => exact h
end
abbrev FE := Ev → Cs → Re U
abbrev FEA := Ev → Cs → Re (List U)
abbrev FET := Ev → Cs → Re Bool
def rdE (K : PySem.W.Frag) (mg : Str → Option Value) (W : L2.WX) (f : FE) : TE := fun σ H Q => ∃ R al H0 ev cs, StE K mg R al H0 σ H ev cs ∧ PostE K mg W R al H0 σ ev H Q (f ev cs)
def rdEA (K : PySem.W.Frag) (mg : Str → Option Value) (W : L2.WX) (f : FEA) : TA := fun σ H Q => ∃ R al H0 ev cs, StE K mg R al H0 σ H ev cs ∧ PostEA K mg W R al H0 σ ev H Q (f ev cs)
def rdET (K : PySem.W.Frag) (mg : Str → Option Value) (W : L2.WX) (f : FET) : TT := fun σ H Q => ∃ R al H0 ev cs, StE K mg R al H0 σ H ev cs ∧ PostET K mg W R al H0 σ ev H Q (f ev cs)
abbrev PX (X : Cx) (W : L2.WX) (a : Expr) (f : FE) : Prop := PE X a (rdE X.K X.mg W f)
abbrev PXA (X : Cx) (W : L2.WX) (es : List Expr) (f : FEA) : Prop := PA X es (rdEA X.K X.mg W f)
abbrev PXT (X : Cx) (W : L2.WX) (a : Expr) (f : FET) : Prop := PT X a (rdET X.K X.mg W f)
abbrev PXW (X : Cx) (W : L2.WX) (a : Expr) (f : FET) : Prop := PW X a (rdET X.K X.mg W f)
section
variable {K : PySem.W.Frag} {mg : Str → Option Value} {W : L2.WX} {R : Addr → Prop} {al : List Addr} {H0 : HZ} {H : Hp} {cs : Cs} {σ : L2.St} {ev : Ev}
/-- an expression, then more (of an expression, of a list, of a test) -/
theorem rdE_seq {f : FE} {k : U → Cs → Re U} {Q : VK} {r : V → Hp → Prop} (S : StE K mg R al H0 σ H ev cs) (q : PostE K mg W R al H0 σ ev H Q (bindE (f ev cs) k))
    (h : ∀ v u cs1 H1 R1 al1, Tr R al H R1 al1 H1 → StE K mg R1 al1 H0 σ H1 ev cs1 → Uv K mg al1 (fz R1 σ (bas ev) H1) v u → PostE K mg W R1 al1 H0 σ ev H1 Q (k u cs1) → r v H1) : rdE K mg W f σ H r := by
  refine ⟨R, al, H0, ev, cs, S, ?_⟩
  cases ef : f ev cs with
  | ok u c =>
    rw [ef] at q
    exact fun v H1 R1 al1 T S1 hu => h v u c H1 R1 al1 T S1 hu (PostE.up T q)
  | exc e c => rw [ef] at q; exact q
  | bad => rw [ef] at q; exact q
theorem rdE_seqA {f : FE} {k : U → Cs → Re (List U)} {Q : List V → Hp → Prop} {r : V → Hp → Prop} (S : StE K mg R al H0 σ H ev cs) (q : PostEA K mg W R al H0 σ ev H Q (bindE (f ev cs) k))
    (h : ∀ v u cs1 H1 R1 al1, Tr R al H R1 al1 H1 → StE K mg R1 al1 H0 σ H1 ev cs1 → Uv K mg al1 (fz R1 σ (bas ev) H1) v u → PostEA K mg W R1 al1 H0 σ ev H1 Q (k u cs1) → r v H1) : rdE K mg W f σ H r := by
  refine ⟨R, al, H0, ev, cs, S, ?_⟩
  cases ef : f ev cs with
  | ok u c =>
    rw [ef] at q
    exact fun v H1 R1 al1 T S1 hu => h v u c H1 R1 al1 T S1 hu (PostEA.up T q)
  | exc e c => rw [ef] at q; exact q
  | bad => rw [ef] at q; exact q
theorem rdEA_seq {f : FEA} {k : List U → Cs → Re U} {Q : VK} {r : List V → Hp → Prop} (S : StE K mg R al H0 σ H ev cs) (q : PostE K mg W R al H0 σ ev H Q (bindE (f ev cs) k))
    (h : ∀ v u cs1 H1 R1 al1, Tr R al H R1 al1 H1 → StE K mg R1 al1 H0 σ H1 ev cs1 → Uvs K mg al1 (fz R1 σ (bas ev) H1) v u → PostE K mg W R1 al1 H0 σ ev H1 Q (k u cs1) → r v H1) : rdEA K mg W f σ H r := by
  refine ⟨R, al, H0, ev, cs, S, ?_⟩
  cases ef : f ev cs with
  | ok u c =>
    rw [ef] at q
    exact fun v H1 R1 al1 T S1 hu => h v u c H1 R1 al1 T S1 hu (PostE.up T q)
  | exc e c => rw [ef] at q; exact q
  | bad => rw [ef] at q; exact q
theorem rdEA_seqA {f : FEA} {k : List U → Cs → Re (List U)} {Q : List V → Hp → Prop} {r : List V → Hp → Prop} (S : StE K mg R al H0 σ H ev cs) (q : PostEA K mg W R al H0 σ ev H Q (bindE (f ev cs) k))
    (h : ∀ v u cs1 H1 R1 al1, Tr R al H R1 al1 H1 → StE K mg R1 al1 H0 σ H1 ev cs1 → Uvs K mg al1 (fz R1 σ (bas ev) H1) v u → PostEA K mg W R1 al1 H0 σ ev H1 Q (k u cs1) → r v H1) : rdEA K mg W f σ H r := by
  refine ⟨R, al, H0, ev, cs, S, ?_⟩
  cases ef : f ev cs with
  | ok u c =>
    rw [ef] at q
    exact fun v H1 R1 al1 T S1 hu => h v u c H1 R1 al1 T S1 hu (PostEA.up T q)
  | exc e c => rw [ef] at q; exact q
  | bad => rw [ef] at q; exact q
theorem rdE_seqT {f : FE} {k : U → Cs → Re Bool} {Q : Bool → Hp → Prop} {r : V → Hp → Prop} (S : StE K mg R al H0 σ H ev cs) (q : PostET K mg W R al H0 σ ev H Q (bindE (f ev cs) k))
    (h : ∀ v u cs1 H1 R1 al1, Tr R al H R1 al1 H1 → StE K mg R1 al1 H0 σ H1 ev cs1 → Uv K mg al1 (fz R1 σ (bas ev) H1) v u → PostET K mg W R1 al1 H0 σ ev H1 Q (k u cs1) → r v H1) : rdE K mg W f σ H r := by
  refine ⟨R, al, H0, ev, cs, S, ?_⟩
  cases ef : f ev cs with
  | ok u c =>
    rw [ef] at q
    exact fun v H1 R1 al1 T S1 hu => h v u c H1 R1 al1 T S1 hu (PostET.up T q)
  | exc e c => rw [ef] at q; exact q
  | bad => rw [ef] at q; exact q
theorem rdET_seqT {f : FET} {k : Bool → Cs → Re Bool} {Q : Bool → Hp → Prop} {r : Bool → Hp → Prop} (S : StE K mg R al H0 σ H ev cs) (q : PostET K mg W R al H0 σ ev H Q (bindE (f ev cs) k))
    (h : ∀ b cs1 H1 R1 al1, Tr R al H R1 al1 H1 → StE K mg R1 al1 H0 σ H1 ev cs1 → PostET K mg W R1 al1 H0 σ ev H1 Q (k b cs1) → r b H1) : rdET K mg W f σ H r := by
  refine ⟨R, al, H0, ev, cs, S, ?_⟩
  cases ef : f ev cs with
  | ok u c =>
    rw [ef] at q
    exact fun H1 R1 al1 T S1 => h u c H1 R1 al1 T S1 (PostET.up T q)
  | exc e c => rw [ef] at q; exact q
  | bad => rw [ef] at q; exact q
end
/-! ### lifted from the layer without cells -/
def up (f : En → Rs D) : FE := fun ev cs => bindE (liftR (f (snp cs ev)) cs) fun d cs => .ok (.d d) cs
def upT (f : En → Rs Bool) : FET := fun ev cs => liftR (f (snp cs ev)) cs
section
variable {X : Cx} {W : L2.WX} {m ma mb : Md} {fa fb f : En → Rs D} {a b e o : Expr} {es : List Expr} {pos : Pos} {ga gb : FE} {gs : FEA} {ta tb : FET} {K : PySem.W.Frag} {mg : Str → Option Value}
theorem px_up (h : PR X W .fz e f) : PX X W e (up f) := pe_imp h fun σ H Q ⟨R, al, H0, ev, cs, S, q⟩ => by
  refine ⟨R, H0, snp cs ev, S.sn, ?_⟩
  unfold up at q
  cases ef : f (snp cs ev) with
  | ok d =>
    rw [ef] at q
    intro v H' e' r
    exact q v H' R al (Tr.same e' S.alN) (S.up e') (.d (by rw [← fz_bs (cs := cs)]; exact r))
  | exc x =>
    rw [ef] at q
    intro cls dd H' e' xw
    rw [Ro_bs] at xw
    exact q cls dd H' R al (Tr.same e' S.alN) (S.up e') xw
  | bad => rw [ef] at q; exact q
theorem pxt_up {f : En → Rs Bool} (h : PRT X W e f) : PXT X W e (upT f) := pt_imp h fun σ H Q ⟨R, al, H0, ev, cs, S, q⟩ => by
  refine ⟨R, H0, snp cs ev, S.sn, ?_⟩
  unfold upT at q
  cases ef : f (snp cs ev) with
  | ok d =>
    rw [ef] at q
    intro H' e'
    exact q H' R al (Tr.same e' S.alN) (S.up e')
  | exc x =>
    rw [ef] at q
    intro cls dd H' e' xw
    rw [Ro_bs] at xw
    exact q cls dd H' R al (Tr.same e' S.alN) (S.up e') xw
  | bad => rw [ef] at q; exact q
/-- a new list of data becomes a cell -/
def newE (f : En → Rs D) : FE := fun ev cs => bindE (liftR (f (snp cs ev)) cs) fun d cs => match d with
  | .lst xs => .ok (.p cs.length) (cs ++ [.lst (xs.map .d)])
  | _ => .bad
theorem Dvs.us {al : List Addr} {F : Hp} : ∀ {vs : List V} {xs : List D}, Dvs K mg F vs xs → Uvs K mg al F vs (xs.map .d)
  | _, _, .nil => .nil
  | _, _, .cons h r => .cons (.d h) (Dvs.us r)
theorem StE.adopt {R : Addr → Prop} {al : List Addr} {H0 : HZ} {H H' : Hp} {σ : L2.St} {ev : Ev} {cs : Cs} (S : StE K mg R al H0 σ H ev cs) (e : Same H H') {p : Addr} {vs : List V} {xs : List D} {G : Hp} (hn : H p = none) (hp : H' p = some (.lst vs)) (hG : Same G (fz R σ (bas ev) H')) (hGp : G p = none) (hs : Dvs K mg G vs xs) :
    Tr R al H (fun a => R a ∨ a = p) (al ++ [p]) H' ∧ StE K mg (fun a => R a ∨ a = p) (al ++ [p]) H0 σ H' ev (cs ++ [.lst (xs.map .d)]) := by
  have npa : p ∉ al := fun z => S.alN p z hn
  have T : Tr R al H (fun a => R a ∨ a = p) (al ++ [p]) H' := by
    refine ⟨List.prefix_append _ _, fun _ h => .inl h, fun a h => h.imp id fun h => by rw [h]; simp, fun a u n h => e a u h, fun a h n => ?_, fun a h z => S.alN a h (e.free z)⟩
    rcases List.mem_append.mp h with z | z
    · exact absurd z n
    · rw [List.mem_singleton.mp z]; exact hn
  have f := S.frz T
  have hGF : Same G (fz (fun a => R a ∨ a = p) σ (bas ev) H') := fun a o h => by
    have h1 := hG a o h
    have na : ¬ (R a ∨ own σ (bas ev) a) := fun z => by
      rw [show fz R σ (bas ev) H' a = none from hid_yes z] at h1
      cases h1
    rw [show fz R σ (bas ev) H' a = H' a from hid_no na] at h1
    show hid _ _ a = some o
    rw [hid_no]
    · exact h1
    · rintro ((z | z) | z)
      · exact na (.inl z)
      · rw [z, hGp] at h; cases h
      · exact na (.inr z)
  refine ⟨T, S.tr T ⟨by rw [List.length_append, List.length_append, S.G.len]; rfl, ?_, fun n a k h1 h2 => ?_⟩⟩
  · rw [List.nodup_append]
    exact ⟨S.G.nd, by simp, fun a ha b hb z => npa (by rw [← List.mem_singleton.mp hb, ← z]; exact ha)⟩
  · by_cases hn : n < al.length
    · rw [List.getElem?_append_left hn] at h1
      rw [List.getElem?_append_left (by rw [← S.G.len]; exact hn)] at h2
      obtain ⟨r, q⟩ := S.G.cell n a k h1 h2
      exact ⟨.inl r, q.mono (List.prefix_append _ _) f fun u hu => e a u hu⟩
    · rw [List.getElem?_append_right (by omega)] at h1
      rw [List.getElem?_append_right (by rw [← S.G.len]; omega), ← S.G.len] at h2
      have hz : n - al.length = 0 := by
        cases q : n - al.length with
        | zero => rfl
        | succ m => rw [q] at h1; simp at h1
      rw [hz] at h1 h2
      have h1 := Option.some.inj h1
      have h2 := Option.some.inj h2
      subst h1
      subst h2
      exact ⟨.inr rfl, vs, hp, (hs.mono hGF).us⟩
theorem px_new (h : PR X W .new e f) : PX X W e (newE f) := pe_imp h fun σ H Q ⟨R, al, H0, ev, cs, S, q⟩ => by
  refine ⟨R, H0, snp cs ev, S.sn, ?_⟩
  unfold newE at q
  cases ef : f (snp cs ev) with
  | ok d =>
    rw [ef] at q
    intro v H' e' r
    obtain ⟨p, vs, xs, G, rfl, rfl, hn, hp, _, hG, hGp, hs⟩ := r
    rw [fz_bs] at hG
    obtain ⟨T, S'⟩ := S.adopt e' hn hp hG hGp hs
    exact q (.ref p) H' _ _ T S' (.p (by rw [← S.G.len, List.getElem?_append_right (Nat.le_refl _)]; simp))
  | exc x =>
    rw [ef] at q
    intro cls dd H' e' xw
    rw [Ro_bs] at xw
    exact q cls dd H' R al (Tr.same e' S.alN) (S.up e') xw
  | bad => rw [ef] at q; exact q
/-- a name that holds a pointer -/
def ptrE (i : Nat) : FE := fun ev cs => match ev[i]? with
  | some (some (.u u)) => .ok u cs
  | some (some (.d x)) => .ok (.d x) cs
  | _ => .bad
theorem px_ptr {i : Nat} (h : PE X e (tVar i)) : PX X W e (ptrE i) := pe_imp h fun σ H Q ⟨R, al, H0, ev, cs, S, q⟩ => by
  unfold ptrE at q
  split at q
  · rename_i u hu
    obtain ⟨v, hv, h⟩ := S.u i u hu
    exact ⟨v, hv, q v H R al (Tr.same (Same.refl H) S.alN) S h⟩
  · rename_i x hx
    obtain ⟨v, hv, h⟩ := S.S.slot i (.d x) (bas_of hx rfl)
    exact ⟨v, hv, q v H R al (Tr.same (Same.refl H) S.alN) S (.d h)⟩
  · exact q.elim
end
end Orn

set_option linter.all false
set_option maxRecDepth 100000
set_option maxHeartbeats 4000000
namespace Orn
open L2 PySem PySem.Spec PyProof.Rows
/-! ### a value with its cells' content, as data -/
mutual
def resU (g : Nat → Option D) : U → Option D
  | .d x => some x
  | .p n => g n
  | .tup us => (resUs g us).map .tup
def resUs (g : Nat → Option D) : List U → Option (List D)
  | [] => some []
  | u :: us => match resU g u, resUs g us with
    | some x, some xs => some (x :: xs)
    | _, _ => none
end
def pkN (cs : Cs) : Nat → Nat → Option D
  | 0, _ => none
  | k + 1, n => match cs[n]? with
    | some (.lst us) => (resUs (pkN cs k) us).map .lst
    | _ => none
def pkU (cs : Cs) (u : U) : Option D := resU (pkN cs 4) u
section
variable {K : PySem.W.Frag} {mg : Str → Option Value} {R R' R2 : Addr → Prop} {al al' al2 : List Addr} {H0 : HZ} {F F' H H' H1 H2 : Hp} {cs cs' : Cs} {σ : L2.St} {ev : Ev}
mutual
theorem Uv.res {g : Nat → Option D} (hg : ∀ n a x, al[n]? = some a → g n = some x → Dv K mg H (.ref a) x) (e : Same F H) : ∀ (u : U) {v : V} {x : D}, Uv K mg al F v u → resU g u = some x → Dv K mg H v x
  | .d y, v, x, h, q => by
    unfold resU at q
    injection q with q
    subst q
    cases h with
    | d h => exact h.mono e
  | .p n, v, x, h, q => by
    unfold resU at q
    cases h with
    | p ha => exact hg n _ x ha q
  | .tup us, v, x, h, q => by
    unfold resU at q
    cases h with
    | tup gt r =>
      cases z : resUs g us with
      | none => rw [z] at q; cases q
      | some xs =>
        rw [z] at q
        have q := Option.some.inj q
        subst q
        exact .tup (same_g e gt) (Uvs.res hg e us r z)
theorem Uvs.res {g : Nat → Option D} (hg : ∀ n a x, al[n]? = some a → g n = some x → Dv K mg H (.ref a) x) (e : Same F H) : ∀ (us : List U) {vs : List V} {xs : List D}, Uvs K mg al F vs us → resUs g us = some xs → Dvs K mg H vs xs
  | [], vs, xs, h, q => by
    unfold resUs at q
    injection q with q
    subst q
    cases h
    exact .nil
  | u :: us, vs, xs, h, q => by
    unfold resUs at q
    cases h with
    | cons h r =>
      split at q
      · rename_i x ys hx hy
        injection q with q
        subst q
        exact .cons (Uv.res hg e u h hx) (Uvs.res hg e us r hy)
      · cases q
end
theorem Gh.pkN (G : Gh K mg R al F H cs) (e : Same F H) : ∀ (k n : Nat) (a : Addr) (x : D), al[n]? = some a → Orn.pkN cs k n = some x → Dv K mg H (.ref a) x
  | 0, n, a, x, _, q => by unfold Orn.pkN at q; cases q
  | k + 1, n, a, x, ha, q => by
    unfold Orn.pkN at q
    split at q
    · rename_i us hc
      obtain ⟨_, vs, h1, h2⟩ := G.cell n a _ ha hc
      cases z : resUs (Orn.pkN cs k) us with
      | none => rw [z] at q; cases q
      | some xs =>
        rw [z] at q
        have q := Option.some.inj q
        subst q
        exact .lst h1 (Uvs.res (fun n a x => G.pkN e k n a x) e us h2 z)
    · cases q
theorem StE.pk (S : StE K mg R al H0 σ H ev cs) {v : V} {u : U} {x : D} (h : Uv K mg al (fz R σ (bas ev) H) v u) (q : pkU cs u = some x) : Dv K mg H v x :=
  Uv.res (fun n a x => S.G.pkN hid_le 4 n a x) hid_le u h q
theorem lenU (S : StE K mg R al H0 σ H ev cs) : al.length = cs.length := S.G.len
end
section
variable {X : Cx} {W : L2.WX} {m ma mb : Md} {fa fb f : En → Rs D} {a b e o : Expr} {es : List Expr} {pos : Pos} {ga gb : FE} {gs : FEA} {ta tb : FET} {K : PySem.W.Frag} {mg : Str → Option Value}
/-- a data result at a later moment -/
theorem PostE.data {W : L2.WX} {R : Addr → Prop} {al : List Addr} {H0 : HZ} {σ : L2.St} {ev : Ev} {H : Hp} {Q : VK} {cs : Cs} (S : StE K mg R al H0 σ H ev cs) {r : Rs D} (q : PostE K mg W R al H0 σ ev H Q (bindE (liftR r cs) fun d c => .ok (.d d) c)) : Post K mg W R H0 σ (bas ev) .fz H Q r := by
  cases r with
  | ok d => exact fun v H' e' rl => q v H' R al (Tr.same e' S.alN) (S.up e') (.d rl)
  | exc x => exact fun cls dd H' e' xw => q cls dd H' R al (Tr.same e' S.alN) (S.up e') xw
  | bad => exact q
/-! ### comparisons, of what stands there now -/
def cmpE (g : D → D → Rs D) (ga gb : FE) : FE := fun ev cs => bindE (ga ev cs) fun ua c1 => bindE (gb ev c1) fun ub c2 => match pkU c2 ua, pkU c2 ub with
  | some x, some y => bindE (liftR (g x y) c2) fun d c => .ok (.d d) c
  | _, _ => .bad
theorem rd_cmpE {g : D → D → Rs D} {r : R2} (hg : Op2 K mg W .pk .pk .fz g r) {R : Addr → Prop} {al : List Addr} {H0 : HZ} {σ : L2.St} {ev : Ev} {H : Hp} {Q : VK} {cs : Cs} (S : StE K mg R al H0 σ H ev cs) (q : PostE K mg W R al H0 σ ev H Q (cmpE g ga gb ev cs)) :
    rdE K mg W ga σ H fun x H1 => rdE K mg W gb σ H1 fun y H2 => r x y H2 Q := by
  refine rdE_seq S q fun v u c1 H1 R1 al1 T1 S1 hu q1 => rdE_seq S1 q1 fun w u2 c2 H2 R2 al2 T2 S2 hu2 q2 => ?_
  split at q2
  · rename_i x y hx hy
    have hu' := hu.mono T2.pre (S1.frz T2)
    exact hg (Hs := H2) S2.S (S2.pk hu' hx) (S2.pk hu2 hy) (PostE.data S2 q2)
  · exact q2.elim
theorem px_cmp {op : CmpOp} {g : D → D → Rs D} {r : R2} (ho : OpR X (compareOp op) r) (hg : Op2 X.K X.mg W .pk .pk .fz g r) (ha : PX X W a ga) (hb : PX X W b gb) (hm : behindInMarks op b = false) :
    PX X W (.Compare a [op] [b] pos) (cmpE g ga gb) := pe_imp (pe_cmpR (pos := pos) ho ha hb hm) fun σ H Q ⟨R, al, H0, ev, cs, S, q⟩ => rd_cmpE hg S q
theorem px_eq {k : Nat} (hr : Rm k X.A) (ha : PX X W a ga) (hb : PX X W b gb) : PX X W (.Compare a [.Eq] [b] pos) (cmpE eqD ga gb) := px_cmp (opr_or op_eq (op_eqD hr.r.units)) op_eqDD ha hb (nomark _)
theorem px_ne {k : Nat} (hr : Rm k X.A) (ha : PX X W a ga) (hb : PX X W b gb) : PX X W (.Compare a [.NotEq] [b] pos) (cmpE neD ga gb) := px_cmp (opr_or op_ne (op_neD hr.r.units)) op_neDD ha hb (nomark _)
theorem px_inE {k : Nat} (hr : Rm k X.A) (ha : PX X W a ga) (hb : PX X W b gb) (hm : behindInMarks .In b = false := by rfl) : PX X W (.Compare a [.In] [b] pos) (cmpE inE ga gb) := px_cmp (op_inD (by have := hr.r.un; omega)) op_inED ha hb hm
/-- a comparison as a test -/
def cmpT (g : D → D → Rs D) (ga gb : FE) : FET := fun ev cs => bindE (cmpE g ga gb ev cs) fun u c => match u with
  | .d (.bl b) => .ok b c
  | _ => .bad
theorem pxt_cmp {op : CmpOp} {g : D → D → Rs D} {r : R2} (ho : OpR X (compareOp op) r) (hg : Op2 X.K X.mg W .pk .pk .fz g r) (ha : PX X W a ga) (hb : PX X W b gb) (hm : behindInMarks op b = false) :
    PXT X W (.Compare a [op] [b] pos) (cmpT g ga gb) := pt_imp (pt_cmpR (pos := pos) ho ha hb hm) fun σ H Q ⟨R, al, H0, ev, cs, S, q⟩ => by
  refine rd_cmpE hg S ?_
  unfold cmpT at q
  cases hq : cmpE g ga gb ev cs with
  | ok u c =>
    rw [hq] at q
    intro v H' R' al' T S' hu
    cases u with
    | d x =>
      cases x <;> try exact q.elim
      rename_i k
      cases hu with
      | d hv =>
        cases hv
        exact ⟨k, rfl, q H' R' al' T S'⟩
    | p n => exact q.elim
    | tup us => exact q.elim
  | exc x c => rw [hq] at q; exact q
  | bad => rw [hq] at q; exact q
theorem pxt_eq {k : Nat} (hr : Rm k X.A) (ha : PX X W a ga) (hb : PX X W b gb) : PXT X W (.Compare a [.Eq] [b] pos) (cmpT eqD ga gb) := pxt_cmp (opr_or op_eq (op_eqD hr.r.units)) op_eqDD ha hb (nomark _)
theorem pxt_ne {k : Nat} (hr : Rm k X.A) (ha : PX X W a ga) (hb : PX X W b gb) : PXT X W (.Compare a [.NotEq] [b] pos) (cmpT neD ga gb) := pxt_cmp (opr_or op_ne (op_neD hr.r.units)) op_neDD ha hb (nomark _)
/-- a value as a test (data that is a bool) -/
def tstE (ga : FE) : FET := fun ev cs => bindE (ga ev cs) fun u c => match u with
  | .d (.bl b) => .ok b c
  | _ => .bad
theorem pxt_v (ha : PX X W a ga) (he : ∀ whole, isTrue a X.env whole = (do let v ← whole; standAt a.pos; holding [v] (truthy v)) := by intro _; rfl) : PXT X W a (tstE ga) := pt_imp (pt_truth ha he) fun σ H Q ⟨R, al, H0, ev, cs, S, q⟩ => by
  refine rdE_seqT S q fun v u c H1 R1 al1 T S1 hu q1 => ?_
  cases u with
  | d x =>
    cases x <;> try exact q1.elim
    rename_i k
    cases hu with
    | d hv =>
      cases hv
      exact ⟨k, rfl, q1 H1 R1 al1 (Tr.same (Same.refl _) S1.alN) S1⟩
  | p n => exact q1.elim
  | tup us => exact q1.elim
def notE (ta : FET) : FET := fun ev cs => bindE (ta ev cs) fun b c => .ok (!b) c
theorem pxt_not (ha : PXT X W a ta) : PXT X W (.UnaryOp .Not a pos) (notE ta) := pt_imp (pt_not (pos := pos) ha) fun σ H Q ⟨R, al, H0, ev, cs, S, q⟩ =>
  rdET_seqT S q fun b c H1 R1 al1 T S1 q1 => q1 H1 R1 al1 (Tr.same (Same.refl _) S1.alN) S1
def andE (ta tb : FET) : FET := fun ev cs => bindE (ta ev cs) fun b c => if b = true then tb ev c else .ok false c
def orE (ta tb : FET) : FET := fun ev cs => bindE (ta ev cs) fun b c => if b = true then .ok true c else tb ev c
theorem pxw_and1 (ha : PXT X W a ta) : PXW X W (.BoolOp .And [a] pos) ta := pw_and1 ha
theorem pxw_or1 (ha : PXT X W a ta) : PXW X W (.BoolOp .Or [a] pos) ta := pw_or1 ha
theorem pxw_and {rest : List Expr} (ha : PXT X W a ta) (hb : PXW X W (.BoolOp .And (b :: rest) pos) tb) : PXW X W (.BoolOp .And (a :: b :: rest) pos) (andE ta tb) := pw_imp (pw_and (pos := pos) ha hb) fun σ H Q ⟨R, al, H0, ev, cs, S, q⟩ =>
  rdET_seqT S q fun k c H1 R1 al1 T S1 q1 => by
    cases k with
    | true => exact ⟨R1, al1, H0, ev, c, S1, q1⟩
    | false => exact q1 H1 R1 al1 (Tr.same (Same.refl _) S1.alN) S1
theorem pxw_or {rest : List Expr} (ha : PXT X W a ta) (hb : PXW X W (.BoolOp .Or (b :: rest) pos) tb) : PXW X W (.BoolOp .Or (a :: b :: rest) pos) (orE ta tb) := pw_imp (pw_or (pos := pos) ha hb) fun σ H Q ⟨R, al, H0, ev, cs, S, q⟩ =>
  rdET_seqT S q fun k c H1 R1 al1 T S1 q1 => by
    cases k with
    | true => exact q1 H1 R1 al1 (Tr.same (Same.refl _) S1.alN) S1
    | false => exact ⟨R1, al1, H0, ev, c, S1, q1⟩
theorem pxt_w (h : PXW X W a ta) : PXT X W a ta := PW.pt h
/-! ### items, fields -/
def atU (us : List U) (i : Int) (c : Cs) : Re U := match atI us i with
  | some u => .ok u c
  | none => .bad
def idxE (ga gb : FE) : FE := fun ev cs => bindE (ga ev cs) fun ua c1 => bindE (gb ev c1) fun ub c2 => match ub with
  | .d (.int i) => match ua with
    | .tup us => atU us i c2
    | .p n => match c2[n]? with
      | some (.lst us) => atU us i c2
      | _ => .bad
    | .d x => bindE (liftR (idxD x (.int i)) c2) fun d c => .ok (.d d) c
  | _ => .bad
theorem atI_uvs {al : List Addr} {F : Hp} {vs : List V} {us : List U} {i : Int} {u : U} (h : Uvs K mg al F vs us) (e : atI us i = some u) : ∃ v, atI vs i = some v ∧ Uv K mg al F v u := by
  unfold atI at e ⊢
  rw [h.len]
  cases q : ixN us.length i with
  | none => rw [q] at e; simp at e
  | some j =>
    rw [q] at e
    exact h.get e
theorem px_idx (ha : PX X W a ga) (hb : PX X W b gb) (hs : PlainIx b := by exact (fun _ _ => rfl)) : PX X W (.Subscript a b pos) (idxE ga gb) := pe_imp (pe_ix (pos := pos) ix_seq ha hb hs) fun σ H Q ⟨R, al, H0, ev, cs, S, q⟩ => by
  refine rdE_seq S q fun v u c1 H1 R1 al1 T1 S1 hu q1 => rdE_seq S1 q1 fun w u2 c2 H2 R2 al2 T2 S2 hu2 q2 => ?_
  replace hu := hu.mono T2.pre (S1.frz T2)
  split at q2
  · rename_i i
    cases hu2 with
    | d hv =>
      cases hv
      split at q2
      · rename_i us
        cases hu with
        | tup gt r =>
          unfold atU at q2
          split at q2
          · rename_i x hx
            obtain ⟨y, hy1, hy2⟩ := atI_uvs r hx
            exact .inr (.inl ⟨_, _, i, y, rfl, rfl, same_t hid_le gt, hy1, q2 y H2 R2 al2 (Tr.same (Same.refl _) S2.alN) S2 hy2⟩)
          · exact q2.elim
      · rename_i n
        split at q2
        · rename_i us hc
          cases hu with
          | p ha =>
            obtain ⟨_, vs, h1, h2⟩ := S2.G.cell n _ _ ha hc
            unfold atU at q2
            split at q2
            · rename_i x hx
              obtain ⟨y, hy1, hy2⟩ := atI_uvs h2 hx
              exact .inl ⟨_, vs, i, y, rfl, rfl, .inl (.inl h1), hy1, q2 y H2 R2 al2 (Tr.same (Same.refl _) S2.alN) S2 hy2⟩
            · exact q2.elim
        · exact q2.elim
      · rename_i x
        cases hu with
        | d hx => exact op_idxD (ma := .fz) (mb := .fz) (W := W) (by decide) (Hs := H2) S2.S hx (Dv.int i) (PostE.data S2 q2)
  · exact q2.elim
def fldE (c f : Str) (ga : FE) : FE := fun ev cs => bindE (ga ev cs) fun u c1 => match u with
  | .p n => match c1[n]? with
    | some (.ins c' fs) => if c' = c then (match fs.lookup f with
      | some x => .ok x c1
      | none => .bad) else .bad
    | _ => .bad
  | _ => .bad
theorem px_fld {c f : Str} (hC : ∀ C, X.mg c = some (.ref C) → Cls X.K C ∧ NoAttr X.K C f) (ha : PX X W a ga) (hb : attributeBase a f X.env (eval a X.env) = eval a X.env := by rfl) : PX X W (.Attribute a f pos) (fldE c f ga) :=
  pe_imp (pe_fld ha hb) fun σ H Q ⟨R, al, H0, ev, cs, S, q⟩ => rdE_seq S q fun v u c1 H1 R1 al1 T1 S1 hu q1 => by
  split at q1
  · rename_i n
    split at q1
    · rename_i c' fs hc
      split at q1
      · rename_i e1
        subst e1
        split at q1
        · rename_i x hx
          cases hu with
          | p ha =>
            obtain ⟨_, C, dx, vs, h1, h2, h3⟩ := S1.G.cell n _ _ ha hc
            obtain ⟨y, hy1, hy2⟩ := h3.look hx
            obtain ⟨k1, k2⟩ := hC C h2
            exact ⟨_, C, dx, vs, y, rfl, h1, k1, k2, hy1, q1 y H1 R1 al1 (Tr.same (Same.refl _) S1.alN) S1 hy2⟩
        · exact q1.elim
      · exact q1.elim
    · exact q1.elim
  · exact q1.elim
/-! ### argument lists, displays -/
def nilEA : FEA := fun _ cs => .ok [] cs
def consEA (ga : FE) (gs : FEA) : FEA := fun ev cs => bindE (ga ev cs) fun u c => bindE (gs ev c) fun us c2 => .ok (u :: us) c2
theorem pxa_nil : PXA X W [] nilEA := pa_imp pa_nil fun σ H Q ⟨R, al, H0, ev, cs, S, q⟩ => q [] H R al (Tr.same (Same.refl _) S.alN) S .nil
theorem pxa_cons {es : List Expr} {gs : FEA} (ha : PX X W a ga) (hs : PXA X W es gs) (he : starEach (a :: es) X.env = (false, eval a X.env) :: starEach es X.env := by rfl) : PXA X W (a :: es) (consEA ga gs) :=
  pa_imp (pa_cons ha hs he) fun σ H Q ⟨R, al, H0, ev, cs, S, q⟩ => rdE_seqA S q fun v u c1 H1 R1 al1 T1 S1 hu q1 => rdEA_seqA S1 q1 fun vs us c2 H2 R2 al2 T2 S2 hus q2 =>
    q2 (v :: vs) H2 R2 al2 (Tr.same (Same.refl _) S2.alN) S2 (.cons (hu.mono T2.pre (S1.frz T2)) hus)
def lstE (gs : FEA) : FE := fun ev cs => bindE (gs ev cs) fun us c => if us.length ≤ SL then .ok (.p c.length) (c ++ [.lst us]) else .bad
theorem px_lst (h : PXA X W es gs) : PX X W (.List es pos) (lstE gs) := pe_imp (pe_lst (pos := pos) h) fun σ H Q ⟨R, al, H0, ev, cs, S, q⟩ => rdEA_seq S q fun vs us c1 H1 R1 al1 T1 S1 hus q1 => by
  split at q1
  · rename_i hl
    refine ⟨sl_of (by rw [hus.len]; exact hl), fun p hp => ?_⟩
    obtain ⟨T, S'⟩ := S1.alloc (o := .lst vs) (c := .lst us) hp fun F' e => ⟨vs, upd_same, hus.mono (List.prefix_append _ _) e⟩
    exact q1 (.ref p) _ _ _ T S' (.p (by rw [← S1.G.len, List.getElem?_append_right (Nat.le_refl _)]; simp))
  · exact q1.elim
end
end Orn

set_option linter.all false
set_option maxRecDepth 100000
set_option maxHeartbeats 4000000
namespace Orn
open L2 PySem PySem.Spec PyProof.Rows
/-! ### defs with cells -/
def spE (K : PySem.W.Frag) (mg : Str → Option Value) (n : Nat) (g : List U → Cs → Re U) : Sp := fun vs H Q E => ∃ (R : Addr → Prop) (al : List Addr) (us : List U) (cs : Cs), vs.length = n ∧ (∀ a, R a → H a ≠ none) ∧ Gh K mg R al (hid R H) H cs ∧ Uvs K mg al (hid R H) vs us ∧ match g us cs with
  | .ok u cs' => ∀ v H' R' al', Tr R al H R' al' H' → Gh K mg R' al' (hid R' H') H' cs' → Uv K mg al' (hid R' H') v u → Q v H'
  | .exc e cs' => ∀ cls dd H' R' al', Tr R al H R' al' H' → Gh K mg R' al' (hid R' H') H' cs' → XW K mg R' e cls dd H' → E cls dd H'
  | .bad => False
structure Dx (P : Program) (w : World) (K : PySem.W.Frag) (mg : Str → Option Value) (base : Heap) (k : Nat) (x : Str) (n : Nat) (g : List U → Cs → Re U) : Prop where
  ex : ∃ f fd ps, FnG P w K mg base k f fd ps (spE K mg n g) ∧ mg x = some (.ref f) ∧ PySem.W.keepIn K (.ref f) = true ∧ Binds K fd ps []
section
variable {K : PySem.W.Frag} {mg : Str → Option Value} {W : L2.WX} {R R' R2 : Addr → Prop} {al al' al2 : List Addr} {H0 : HZ} {F F' H H' H1 H2 : Hp} {cs cs' : Cs} {σ : L2.St} {ev : Ev}
/-- a call from a frame -/
theorem StE.callee (S : StE K mg R al H0 σ H ev cs) : (∀ a, Ro R σ (bas ev) a → H a ≠ none) ∧ Gh K mg (Ro R σ (bas ev)) al (hid (Ro R σ (bas ev)) H) H cs :=
  ⟨fun a h => S.S.resH h, S.G.reR fun a h => .inl h⟩
theorem StE.back (S : StE K mg R al H0 σ H ev cs) (T : Tr (Ro R σ (bas ev)) al H R' al' H') (G : Gh K mg R' al' (hid R' H') H' cs') :
    Tr R al H (fun a => R a ∨ a ∈ al') al' H' ∧ StE K mg (fun a => R a ∨ a ∈ al') al' H0 σ H' ev cs' ∧ fz (fun a => R a ∨ a ∈ al') σ (bas ev) H' = hid R' H' ∧ (∀ a, R' a → Ro (fun a => R a ∨ a ∈ al') σ (bas ev) a) := by
  have T2 : Tr R al H (fun a => R a ∨ a ∈ al') al' H' := ⟨T.pre, fun a h => .inl h, fun a h => h, T.keep, T.new, T.stay⟩
  have sets : ∀ a, R' a ↔ ((R a ∨ a ∈ al') ∨ own σ (bas ev) a) := fun a => by
    constructor
    · intro h
      rcases T.rn a h with (h | h) | h
      · exact .inl (.inl h)
      · exact .inr h
      · exact .inl (.inr h)
    · rintro ((h | h) | h)
      · exact T.rr a (.inl h)
      · exact G.inR h
      · exact T.rr a (.inr h)
  have ef : fz (fun a => R a ∨ a ∈ al') σ (bas ev) H' = hid R' H' := by
    unfold fz
    congr 1
    funext a
    exact propext (sets a).symm
  refine ⟨T2, S.tr T2 ⟨G.len, G.nd, fun n a c h1 h2 => ⟨.inr (List.mem_of_getElem? h1), ?_⟩⟩, ef, fun a h => (sets a).mp h⟩
  rw [ef]
  exact (G.cell n a c h1 h2).2
end
def callE (g : List U → Cs → Re U) (gs : FEA) : FE := fun ev cs => bindE (gs ev cs) g
theorem XW.sub' {K : PySem.W.Frag} {mg : Str → Option Value} {R R' : Addr → Prop} {e : Exn} {cls : Value} {dd : Option Addr} {H' : Hp} (s : ∀ a, R' a → R a) (s2 : ∀ a, R a → R' a) (h : XW K mg R e cls dd H') : XW K mg R' e cls dd H' := h.sub s
section
variable {X : Cx} {W : L2.WX} {a b e o : Expr} {es : List Expr} {pos apos : Pos} {ga gb go : FE} {gs : FEA} {K : PySem.W.Frag} {mg : Str → Option Value}
theorem spE_of {n : Nat} {g : List U → Cs → Re U} {R : Addr → Prop} {al : List Addr} {H0 : HZ} {H : Hp} {σ : L2.St} {ev : Ev} {cs : Cs} {Q : VK} {vs : List V} {us : List U} (S : StE K mg R al H0 σ H ev cs) (hu : Uvs K mg al (fz R σ (bas ev) H) vs us) (hn : us.length = n)
    (q : PostE K mg W R al H0 σ ev H Q (g us cs)) : spE K mg n g vs H Q (WE W σ) := by
  obtain ⟨h1, h2⟩ := S.callee
  refine ⟨Ro R σ (bas ev), al, us, cs, by rw [hu.len]; exact hn, h1, h2, hu, ?_⟩
  cases eg : g us cs with
  | ok u c =>
    rw [eg] at q
    intro v H' R' al' T G hv
    obtain ⟨T2, S2, ef, _⟩ := S.back T G
    exact q v H' _ al' T2 S2 (by rw [ef]; exact hv)
  | exc x c =>
    rw [eg] at q
    intro cls dd H' R' al' T G xw
    obtain ⟨T2, S2, ef, sr⟩ := S.back T G
    refine q cls dd H' _ al' T2 S2 (xw.sub fun a h => ?_)
    rcases h with (h | h) | h
    · exact T.rr a (.inl h)
    · exact G.inR h
    · exact T.rr a (.inr h)
  | bad => rw [eg] at q; exact q
theorem px_call {k n : Nat} {g : List U → Cs → Re U} {x : Str} {p : Pos} (F : Dx X.prog X.w X.K X.mg X.base k x n g) (hr : Rm k X.A) (gl : Gl X x) (tk : Takes X W) (hs : PXA X W (e :: es) gs) (hn : ∀ ev cs us c, gs ev cs = .ok us c → us.length = n)
    (hdb : (x == ("__debug__" : Str)) = false := by decide) (he : starEach (e :: es) X.env = (false, eval e X.env) :: starEach es X.env := by rfl) (hpl : (backTo pos (starEach es X.env)).any (·.1) = false := by rfl) :
    PX X W (.Call (.Name x p) (e :: es) [] pos) (callE g gs) := by
  obtain ⟨f, fd, ps, F, hm, hk, hb⟩ := F.ex
  refine pe_imp (pe_callG (p := p) (pos := pos) F hr gl hm hk hb tk hs hdb he hpl) fun σ H Q ⟨R, al, H0, ev, cs, S, q⟩ => ?_
  refine ⟨R, al, H0, ev, cs, S, ?_⟩
  unfold callE at q
  cases ea : gs ev cs with
  | exc x c => rw [ea] at q; exact q
  | bad => rw [ea] at q; exact q
  | ok us c =>
    rw [ea] at q
    intro vs H1 R1 al1 T S1 hu
    exact spE_of S1 hu (hn _ _ _ _ ea) (PostE.up T q)
/-- o.m(..) -/
def tMethG (C : Addr) (m : Str) (sp : Sp) (E : L2.St → XK) (ta : TE) (t : TA) : TE := fun σ H Q => ta σ H fun x H1 => ∃ a dx fs, x = .ref a ∧ H1 a = some (.ins C dx fs) ∧ fs.lookup m = none ∧ t σ H1 fun vs H2 => sp (x :: vs) H2 Q (E σ)
theorem pe_methG {pl : Sem Bool} {k : Nat} {C f : Addr} {fd : FuncData} {ps : List Str} {sp : Sp} {m : Str} {ta : TE} {t : TA} (he : PE X o ta) (c : Cls X.K C) (hm : Meth X.K C m f) (F : FnG X.prog X.w X.K X.mg X.base k f fd ps sp) (hr : Rm k X.A) (hb : Binds X.K fd ps []) (tk : Takes X W) (ha : PA X (e :: es) t)
    (hst : starEach (e :: es) X.env = (false, eval e X.env) :: starEach es X.env := by rfl) (hpl : (backTo pos (starEach es X.env)).any (·.1) = false := by rfl)
    (ht : eval (.Call (.Attribute o m apos) (e :: es) [] pos) X.env = (do
      let ov ← eval o X.env
      standAt apos.atName
      let (f, first) ← holding [ov] (getMethod ov m pl)
      callWith pos f first (backTo pos (starEach (e :: es) X.env)) (backToKw pos (keywordEach [] X.env))) := by rfl) :
    PE X (.Call (.Attribute o m apos) (e :: es) [] pos) (tMethG C m sp (WE W) ta t) := by
  refine ⟨fun pins s σ H Q I h => ?_⟩
  refine PySem.W.methodCall_KW (pl := pl) (thn (he.run pins s σ H _ I h) fun u s1 ⟨x, H1, I1, rx, a, dx, fs, ex, ea, l, q⟩ => ?_) ht
  subst ex
  obtain rfl : u = Value.ref a := rx
  refine getmeth_ok I1 ea c hm l ?_
  refine PySem.W.callWith_K (first := [.ref a]) (h₀ := X.base) I.ok.mod.kin hm.kp (thn (ha.run pos pins s1 σ H1 _ I1 q) fun us s2 ⟨vs, H2, I2, r, q2⟩ => ⟨I2.kIn, ?_⟩) hst hpl
  exact run_G (us := .ref a :: us) (vs := .ref a :: vs) F hr hb tk I2 (.cons rfl r) q2
theorem pe_methG0 {pl : Sem Bool} {k : Nat} {C f : Addr} {fd : FuncData} {ps : List Str} {sp : Sp} {m : Str} {ta : TE} (he : PE X o ta) (c : Cls X.K C) (hm : Meth X.K C m f) (F : FnG X.prog X.w X.K X.mg X.base k f fd ps sp) (hr : Rm k X.A) (hb : Binds X.K fd ps []) (tk : Takes X W)
    (ht : eval (.Call (.Attribute o m apos) [] [] pos) X.env = (do
      let ov ← eval o X.env
      standAt apos.atName
      let (f, first) ← holding [ov] (getMethod ov m pl)
      callWith pos f first (backTo pos (starEach [] X.env)) (backToKw pos (keywordEach [] X.env))) := by rfl) :
    PE X (.Call (.Attribute o m apos) [] [] pos) (tMethG C m sp (WE W) ta tNil) := by
  refine ⟨fun pins s σ H Q I h => ?_⟩
  refine PySem.W.methodCall_KW (pl := pl) (thn (he.run pins s σ H _ I h) fun u s1 ⟨x, H1, I1, rx, a, dx, fs, ex, ea, l, q⟩ => ?_) ht
  subst ex
  obtain rfl : u = Value.ref a := rx
  refine getmeth_ok I1 ea c hm l ?_
  refine PySem.W.callWith_K0 (first := [.ref a]) I1.kIn hm.kp ?_
  exact run_G (us := [.ref a]) (vs := [.ref a]) F hr hb tk I1 (.cons rfl .nil) q
/-- «m is a method of the class c» -/
structure Mx (P : Program) (w : World) (K : PySem.W.Frag) (mg : Str → Option Value) (base : Heap) (k : Nat) (c m : Str) (n : Nat) (g : List U → Cs → Re U) : Prop where
  ex : ∃ C f fd ps, mg c = some (.ref C) ∧ Cls K C ∧ Meth K C m f ∧ FnG P w K mg base k f fd ps (spE K mg n g) ∧ Binds K fd ps []
def methE (c m : Str) (g : List U → Cs → Re U) (go : FE) (gs : FEA) : FE := fun ev cs => bindE (go ev cs) fun u c1 => match u with
  | .p j => match c1[j]? with
    | some (.ins c' fs) => if c' = c ∧ fs.lookup m = none then bindE (gs ev c1) fun us c2 => g (.p j :: us) c2 else .bad
    | _ => .bad
  | _ => .bad
theorem Ufs.none {K : PySem.W.Frag} {mg : Str → Option Value} {al : List Addr} {F : Hp} {f : Str} : ∀ {vs : List (Str × V)} {fs : List (Str × U)}, Ufs K mg al F vs fs → fs.lookup f = none → vs.lookup f = none
  | _, _, .nil, _ => rfl
  | _, _, .cons (f := g) h r, e => by
    rw [List.lookup_cons] at e ⊢
    by_cases q : (f == g) = true
    · simp only [q] at e; cases e
    · simp only [Bool.not_eq_true] at q
      simp only [q] at e ⊢
      exact Ufs.none r e
theorem px_meth {pl : Sem Bool} {k n : Nat} {c m : Str} {g : List U → Cs → Re U} (M : Mx X.prog X.w X.K X.mg X.base k c m (n + 1) g) (hr : Rm k X.A) (tk : Takes X W) (ho : PX X W o go) (hs : PXA X W (e :: es) gs) (hn : ∀ ev cs us c, gs ev cs = .ok us c → us.length = n)
    (hst : starEach (e :: es) X.env = (false, eval e X.env) :: starEach es X.env := by rfl) (hpl : (backTo pos (starEach es X.env)).any (·.1) = false := by rfl)
    (ht : eval (.Call (.Attribute o m apos) (e :: es) [] pos) X.env = (do
      let ov ← eval o X.env
      standAt apos.atName
      let (f, first) ← holding [ov] (getMethod ov m pl)
      callWith pos f first (backTo pos (starEach (e :: es) X.env)) (backToKw pos (keywordEach [] X.env))) := by rfl) :
    PX X W (.Call (.Attribute o m apos) (e :: es) [] pos) (methE c m g go gs) := by
  obtain ⟨C, f, fd, ps, hC, cl, mt, F, hb⟩ := M.ex
  refine pe_imp (pe_methG (pl := pl) (pos := pos) (apos := apos) ho cl mt F hr hb tk hs hst hpl ht) fun σ H Q ⟨R, al, H0, ev, cs, S, q⟩ => ?_
  refine rdE_seq S q fun v u c1 H1 R1 al1 T1 S1 hu q1 => ?_
  split at q1
  · rename_i j
    split at q1
    · rename_i c' fs hc
      split at q1
      · rename_i hcc
        obtain ⟨rfl, hl⟩ := hcc
        cases hu with
        | p ha =>
          obtain ⟨_, C', dx, vs, h1, h2, h3⟩ := S1.G.cell j _ _ ha hc
          rw [hC] at h2
          injection h2 with h2
          injection h2 with h2
          subst h2
          refine ⟨_, dx, vs, rfl, h1, h3.none hl, R1, al1, H0, ev, c1, S1, ?_⟩
          cases ea : gs ev c1 with
          | exc x c => rw [ea] at q1; exact q1
          | bad => rw [ea] at q1; exact q1
          | ok us c =>
            rw [ea] at q1
            intro vs2 H2 R2 al2 T S2 hu2
            exact spE_of S2 (.cons (.p (pre_at T.pre ha)) hu2) (by rw [List.length_cons, hn _ _ _ _ ea]) (PostE.up T q1)
      · exact q1.elim
    · exact q1.elim
  · exact q1.elim
theorem px_meth0 {pl : Sem Bool} {k : Nat} {c m : Str} {g : List U → Cs → Re U} (M : Mx X.prog X.w X.K X.mg X.base k c m 1 g) (hr : Rm k X.A) (tk : Takes X W) (ho : PX X W o go)
    (ht : eval (.Call (.Attribute o m apos) [] [] pos) X.env = (do
      let ov ← eval o X.env
      standAt apos.atName
      let (f, first) ← holding [ov] (getMethod ov m pl)
      callWith pos f first (backTo pos (starEach [] X.env)) (backToKw pos (keywordEach [] X.env))) := by rfl) :
    PX X W (.Call (.Attribute o m apos) [] [] pos) (methE c m g go nilEA) := by
  obtain ⟨C, f, fd, ps, hC, cl, mt, F, hb⟩ := M.ex
  refine pe_imp (pe_methG0 (pl := pl) (pos := pos) (apos := apos) ho cl mt F hr hb tk ht) fun σ H Q ⟨R, al, H0, ev, cs, S, q⟩ => ?_
  refine rdE_seq S q fun v u c1 H1 R1 al1 T1 S1 hu q1 => ?_
  split at q1
  · rename_i j
    split at q1
    · rename_i c' fs hc
      split at q1
      · rename_i hcc
        obtain ⟨rfl, hl⟩ := hcc
        cases hu with
        | p ha =>
          obtain ⟨_, C', dx, vs, h1, h2, h3⟩ := S1.G.cell j _ _ ha hc
          rw [hC] at h2
          injection h2 with h2
          injection h2 with h2
          subst h2
          exact ⟨_, dx, vs, rfl, h1, h3.none hl, spE_of S1 (.cons (.p ha) .nil) rfl q1⟩
      · exact q1.elim
    · exact q1.elim
  · exact q1.elim
end
theorem nilEA_len : ∀ ev cs us c, nilEA ev cs = Re.ok us c → us.length = 0 := fun ev cs us c h => by
  unfold nilEA at h
  injection h with h
  rw [← h]
  rfl
theorem consEA_len {ga : FE} {gs : FEA} {n : Nat} (h : ∀ ev cs us c, gs ev cs = Re.ok us c → us.length = n) : ∀ ev cs us c, consEA ga gs ev cs = Re.ok us c → us.length = n + 1 := fun ev cs us c q => by
  unfold consEA at q
  cases e1 : ga ev cs with
  | exc z c => rw [e1] at q; cases q
  | bad => rw [e1] at q; cases q
  | ok u c1 =>
    rw [e1] at q
    cases e2 : gs ev c1 with
    | exc z c => simp only [bindE, e2] at q; cases q
    | bad => simp only [bindE, e2] at q; cases q
    | ok us' c2 =>
      simp only [bindE, e2] at q
      injection q with q
      rw [← q, List.length_cons, h ev c1 us' c2 e2]
end Orn

set_option linter.all false
set_option maxRecDepth 100000
set_option maxHeartbeats 4000000
namespace Orn
open L2 PySem PySem.Spec PyProof.Rows
inductive FlE where
  | next (ev : Ev) (cs : Cs) | ret (u : U) (cs : Cs) | raise (e : Exn) (ev : Ev) (cs : Cs) | bad
abbrev GE := Ev → Cs → FlE
/-- what is wanted behind a statement; R0, al0, He: the def's entry; als, Fs: the statement's start -/
def PostSE (K : PySem.W.Frag) (mg : Str → Option Value) (W : L2.WX) (R0 : Addr → Prop) (al0 : List Addr) (He : Hp) (H0 : HZ) (als : List Addr) (Fs : Hp) (Dd : Ends) : FlE → Prop
  | .next ev cs => ∀ R al σ H, Tr R0 al0 He R al H → als <+: al → Same Fs (fz R σ (bas ev) H) → StE K mg R al H0 σ H ev cs → Dd.nx σ H
  | .ret u cs => ∀ v R al H F, Tr R0 al0 He R al H → Gh K mg R al F H cs → Same F (hid R H) → Uv K mg al F v u → Dd.rt v H
  | .raise e ev cs => ∀ cls dd R al σ H, Tr R0 al0 He R al H → StE K mg R al H0 σ H ev cs → XW K mg (Ro R σ (bas ev)) e cls dd H → W cls dd σ H
  | .bad => False
section
variable {K : PySem.W.Frag} {mg : Str → Option Value} {W : L2.WX} {R0 R R' : Addr → Prop} {al0 als al al' : List Addr} {He Fs F' : Hp} {H0 : HZ} {Dd : Ends}
theorem PostSE.up {r : FlE} (p : als <+: al') (e : Same Fs F') (q : PostSE K mg W R0 al0 He H0 als Fs Dd r) : PostSE K mg W R0 al0 He H0 al' F' Dd r := by
  cases r with
  | next ev cs => exact fun R al σ H T pa f S => q R al σ H T (p.trans pa) (e.trans f) S
  | ret u cs => exact q
  | raise x ev cs => exact q
  | bad => exact q
end
def rdSE (K : PySem.W.Frag) (mg : Str → Option Value) (W : L2.WX) (g : GE) : TS := fun Dd σ H => ∃ R0 al0 He R al H0 ev cs, Tr R0 al0 He R al H ∧ StE K mg R al H0 σ H ev cs ∧ PostSE K mg W R0 al0 He H0 al (fz R σ (bas ev) H) Dd (g ev cs)
abbrev PXS (X : Cx) (W : L2.WX) (s : Stmt) (g : GE) : Prop := PS X s (rdSE X.K X.mg W g)
abbrev PXB (X : Cx) (W : L2.WX) (s : List Stmt) (g : GE) : Prop := PSs X s (rdSE X.K X.mg W g)
def seqE (g1 g2 : GE) : GE := fun ev cs => match g1 ev cs with
  | .next ev' cs' => g2 ev' cs'
  | r => r
def nilE : GE := fun ev cs => .next ev cs
section
variable {X : Cx} {W : L2.WX} {a b e o : Expr} {s : Stmt} {ss : List Stmt} {pos apos : Pos} {g g1 g2 : GE} {f fo fi : FE} {gs : FEA} {t : FET} {K : PySem.W.Frag} {mg : Str → Option Value}
theorem pxb_nil : PXB X W [] nilE := pss_imp pss_nil fun Dd σ H ⟨R0, al0, He, R, al, H0, ev, cs, T, S, q⟩ => q R al σ H T (List.prefix_refl _) (Same.refl _) S
theorem pxb_cons (h1 : PXS X W s g1) (h2 : PXB X W ss g2) : PXB X W (s :: ss) (seqE g1 g2) := pss_imp (pss_cons h1 h2) fun Dd σ H ⟨R0, al0, He, R, al, H0, ev, cs, T, S, q⟩ => by
  refine ⟨R0, al0, He, R, al, H0, ev, cs, T, S, ?_⟩
  unfold seqE at q
  cases ea : g1 ev cs with
  | next ev' cs' =>
    rw [ea] at q
    exact fun R' al' σ' H' T' p f S' => ⟨R0, al0, He, R', al', H0, ev', cs', T', S', q.up p f⟩
  | ret u c => rw [ea] at q; exact q
  | raise x ev' c => rw [ea] at q; exact q
  | bad => rw [ea] at q; exact q
theorem pxb_one (h1 : PXS X W s g1) : PXB X W [s] g1 := pss_imp (pss_one h1) fun Dd σ H q => q
def withX (f : FE) (k : U → GE) : GE := fun ev cs => match f ev cs with
  | .ok u c => k u ev c
  | .exc e c => .raise e ev c
  | .bad => .bad
def withT (f : FET) (k : Bool → GE) : GE := fun ev cs => match f ev cs with
  | .ok u c => k u ev c
  | .exc e c => .raise e ev c
  | .bad => .bad
theorem rdE_with {R0 R : Addr → Prop} {al0 al als : List Addr} {He H Fs : Hp} {H0 : HZ} {σ : L2.St} {ev : Ev} {cs : Cs} {Dd : Ends} {k : U → GE} {r : V → Hp → Prop} (T : Tr R0 al0 He R al H) (S : StE K mg R al H0 σ H ev cs) (hp : als <+: al) (hF : Same Fs (fz R σ (bas ev) H)) (q : PostSE K mg W R0 al0 He H0 als Fs Dd (withX f k ev cs))
    (h : ∀ v u c H1 R1 al1, Tr R al H R1 al1 H1 → Tr R0 al0 He R1 al1 H1 → StE K mg R1 al1 H0 σ H1 ev c → Uv K mg al1 (fz R1 σ (bas ev) H1) v u → PostSE K mg W R0 al0 He H0 al1 (fz R1 σ (bas ev) H1) Dd (k u ev c) → r v H1) : rdE K mg W f σ H r := by
  refine ⟨R, al, H0, ev, cs, S, ?_⟩
  unfold withX at q
  cases ef : f ev cs with
  | ok u c =>
    rw [ef] at q
    exact fun v H1 R1 al1 T1 S1 hu => h v u c H1 R1 al1 T1 (T.trans T1) S1 hu (q.up (hp.trans T1.pre) (hF.trans (S.frz T1)))
  | exc x c =>
    rw [ef] at q
    exact fun cls dd H1 R1 al1 T1 S1 xw => q cls dd R1 al1 σ H1 (T.trans T1) S1 xw
  | bad => rw [ef] at q; exact q
theorem rdET_with {R0 R : Addr → Prop} {al0 al als : List Addr} {He H Fs : Hp} {H0 : HZ} {σ : L2.St} {ev : Ev} {cs : Cs} {Dd : Ends} {k : Bool → GE} {r : Bool → Hp → Prop} (T : Tr R0 al0 He R al H) (S : StE K mg R al H0 σ H ev cs) (hp : als <+: al) (hF : Same Fs (fz R σ (bas ev) H)) (q : PostSE K mg W R0 al0 He H0 als Fs Dd (withT t k ev cs))
    (h : ∀ b c H1 R1 al1, Tr R al H R1 al1 H1 → Tr R0 al0 He R1 al1 H1 → StE K mg R1 al1 H0 σ H1 ev c → PostSE K mg W R0 al0 He H0 al1 (fz R1 σ (bas ev) H1) Dd (k b ev c) → r b H1) : rdET K mg W t σ H r := by
  refine ⟨R, al, H0, ev, cs, S, ?_⟩
  unfold withT at q
  cases ef : t ev cs with
  | ok u c =>
    rw [ef] at q
    exact fun H1 R1 al1 T1 S1 => h u c H1 R1 al1 T1 (T.trans T1) S1 (q.up (hp.trans T1.pre) (hF.trans (S.frz T1)))
  | exc x c =>
    rw [ef] at q
    exact fun cls dd H1 R1 al1 T1 S1 xw => q cls dd R1 al1 σ H1 (T.trans T1) S1 xw
  | bad => rw [ef] at q; exact q
/-! ### slots -/
def loU : U → Lo
  | .d x => .d x
  | u => .u u
theorem own_setN {σ : L2.St} {env : En} {i : Nat} {w : Option V} {p : Addr} (h : own (σ.set i w) (env.set i none) p) : own σ env p := by
  obtain ⟨j, xs, h1, h2⟩ := h
  have e : i ≠ j := fun e => by
    subst e
    exact set_none_at _ h1
  rw [List.getElem?_set_ne e] at h1 h2
  exact ⟨j, xs, h1, h2⟩
theorem fz_setN {R : Addr → Prop} {H : Hp} {σ : L2.St} {env : En} {i : Nat} {w : Option V} : Same (fz R σ env H) (fz R (σ.set i w) (env.set i none) H) := hid_sub fun a h => h.imp id own_setN
theorem StR.setN {R : Addr → Prop} {H0 : HZ} {H : Hp} {σ : L2.St} {env : En} {i : Nat} {w : Option V} (S : StR K mg R H0 σ H env) : StR K mg R H0 (σ.set i w) H (env.set i none) := by
  refine ⟨S.ex, S.res, fun p h => S.dis p (own_setN h), one_set S.one (fun t z => by cases z), fun p h => S.new p (own_setN h), fun j k xs ys p h1 h2 h3 h4 => ?_, fun j t h => ?_, by rw [List.length_set, List.length_set]; exact S.len⟩
  · have e1 : i ≠ j := fun e => by subst e; exact set_none_at _ h1
    have e2 : i ≠ k := fun e => by subst e; exact set_none_at _ h2
    rw [List.getElem?_set_ne e1] at h1 h3
    rw [List.getElem?_set_ne e2] at h2 h4
    exact S.inj j k xs ys p h1 h2 h3 h4
  · have e1 : i ≠ j := fun e => by subst e; exact set_none_at _ h
    rw [List.getElem?_set_ne e1] at h
    obtain ⟨v, hv, ht⟩ := S.slot j t h
    exact ⟨v, by rw [List.getElem?_set_ne e1]; exact hv, ht.mono fz_setN (Same.refl _)⟩
theorem bas_set {ev : Ev} {i : Nat} {o : Option Lo} : bas (ev.set i o) = (bas ev).set i (o.bind basL) := by
  unfold bas
  rw [List.map_set]
theorem bas_len {ev : Ev} : (bas ev).length = ev.length := by
  unfold bas
  rw [List.length_map]
theorem StE.setU {R : Addr → Prop} {al : List Addr} {H0 : HZ} {H : Hp} {σ : L2.St} {ev : Ev} {cs : Cs} (S : StE K mg R al H0 σ H ev cs) {i : Nat} {v : V} {u : U} (hu : Uv K mg al (fz R σ (bas ev) H) v u) :
    StE K mg R al H0 (σ.set i (some v)) H (ev.set i (some (loU u))) cs ∧ Same (fz R σ (bas ev) H) (fz R (σ.set i (some v)) (bas (ev.set i (some (loU u)))) H) := by
  have key : StR K mg R H0 (σ.set i (some v)) H (bas (ev.set i (some (loU u)))) ∧ Same (fz R σ (bas ev) H) (fz R (σ.set i (some v)) (bas (ev.set i (some (loU u)))) H) := by
    rw [bas_set]
    cases u with
    | d x =>
      cases hu with
      | d hx => exact ⟨S.S.setD hx, fz_setD⟩
    | p n => exact ⟨S.S.setN, fz_setN⟩
    | tup us => exact ⟨S.S.setN, fz_setN⟩
  obtain ⟨h1, h2⟩ := key
  refine ⟨⟨h1, S.G.up h2 (Same.refl _), fun j w h => ?_, S.z⟩, h2⟩
  by_cases e : i = j
  · subst e
    have hl : i < ev.length := by
      rw [← List.length_set (i := i) (a := some (loU u))]
      exact (List.getElem?_eq_some_iff.mp h).1
    rw [List.getElem?_set_self hl] at h
    have h := Option.some.inj (Option.some.inj h)
    refine ⟨v, by rw [List.getElem?_set_self (by rw [S.S.len, bas_len]; exact hl)], ?_⟩
    cases u with
    | d x => cases h
    | p n => cases h; exact hu.mono (List.prefix_refl _) h2
    | tup us => cases h; exact hu.mono (List.prefix_refl _) h2
  · rw [List.getElem?_set_ne e] at h
    obtain ⟨x, hx, hw⟩ := S.u j w h
    exact ⟨x, by rw [List.getElem?_set_ne e]; exact hx, hw.mono (List.prefix_refl _) h2⟩
/-! ### simple statements -/
def asgX (i : Nat) (f : FE) : GE := withX f fun u ev c => .next (ev.set i (some (loU u))) c
theorem pxs_asg {i : Nat} (h : PS X s (tAsg (rdE X.K X.mg W f) (gName i))) : PXS X W s (asgX i f) := ps_imp h fun Dd σ H ⟨R0, al0, He, R, al, H0, ev, cs, T, S, q⟩ =>
  rdE_with T S (List.prefix_refl _) (Same.refl _) q fun v u c H1 R1 al1 T1 T2 S1 hu q1 =>
    let ⟨S2, f2⟩ := S1.setU hu
    q1 R1 al1 _ H1 T2 (List.prefix_refl _) f2 S2
def exprX (f : FE) : GE := withX f fun _ ev c => .next ev c
theorem pxs_expr (h : PS X s (tDrop (rdE X.K X.mg W f))) : PXS X W s (exprX f) := ps_imp h fun Dd σ H ⟨R0, al0, He, R, al, H0, ev, cs, T, S, q⟩ =>
  rdE_with T S (List.prefix_refl _) (Same.refl _) q fun v u c H1 R1 al1 T1 T2 S1 hu q1 => q1 R1 al1 σ H1 T2 (List.prefix_refl _) (Same.refl _) S1
def retX (f : FE) : GE := withX f fun u _ c => .ret u c
theorem pxs_ret (ha : PX X W a f) : PXS X W (.Return (some a) pos) (retX f) := ps_imp (ps_ret (pos := pos) ha) fun Dd σ H ⟨R0, al0, He, R, al, H0, ev, cs, T, S, q⟩ =>
  rdE_with T S (List.prefix_refl _) (Same.refl _) q fun v u c H1 R1 al1 T1 T2 S1 hu q1 => q1 v R1 al1 H1 _ T2 S1.G (hid_sub fun a h => .inl h) hu
def ifX (t : FET) (g1 g2 : GE) : GE := withT t fun b => if b = true then g1 else g2
theorem pxs_if {t' : Expr} {sa sb : List Stmt} (ht : PXT X W t' t) (h1 : PXB X W sa g1) (h2 : PXB X W sb g2) : PXS X W (.If t' sa sb pos) (ifX t g1 g2) := ps_imp (ps_if (pos := pos) ht h1 h2) fun Dd σ H ⟨R0, al0, He, R, al, H0, ev, cs, T, S, q⟩ =>
  rdET_with T S (List.prefix_refl _) (Same.refl _) q fun b c H1 R1 al1 T1 T2 S1 q1 => by
    cases b with
    | true => exact ⟨R0, al0, He, R1, al1, H0, ev, c, T2, S1, q1⟩
    | false => exact ⟨R0, al0, He, R1, al1, H0, ev, c, T2, S1, q1⟩
/-- upon a list cell -/
def onL (uo : U) (k : Nat → GE) : GE := fun ev c => match uo with
  | .p n => match c[n]? with
    | some (.lst _) => k n ev c
    | _ => .bad
  | _ => .bad
def lstC (n : Nat) (k : List U → GE) : GE := fun ev c => match c[n]? with
  | some (.lst us) => k us ev c
  | _ => .bad
def appX (fo f : FE) : GE := withX fo fun uo => onL uo fun n => withX f fun u => lstC n fun us ev c => if us.length < SL then .next ev (c.set n (.lst (us ++ [u]))) else .bad
theorem cell_at {R : Addr → Prop} {al : List Addr} {H0 : HZ} {H : Hp} {σ : L2.St} {ev : Ev} {cs : Cs} (S : StE K mg R al H0 σ H ev cs) {n : Nat} {v : V} {us : List U} (hu : Uv K mg al (fz R σ (bas ev) H) v (.p n)) (hc : cs[n]? = some (.lst us)) :
    ∃ p vs, v = .ref p ∧ al[n]? = some p ∧ H p = some (.lst vs) ∧ Uvs K mg al (fz R σ (bas ev) H) vs us := by
  cases hu with
  | p ha =>
    obtain ⟨_, vs, h1, h2⟩ := S.G.cell n _ _ ha hc
    exact ⟨_, vs, rfl, ha, h1, h2⟩
theorem pxs_app (h : PS X s (tDrop (tBM X.K "list" rAppend (rdE X.K X.mg W fo) (tCons (rdE X.K X.mg W f) tNil)))) : PXS X W s (appX fo f) := ps_imp h fun Dd σ H ⟨R0, al0, He, R, al, H0, ev, cs, T, S, q⟩ =>
  rdE_with T S (List.prefix_refl _) (Same.refl _) q fun x uo c H1 R1 al1 T1 T2 S1 hx q1 => by
    unfold onL at q1
    split at q1
    · rename_i n
      split at q1
      · rename_i us0 hc0
        obtain ⟨p, vs0, rfl, ha, hp0, _⟩ := cell_at S1 hx hc0
        refine ⟨.inl ⟨rfl, vs0, .inl (.inl hp0)⟩, rdE_with T2 S1 (List.prefix_refl _) (Same.refl _) q1 fun y u c2 H2 R2 al2 T3 T4 S2 hy q2 => ?_⟩
        unfold lstC at q2
        split at q2
        · rename_i us hc
          dsimp only at q2
          split at q2
          · rename_i hl
            have ha2 := pre_at T3.pre ha
            obtain ⟨p', vs, e, _, hp, hvs⟩ := cell_at S2 (v := .ref p) (.p ha2) hc
            injection e with e
            subst e
            obtain ⟨T5, S3⟩ := S2.put (o := .lst (vs ++ [y])) (c := .lst (us ++ [u])) ha2 rfl fun F' e => ⟨vs ++ [y], upd_same, (hvs.mono (List.prefix_refl _) e).app (.cons (hy.mono (List.prefix_refl _) e) .nil)⟩
            exact ⟨p, vs, y, rfl, rfl, hp, lt_sl (by rw [hvs.len]; exact hl), q2 R2 al2 σ _ (T4.trans T5) (List.prefix_refl _) (S2.frz T5) S3⟩
          · exact q2.elim
        · exact q2.elim
      · exact q1.elim
    · exact q1.elim
/-- x[i] = e -/
def setX (fo fi f : FE) : GE := withX f fun u => withX fo fun uo => onL uo fun n => withX fi fun ui => lstC n fun us ev c => match ui with
  | .d (.int k) => match ixN us.length k with
    | some j => .next ev (c.set n (.lst (us.set j u)))
    | none => .bad
  | _ => .bad
theorem pxs_set (h : PS X s (tAsg (rdE X.K X.mg W f) (gSub (rdE X.K X.mg W fo) (rdE X.K X.mg W fi) rSetL))) : PXS X W s (setX fo fi f) := ps_imp h fun Dd σ H ⟨R0, al0, He, R, al, H0, ev, cs, T, S, q⟩ =>
  rdE_with T S (List.prefix_refl _) (Same.refl _) q fun y u c H1 R1 al1 T1 T2 S1 hy q1 => rdE_with T2 S1 (List.prefix_refl _) (Same.refl _) q1 fun x uo c2 H2 R2 al2 T3 T4 S2 hx q2 => by
    unfold onL at q2
    split at q2
    · rename_i n
      split at q2
      · refine rdE_with T4 S2 (List.prefix_refl _) (Same.refl _) q2 fun z ui c3 H3 R3 al3 T5 T6 S3 hz q3 => ?_
        unfold lstC at q3
        split at q3
        · rename_i us hc
          dsimp only at q3
          split at q3
          · rename_i k
            split at q3
            · rename_i j hj
              cases hz with
              | d hz =>
                cases hz
                obtain ⟨p, vs, rfl, ha, hp, hvs⟩ := cell_at S3 (hx.mono T5.pre (S2.frz T5)) hc
                have hy3 := (hy.mono T3.pre (S1.frz T3)).mono T5.pre (S2.frz T5)
                obtain ⟨T7, S4⟩ := S3.put (o := .lst (vs.set j y)) (c := .lst (us.set j u)) ha rfl fun F' e => ⟨vs.set j y, upd_same, (hvs.mono (List.prefix_refl _) e).set j (hy3.mono (List.prefix_refl _) e)⟩
                exact ⟨p, vs, k, j, rfl, rfl, hp, by rw [hvs.len]; exact hj, q3 R3 al3 σ _ (T6.trans T7) (List.prefix_refl _) (S3.frz T7) S4⟩
            · exact q3.elim
          · exact q3.elim
        · exact q3.elim
      · exact q2.elim
    · exact q2.elim
/-- o.f = e -/
def putU (f : Str) (x : U) : List (Str × U) → List (Str × U)
  | [] => [(f, x)]
  | (g, y) :: r => if g = f then (f, x) :: r else (g, y) :: putU f x r
theorem Ufs.put {al : List Addr} {F : Hp} {f : Str} {v : V} {x : U} (hv : Uv K mg al F v x) : ∀ {vs : List (Str × V)} {xs : List (Str × U)}, Ufs K mg al F vs xs → Ufs K mg al F (putF f v vs) (putU f x xs)
  | _, _, .nil => .cons hv .nil
  | _, _, .cons (f := g) h r => by
    unfold putF putU
    by_cases e : g = f
    · rw [if_pos e, if_pos e, e]
      exact .cons hv r
    · rw [if_neg e, if_neg e]
      exact .cons h (Ufs.put hv r)
theorem Ufs.length {al : List Addr} {F : Hp} : ∀ {vs : List (Str × V)} {xs : List (Str × U)}, Ufs K mg al F vs xs → vs.length = xs.length
  | _, _, .nil => rfl
  | _, _, .cons _ r => congrArg (· + 1) (Ufs.length r)
def fldX (c f : Str) (fo fv : FE) : GE := withX fv fun u => withX fo fun uo ev cs => match uo with
  | .p n => match cs[n]? with
    | some (.ins c' fs) => if c' = c ∧ fs.length < 1000 then .next ev (cs.set n (.ins c' (putU f u fs))) else .bad
    | _ => .bad
  | _ => .bad
theorem pxs_fld {c f : Str} {fv : FE} {value : Expr} {pos' : Pos} (hC : ∀ C, X.mg c = some (.ref C) → Cls X.K C ∧ NoAttr X.K C f) (ho : PX X W o fo) (hv : PX X W value fv) (hs : swapsWith value (some (.Attribute o f pos')) pos.line X.env = pure false := by rfl) : PXS X W (.Assign [.Attribute o f pos'] value pos) (fldX c f fo fv) :=
  ps_imp (ps_fld ho hv hs) fun Dd σ H ⟨R0, al0, He, R, al, H0, ev, cs, T, S, q⟩ =>
  rdE_with T S (List.prefix_refl _) (Same.refl _) q fun y u c1 H1 R1 al1 T1 T2 S1 hy q1 => rdE_with T2 S1 (List.prefix_refl _) (Same.refl _) q1 fun x uo c2 H2 R2 al2 T3 T4 S2 hx q2 => by
    split at q2
    · rename_i n
      split at q2
      · rename_i c' fs hc
        split at q2
        · rename_i hcc
          obtain ⟨rfl, hl⟩ := hcc
          cases hx with
          | p ha =>
            obtain ⟨_, C, dx, vs, h1, h2, h3⟩ := S2.G.cell n _ _ ha hc
            obtain ⟨k1, k2⟩ := hC C h2
            have hy2 := hy.mono T3.pre (S1.frz T3)
            obtain ⟨T5, S3⟩ := S2.put (o := .ins C dx (putF f y vs)) (c := .ins c' (putU f u fs)) ha rfl fun F' e => ⟨C, dx, _, upd_same, h2, (h3.mono (List.prefix_refl _) e).put (hy2.mono (List.prefix_refl _) e)⟩
            exact ⟨_, C, dx, vs, rfl, h1, k1, k2, by rw [h3.length]; exact hl, q2 R2 al2 σ _ (T4.trans T5) (List.prefix_refl _) (S2.frz T5) S3⟩
        · exact q2.elim
      · exact q2.elim
    · exact q2.elim
end
/-! ### targets, loops -/
mutual
def Tg.putE : Tg → D → Ev → Option Ev
  | .nm i, d, ev => some (ev.set i (some (.d d)))
  | .tp ts, d, ev => match d with
    | .tup xs => Tg.putsE ts xs ev
    | .lst xs => Tg.putsE ts xs ev
    | .rol xs => Tg.putsE ts xs ev
    | _ => none
def Tg.putsE : List Tg → List D → Ev → Option Ev
  | [], [], ev => some ev
  | t :: ts, x :: xs, ev => match Tg.putE t x ev with
    | some ev' => Tg.putsE ts xs ev'
    | none => none
  | _, _, _ => none
end
mutual
theorem putE_ok : ∀ (t : Tg) (d : D) (ev ev' : Ev), t.putE d ev = some ev' → t.put d (bas ev) = .ok (bas ev') ∧ ∀ j u, ev'[j]? = some (some (.u u)) → ev[j]? = some (some (.u u)) ∧ j ∉ t.slots
  | .nm i, d, ev, ev', h => by
    unfold Tg.putE at h
    injection h with h
    subst h
    refine ⟨by unfold Tg.put; rw [bas_set]; rfl, fun j u q => ?_⟩
    have ne : i ≠ j := fun e => by
      subst e
      rw [List.getElem?_set_self'] at q
      cases z : ev[i]? with
      | none => rw [z] at q; simp at q
      | some y => rw [z] at q; simp at q
    rw [List.getElem?_set_ne ne] at q
    exact ⟨q, by unfold Tg.slots; simp; exact fun z => ne z.symm⟩
  | .tp ts, d, ev, ev', h => by
    unfold Tg.putE at h
    unfold Tg.put Tg.slots
    cases d <;> try (cases h; done)
    · rename_i xs
      exact putsE_ok ts xs ev ev' h
    · rename_i xs
      exact putsE_ok ts xs ev ev' h
    · rename_i xs
      exact putsE_ok ts xs ev ev' h
theorem putsE_ok : ∀ (ts : List Tg) (ds : List D) (ev ev' : Ev), Tg.putsE ts ds ev = some ev' → Tg.puts ts ds (bas ev) = .ok (bas ev') ∧ ∀ j u, ev'[j]? = some (some (.u u)) → ev[j]? = some (some (.u u)) ∧ j ∉ Tg.slotss ts
  | [], [], ev, ev', h => by
    unfold Tg.putsE at h
    injection h with h
    subst h
    exact ⟨by unfold Tg.puts; rfl, fun j u q => ⟨q, by unfold Tg.slotss; simp⟩⟩
  | [], _ :: _, ev, ev', h => by unfold Tg.putsE at h; cases h
  | _ :: _, [], ev, ev', h => by unfold Tg.putsE at h; cases h
  | t :: ts, x :: xs, ev, ev', h => by
    unfold Tg.putsE at h
    split at h
    · rename_i ev1 he
      obtain ⟨h1, h2⟩ := putE_ok t x ev ev1 he
      obtain ⟨h3, h4⟩ := putsE_ok ts xs ev1 ev' h
      refine ⟨by unfold Tg.puts; rw [h1, Rs.bind_ok]; exact h3, fun j u q => ?_⟩
      obtain ⟨a1, a2⟩ := h4 j u q
      obtain ⟨b1, b2⟩ := h2 j u a1
      refine ⟨b1, ?_⟩
      unfold Tg.slotss
      intro z
      exact (List.mem_append.mp z).elim b2 a2
    · cases h
end
def loopX (t : D → Ev → Option Ev) (g : GE) : List D → GE
  | [] => nilE
  | x :: xs => fun ev cs => match t x ev with
    | some ev1 => seqE g (loopX t g xs) ev1 cs
    | none => .bad
section
variable {K : PySem.W.Frag} {mg : Str → Option Value} {W : L2.WX} {R0 R : Addr → Prop} {al0 als al : List Addr} {He Fs H : Hp} {H0 : HZ} {Dd : Ends} {σ : L2.St} {ev : Ev} {cs : Cs} {g : GE}
theorem StE.put2 {σ2 : L2.St} {ev' : Ev} {js : List Nat} (S : StE K mg R al H0 σ H ev cs) (S2 : StR K mg R H0 σ2 H (bas ev')) (f : Same (fz R σ (bas ev) H) (fz R σ2 (bas ev') H)) (hn : ∀ j, j ∉ js → σ2[j]? = σ[j]?)
    (hu : ∀ j u, ev'[j]? = some (some (.u u)) → ev[j]? = some (some (.u u)) ∧ j ∉ js) : StE K mg R al H0 σ2 H ev' cs :=
  ⟨S2, S.G.up f (Same.refl _), fun i u h => by
    obtain ⟨h1, h2⟩ := hu i u h
    obtain ⟨v, hv, hw⟩ := S.u i u h1
    exact ⟨v, (hn i h2).trans hv, hw.mono (List.prefix_refl _) f⟩, S.z⟩
def LoopAtE (K : PySem.W.Frag) (mg : Str → Option Value) (W : L2.WX) (R0 : Addr → Prop) (al0 : List Addr) (He : Hp) (H0 : HZ) (als : List Addr) (Fs : Hp) (Dd : Ends) (t : D → Ev → Option Ev) (g : GE) (xs : List D) (i : Nat) (σ : L2.St) (H : Hp) : Prop :=
  ∃ R al ev cs, Tr R0 al0 He R al H ∧ als <+: al ∧ Same Fs (fz R σ (bas ev) H) ∧ StE K mg R al H0 σ H ev cs ∧ PostSE K mg W R0 al0 He H0 als Fs Dd (loopX t g (xs.drop i) ev cs)
theorem loop_turnE {t : Tg} {xs : List D} {i : Nat} {x : D} {v : V} (hx : xs[i]? = some x) (L : LoopAtE K mg W R0 al0 He H0 als Fs Dd t.putE g xs i σ H) (hv : Dv K mg Fs v x) :
    rdG K mg t.slots t.put v σ H fun σ2 H2 => rdSE K mg W g { Dd with nx := LoopAtE K mg W R0 al0 He H0 als Fs Dd t.putE g xs (i + 1), ct := LoopAtE K mg W R0 al0 He H0 als Fs Dd t.putE g xs (i + 1), bk := Dd.nx } σ2 H2 := by
  obtain ⟨R, al, ev, cs, T, p, f, S, q⟩ := L
  have hd : xs.drop i = x :: xs.drop (i + 1) := by
    obtain ⟨hl, e⟩ := List.getElem?_eq_some_iff.mp hx
    rw [List.drop_eq_getElem_cons hl, e]
  rw [hd] at q
  unfold loopX at q
  cases e1 : t.putE x ev with
  | none => rw [e1] at q; exact q.elim
  | some ev1 =>
    rw [e1] at q
    dsimp only at q
    obtain ⟨h1, h2⟩ := putE_ok t x ev ev1 e1
    refine ⟨R, H0, bas ev, x, bas ev1, S.S, hv.mono f, h1, fun σ2 S2 f2 n2 _ => ⟨R0, al0, He, R, al, H0, ev1, cs, T, S.put2 S2 f2 n2 h2, ?_⟩⟩
    unfold seqE at q
    cases eg : g ev1 cs with
    | next ev2 cs2 =>
      rw [eg] at q
      exact fun R3 al3 σ3 H3 T3 p3 f3 S3 => ⟨R3, al3, ev2, cs2, T3, p.trans p3, (f.trans f2).trans f3, S3, q⟩
    | ret u c => rw [eg] at q; exact q
    | raise ex ev2 c => rw [eg] at q; exact q
    | bad => rw [eg] at q; exact q
theorem loop_endE {t : D → Ev → Option Ev} {xs : List D} (L : LoopAtE K mg W R0 al0 He H0 als Fs Dd t g xs xs.length σ H) : Dd.nx σ H := by
  obtain ⟨R, al, ev, cs, T, p, f, S, q⟩ := L
  rw [List.drop_length] at q
  exact q R al σ H T p f S
end
section
variable {X : Cx} {W : L2.WX} {a b e o : Expr} {s : Stmt} {ss : List Stmt} {pos apos : Pos} {g : GE} {fa : En → Rs D} {fs : En → Rs (List D)} {t : FET}
/-- for x in (data): .. -/
def forX (t : Tg) (g : GE) (fa : En → Rs D) : GE := fun ev cs => match fa (snp cs ev) with
  | .ok d => match itemsD d with
    | some xs => loopX t.putE g xs ev cs
    | none => .bad
  | .exc e => .raise e ev cs
  | .bad => .bad
theorem pxs_for {t : Tg} {tg iter : Expr} {body : List Stmt} (hp : PassesOwn (model X.prog X.w) X.A X.env X.xe) (hc : X.calm = true) (ha : PR X W .fz iter fa) (hg : PRG X tg t) (hb : PXB X W body g)
    (hs : ∀ x, foldedSetIterable iter X.env x = pure x := by intro _; rfl) : PXS X W (.For tg iter body [] pos) (forX t g fa) :=
  ps_imp (ps_for (pos := pos) hp hc (pi_either (pi_list ha) (pi_tup ha)) hg hb hs) fun Dd σ H ⟨R0, al0, He, R, al, H0, ev, cs, T, S, q⟩ => by
  show (iList X.K (rdP X.K X.mg W .fz fa) σ H _) ∨ (iTup X.K (rdP X.K X.mg W .fz fa) σ H _)
  have q0 := q
  unfold forX at q0
  cases ea : fa (snp cs ev) with
  | exc x =>
    rw [ea] at q0
    left
    refine ⟨R, H0, snp cs ev, S.sn, ?_⟩
    rw [ea]
    intro cls dd H' e xw
    rw [Ro_bs] at xw
    exact q0 cls dd R al σ H' (T.trans (Tr.same e S.alN)) (S.up e) xw
  | bad => rw [ea] at q0; exact q0.elim
  | ok d =>
    rw [ea] at q0
    dsimp only at q0
    cases ei : itemsD d with
    | none => rw [ei] at q0; exact q0.elim
    | some xs =>
      have q2 : ∀ H1, Same H H1 → PostSE X.K X.mg W R0 al0 He H0 al (fz R σ (bas ev) H1) Dd (loopX t.putE g xs ev cs) := fun H1 e1 => by
        rw [ei] at q0
        exact q0.up (List.prefix_refl _) (fz_same e1)
      have start : ∀ H1, Same H H1 → LoopAtE X.K X.mg W R0 al0 He H0 al (fz R σ (bas ev) H1) Dd t.putE g xs 0 σ H1 := fun H1 e1 => ⟨R, al, ev, cs, T.trans (Tr.same e1 S.alN), List.prefix_refl _, Same.refl _, S.up e1, q2 H1 e1⟩
      cases d <;> simp only [itemsD, reduceCtorEq, Option.some.injEq] at ei
      · subst ei
        left
        refine ⟨R, H0, snp cs ev, S.sn, ?_⟩
        rw [ea]
        intro v H1 e1 r1
        rw [fz_bs] at r1
        obtain ⟨p, vs, rfl, hp, hs⟩ := Dv.lst_of r1
        refine ⟨p, rfl, ⟨vs, .inl (.inl (hid_le _ _ hp))⟩, for_list (K := X.K) (a := p) (xs := vs) (LoopAtE X.K X.mg W R0 al0 He H0 al (fz R σ (bas ev) H1) Dd t.putE g _) (start H1 e1) (fun i σ' H' _ L => ?_) (fun i x σ' H' hx L => ?_) (fun σ' H' L => ?_)⟩
        · obtain ⟨R', al', ev', cs', _, _, f, _⟩ := L
          exact .inl (.inl (hid_le _ _ (f _ _ hp)))
        · obtain ⟨d, hd, hv⟩ := hs.getV hx
          exact loop_turnE hd L hv
        · rw [hs.len] at L
          exact loop_endE L
      · subst ei
        left
        refine ⟨R, H0, snp cs ev, S.sn, ?_⟩
        rw [ea]
        intro v H1 e1 r1
        rw [fz_bs] at r1
        obtain ⟨p, vs, rfl, hp, hs⟩ := Dv.rol_of r1
        refine ⟨p, rfl, ⟨vs, hid_le.seq hp⟩, for_list (K := X.K) (a := p) (xs := vs) (LoopAtE X.K X.mg W R0 al0 He H0 al (fz R σ (bas ev) H1) Dd t.putE g _) (start H1 e1) (fun i σ' H' _ L => ?_) (fun i x σ' H' hx L => ?_) (fun σ' H' L => ?_)⟩
        · obtain ⟨R', al', ev', cs', _, _, f, _⟩ := L
          exact hid_le.seq (f.seq hp)
        · obtain ⟨d, hd, hv⟩ := hs.getV hx
          exact loop_turnE hd L hv
        · rw [hs.len] at L
          exact loop_endE L
      · subst ei
        right
        refine ⟨R, H0, snp cs ev, S.sn, ?_⟩
        rw [ea]
        intro v H1 e1 r1
        rw [fz_bs] at r1
        obtain ⟨p, vs, rfl, hp, hs⟩ := Dv.tup_of r1
        refine ⟨p, rfl, ⟨vs, same_t hid_le hp⟩, for_tup (K := X.K) (a := p) (xs := vs) (LoopAtE X.K X.mg W R0 al0 He H0 al (fz R σ (bas ev) H1) Dd t.putE g _) (start H1 e1) (fun i σ' H' _ L => ?_) (fun i x σ' H' hx L => ?_) (fun σ' H' L => ?_)⟩
        · obtain ⟨R', al', ev', cs', _, _, f, _⟩ := L
          exact same_t hid_le (same_g f hp)
        · obtain ⟨d, hd, hv⟩ := hs.getV hx
          exact loop_turnE hd L hv
        · rw [hs.len] at L
          exact loop_endE L
/-- for x in range(..): .. -/
def forRX (rg : List D → Rs (List D)) (t : Tg) (g : GE) (fs : En → Rs (List D)) : GE := fun ev cs => match fs (snp cs ev) with
  | .ok ds => match rg ds with
    | .ok xs => loopX t.putE g xs ev cs
    | _ => .bad
  | .exc e => .raise e ev cs
  | .bad => .bad
theorem rdA_withX {R0 R : Addr → Prop} {al0 al : List Addr} {He H : Hp} {H0 : HZ} {σ : L2.St} {ev : Ev} {cs : Cs} {Dd : Ends} {k : List D → GE} {r : List V → Hp → Prop} (T : Tr R0 al0 He R al H) (S : StE X.K X.mg R al H0 σ H ev cs)
    (q : PostSE X.K X.mg W R0 al0 He H0 al (fz R σ (bas ev) H) Dd (match fs (snp cs ev) with
      | .ok ds => k ds ev cs
      | .exc e => .raise e ev cs
      | .bad => .bad))
    (h : ∀ vs ds H1, Same H H1 → Tr R0 al0 He R al H1 → StE X.K X.mg R al H0 σ H1 ev cs → Dvs X.K X.mg (fz R σ (bas ev) H1) vs ds → PostSE X.K X.mg W R0 al0 He H0 al (fz R σ (bas ev) H1) Dd (k ds ev cs) → r vs H1) : rdA X.K X.mg W fs σ H r := by
  refine ⟨R, H0, snp cs ev, S.sn, ?_⟩
  cases ea : fs (snp cs ev) with
  | exc x =>
    rw [ea] at q
    intro cls dd H' e xw
    rw [Ro_bs] at xw
    exact q cls dd R al σ H' (T.trans (Tr.same e S.alN)) (S.up e) xw
  | bad => rw [ea] at q; exact q
  | ok d =>
    rw [ea] at q
    intro v H1 e1 r1
    rw [fz_bs] at r1
    exact h v d H1 e1 (T.trans (Tr.same e1 S.alN)) (S.up e1) r1 (q.up (List.prefix_refl _) (fz_same e1))
theorem pxs_forR1 {t : Tg} {tg a : Expr} {body : List Stmt} {p pos2 : Pos} (hp : PassesOwn (model X.prog X.w) X.A X.env X.xe) (hc : X.calm = true) (gl : Gl X "range") (hm : X.mg "range" = none) (ha : PRA X W [a] fs) (hg : PRG X tg t) (hb : PXB X W body g)
    (hs1 : starEach [a] X.env = [(false, eval a X.env)] := by rfl)
    (hs : ∀ x, foldedSetIterable (.Call (.Name "range" p) [a] [] pos2) X.env x = pure x := by intro _; rfl) : PXS X W (.For tg (.Call (.Name "range" p) [a] [] pos2) body [] pos) (forRX rg1 t g fs) :=
  ps_imp (ps_for (pos := pos) hp hc (pi_range1 (p := p) (pos := pos2) gl hm ha hs1) hg hb hs) fun Dd σ H ⟨R0, al0, He, R, al, H0, ev, cs, T, S, q⟩ => by
  refine rdA_withX (k := fun ds ev cs => match rg1 ds with
    | .ok xs => loopX t.putE g xs ev cs
    | _ => .bad) T S q fun vs ds H1 e1 T1 S1 r1 q1 => ?_
  unfold rg1 at q1
  split at q1
  · rename_i xs hxs
    split at hxs
    · rename_i j
      split at hxs
      · rename_i hj
        injection hxs with hxs
        subst hxs
        cases r1 with
        | cons h r =>
          cases r
          cases h
          exact ⟨j, rfl, hj.1, hj.2, for_range (lo := 0) (n := j.toNat) (LoopAtE X.K X.mg W R0 al0 He H0 al (fz R σ (bas ev) H1) Dd t.putE g (rangeL 0 j.toNat)) ⟨R, al, ev, cs, T1, List.prefix_refl _, Same.refl _, S1, q1⟩ (fun i σ' H' hi L => loop_turnE (rangeL_at hi) L (.int _)) (fun σ' H' L => loop_endE (by rw [rangeL_len]; exact L))⟩
      · cases hxs
    · cases hxs
  · exact q1.elim
end
/-! ### a def's frame -/
def args0E (us : List U) (N : Nat) : Ev := us.map (fun u => some (loU u)) ++ List.replicate (N - us.length) none
def runE (N : Nat) (g : GE) (us : List U) (cs : Cs) : Re U := match g (args0E us N) cs with
  | .next _ c => .ok (.d .non) c
  | .ret u c => .ok u c
  | .raise e _ c => .exc e c
  | .bad => .bad
theorem args0E_at {us : List U} {N i : Nat} {l : Lo} (h : (args0E us N)[i]? = some (some l)) : ∃ u, us[i]? = some u ∧ l = loU u := by
  unfold args0E at h
  by_cases hi : i < us.length
  · rw [List.getElem?_append_left (by rw [List.length_map]; exact hi), List.getElem?_map, List.getElem?_eq_getElem hi] at h
    have h := Option.some.inj (Option.some.inj h)
    exact ⟨us[i], List.getElem?_eq_getElem hi, h.symm⟩
  · rw [List.getElem?_append_right (by rw [List.length_map]; omega), List.getElem?_replicate] at h
    split at h
    · have h := Option.some.inj h
      cases h
    · cases h
section
variable {P : Program} {w : World} {K : PySem.W.Frag} {mg : Str → Option Value} {base : Heap}
theorem start_okE {N : List Str} {R : Addr → Prop} {al : List Addr} {H : Hp} {vs : List V} {us : List U} {cs : Cs} (hN : vs.length ≤ N.length) (hR : ∀ a, R a → H a ≠ none) (G : Gh K mg R al (hid R H) H cs) (hv : Uvs K mg al (hid R H) vs us) :
    StE K mg R al ⟨hid (fun a => a ∈ al) H, 0⟩ (L2.start N vs) H (args0E us N.length) cs := by
  have no : ∀ p, ¬ own (L2.start N vs) (bas (args0E us N.length)) p := fun p h => by
    obtain ⟨i, xs, h1, _⟩ := h
    obtain ⟨l, hl, e⟩ := bas_at h1
    obtain ⟨u, _, e2⟩ := args0E_at hl
    rw [basL_l e] at e2
    cases u <;> cases e2
  have e : fz R (L2.start N vs) (bas (args0E us N.length)) H = hid R H := by
    unfold fz
    congr 1
    funext a
    exact propext ⟨fun h => h.elim id fun z => absurd z (no a), .inl⟩
  have at_ : ∀ (i : Nat) (u : U), us[i]? = some u → ∃ v, (L2.start N vs)[i]? = some (some v) ∧ Uv K mg al (hid R H) v u := fun i u h => by
    obtain ⟨v, hv1, hv2⟩ := hv.get h
    refine ⟨v, ?_, hv2⟩
    unfold L2.start
    rw [List.getElem?_append_left (by rw [List.length_map]; exact (List.getElem?_eq_some_iff.mp hv1).1), List.getElem?_map, hv1]
    rfl
  refine ⟨⟨hid_le, hR, fun p h => absurd h (no p), bas_one _, fun p h => absurd h (no p), fun i j xs ys p h1 h2 h3 => absurd ⟨i, xs, h1, h3⟩ (no p), fun i t h => ?_, ?_⟩, by rw [e]; exact G, fun i u h => ?_, fun a h => hid_yes h⟩
  · obtain ⟨l, hl, el⟩ := bas_at h
    obtain ⟨u, hu, rfl⟩ := args0E_at hl
    obtain ⟨v, h1, h2⟩ := at_ i u hu
    refine ⟨v, h1, ?_⟩
    rw [e]
    cases u with
    | d x =>
      have el := Option.some.inj el
      subst el
      cases h2 with
      | d h2 => exact h2
    | p n => cases el
    | tup ts => cases el
  · unfold L2.start
    rw [bas_len]
    unfold args0E
    rw [List.length_append, List.length_append, List.length_map, List.length_map, List.length_replicate, List.length_replicate, hv.len]
  · obtain ⟨u', hu, e2⟩ := args0E_at h
    obtain ⟨v, h1, h2⟩ := at_ i u' hu
    rw [e]
    cases u' with
    | d x => cases e2
    | p n => cases e2; exact ⟨v, h1, h2⟩
    | tup ts => cases e2; exact ⟨v, h1, h2⟩
theorem ok_defE {x qual : Str} {st : Stmt} {f : Addr} {fd : FuncData} {N ps : List Str} {k n : Nat} {g : GE} (F : Fun K x qual st f fd) (S : FnScope N ps (defScope st)) (hn : ps.length = n)
    (body : ∀ (cdv : Value) (A : Around) (outer : List Env) (s : Shared) (H : Hp) (E : XK), Rm k (A.deeper (envOfC qual (defScope st) s.heap.objs.size f cdv)) →
      PXB (cxOf (L2.CX P w) P w K mg base N qual (defScope st) f cdv A outer s H E) (fun cls d _ H => E cls d H) (defBody st) g) :
    FnG P w K mg base (k + 1) f fd ps (spE K mg n (runE N.length g)) := by
  refine okG F S (fun vs H Q E h => ?_) (fun cdv A outer s H vs Q E hr h => ⟨_, body cdv A outer s H E hr, ?_⟩)
  · obtain ⟨R, al, us, cs, h1, _⟩ := h
    rw [h1, hn]
  · obtain ⟨R, al, us, cs, h1, hR, G, hv, q⟩ := h
    have hpl : ps.length ≤ N.length := by have := congrArg List.length S.pre; rw [List.length_take] at this; omega
    have S0 := start_okE (N := N) (by omega) hR G hv
    refine ⟨R, al, H, R, al, _, args0E us N.length, cs, Tr.same (Same.refl H) (fun a h => hR a (G.inR h)), S0, ?_⟩
    unfold runE at q
    cases eg : g (args0E us N.length) cs with
    | next ev' c =>
      rw [eg] at q
      exact fun R' al' σ H' T' _ _ S' => q .non H' R' al' T' (S'.G.up (hid_sub fun a h => .inl h) (Same.refl _)) (.d .non)
    | ret u c =>
      rw [eg] at q
      exact fun v R' al' H' F T' G' f hu => q v H' R' al' T' (G'.up f (Same.refl _)) (hu.mono (List.prefix_refl _) f)
    | raise e ev' c =>
      rw [eg] at q
      exact fun cls dd R' al' σ H' T' S' xw => q cls dd H' R' al' T' (S'.G.up (hid_sub fun a h => .inl h) (Same.refl _)) (xw.sub fun a h => .inl h)
    | bad => rw [eg] at q; exact q
theorem dx_of {x qual : Str} {st : Stmt} {f : Addr} {fd : FuncData} {N ps : List Str} {k n : Nat} {g : GE} (F : Fun K x qual st f fd) (S : FnScope N ps (defScope st)) (hn : ps.length = n) (hm : mg x = some (.ref f)) (hb : Binds K fd ps [])
    (body : ∀ (cdv : Value) (A : Around) (outer : List Env) (s : Shared) (H : Hp) (E : XK), Rm k (A.deeper (envOfC qual (defScope st) s.heap.objs.size f cdv)) →
      PXB (cxOf (L2.CX P w) P w K mg base N qual (defScope st) f cdv A outer s H E) (fun cls d _ H => E cls d H) (defBody st) g) :
    Dx P w K mg base (k + 1) x n (runE N.length g) := ⟨⟨f, fd, ps, ok_defE F S hn body, hm, F.kp, hb⟩⟩
end
end Orn

set_option linter.all false
set_option maxRecDepth 100000
set_option maxHeartbeats 4000000
namespace Orn
open L2 PySem PySem.Spec PyProof.Rows
section
variable {X : Cx} {W : L2.WX} {a b e o : Expr} {s : Stmt} {ss : List Stmt} {pos apos : Pos} {g : GE} {f : FE} {K : PySem.W.Frag} {mg : Str → Option Value}
/-- a, b = e (data) -/
def unpX (t : Tg) (f : FE) : GE := withX f fun u ev c => match u with
  | .d d => match t.putE d ev with
    | some ev' => .next ev' c
    | none => .bad
  | _ => .bad
theorem pxs_unp {t : Tg} (h : PS X s (tAsg (rdE X.K X.mg W f) (rdG X.K X.mg t.slots t.put))) : PXS X W s (unpX t f) := ps_imp h fun Dd σ H ⟨R0, al0, He, R, al, H0, ev, cs, T, S, q⟩ =>
  rdE_with T S (List.prefix_refl _) (Same.refl _) q fun v u c H1 R1 al1 T1 T2 S1 hu q1 => by
    cases u with
    | d d =>
      dsimp only at q1
      cases e1 : t.putE d ev with
      | none => rw [e1] at q1; exact q1.elim
      | some ev' =>
        rw [e1] at q1
        obtain ⟨h1, h2⟩ := putE_ok t d ev ev' e1
        cases hu with
        | d hv => exact ⟨R1, H0, bas ev, d, bas ev', S1.S, hv, h1, fun σ2 S2 f2 n2 _ => q1 R1 al1 σ2 H1 T2 (List.prefix_refl _) f2 (S1.put2 S2 f2 n2 h2)⟩
    | p n => exact q1.elim
    | tup us => exact q1.elim
/-! ### cells, looked at from expressions without effect -/
def varS (i : Nat) : En → Rs D := fun env => match env[i]? with
  | some (some (.sl xs)) => .ok (.lst xs)
  | some (some (.d x)) => .ok x
  | _ => .bad
theorem pr_nameS {i : Nat} (h : PE X e (tVar i)) : PR X W .pk e (varS i) := pe_imp h fun σ H Q ⟨R, H0, env, S, q⟩ => by
  unfold varS at q
  split at q
  · rename_i xs hx
    obtain ⟨v, hv, p, vs, rfl, _, hp, hs⟩ := S.slot i _ hx
    exact ⟨.ref p, hv, q _ H (Same.refl H) (.lst hp (hs.mono hid_le))⟩
  · rename_i x hx
    obtain ⟨v, hv, h⟩ := S.slot i _ hx
    exact ⟨v, hv, q _ H (Same.refl H) (Dv.mono hid_le h)⟩
  · exact q.elim
def varC (i : Nat) : En → Rs D := fun env => match env[i]? with
  | some (some (.sl xs)) => .ok (.lst xs)
  | _ => .bad
theorem pr_nameC {i : Nat} (h : PE X e (tVar i)) : PR X W .sh e (varC i) := pe_imp h fun σ H Q ⟨R, H0, env, S, q⟩ => by
  unfold varC at q
  split at q
  · rename_i xs hx
    obtain ⟨v, hv, p, vs, rfl, _, hp, hs⟩ := S.slot i _ hx
    exact ⟨.ref p, hv, q _ H (Same.refl H) ⟨p, vs, xs, rfl, rfl, hp, hs⟩⟩
  · exact q.elim
def soD (c f : Str) (i : Nat) : En → Rs D := fun env => match env[i]? with
  | some (some (.so c' fs)) => if c' = c then (match fs.lookup f with
    | some (.dat x) => .ok x
    | _ => .bad) else .bad
  | _ => .bad
def soL (c f : Str) (i : Nat) : En → Rs D := fun env => match env[i]? with
  | some (some (.so c' fs)) => if c' = c then (match fs.lookup f with
    | some (.ls xs) => .ok (.lst xs)
    | _ => .bad) else .bad
  | _ => .bad
theorem pr_soD {i : Nat} {c f : Str} (hC : ∀ C, X.mg c = some (.ref C) → Cls X.K C ∧ NoAttr X.K C f) (h : PE X a (tVar i)) (hb : attributeBase a f X.env (eval a X.env) = eval a X.env := by rfl) : PR X W .fz (.Attribute a f pos) (soD c f i) := pe_imp (pe_fld h hb) fun σ H Q ⟨R, H0, env, S, q⟩ => by
  unfold soD at q
  split at q
  · rename_i c' fs hx
    split at q
    · rename_i e1
      subst e1
      split at q
      · rename_i x hl
        obtain ⟨v, hv, p, C, dx, vs, rfl, _, hp, hm, hf⟩ := S.slot i _ hx
        obtain ⟨w, hw, hd⟩ := hf f _ hl
        obtain ⟨k1, k2⟩ := hC C hm
        exact ⟨.ref p, hv, p, C, dx, vs, w, rfl, hp, k1, k2, hw, q _ H (Same.refl H) hd⟩
      · exact q.elim
    · exact q.elim
  · exact q.elim
theorem pr_soL {i : Nat} {c f : Str} (hC : ∀ C, X.mg c = some (.ref C) → Cls X.K C ∧ NoAttr X.K C f) (h : PE X a (tVar i)) (hb : attributeBase a f X.env (eval a X.env) = eval a X.env := by rfl) : PR X W .sh (.Attribute a f pos) (soL c f i) := pe_imp (pe_fld h hb) fun σ H Q ⟨R, H0, env, S, q⟩ => by
  unfold soL at q
  split at q
  · rename_i c' fs hx
    split at q
    · rename_i e1
      subst e1
      split at q
      · rename_i xs hl
        obtain ⟨v, hv, p, C, dx, vs, rfl, _, hp, hm, hf⟩ := S.slot i _ hx
        obtain ⟨w, hw, r, ws, rfl, _, hr, hs⟩ := hf f _ hl
        obtain ⟨k1, k2⟩ := hC C hm
        exact ⟨.ref p, hv, p, C, dx, vs, .ref r, rfl, hp, k1, k2, hw, q _ H (Same.refl H) ⟨r, ws, xs, rfl, rfl, hr, hs⟩⟩
      · exact q.elim
    · exact q.elim
  · exact q.elim
end
/-! ### a def with cells, called with data, giving data -/
def pureE (g : List U → Cs → Re U) (ds : List D) : Rs D := match g (ds.map .d) [] with
  | .ok (.d d) _ => .ok d
  | .exc e _ => .exc e
  | _ => .bad
section
variable {P : Program} {w : World} {K : PySem.W.Frag} {mg : Str → Option Value} {base : Heap}
theorem FnG.pure {k n : Nat} {f : Addr} {fd : FuncData} {ps : List Str} {g : List U → Cs → Re U} (hn : ps.length = n) (F : FnG P w K mg base k f fd ps (spE K mg n g)) : FnG P w K mg base k f fd ps (spD K mg n false (pureE g)) := by
  refine ⟨fun vs H Q E h => ?_, fun A outer s H args us vs Q E hr e0 hb hv h => F.run A outer s H args us vs Q E hr e0 hb hv ?_⟩
  · obtain ⟨R, ds, h1, _⟩ := h
    rw [h1, hn]
  · obtain ⟨R, ds, h1, hR, hd, q⟩ := h
    refine ⟨R, [], ds.map .d, [], h1, hR, ⟨rfl, List.nodup_nil, fun n a c h => by simp at h⟩, hd.us, ?_⟩
    unfold pureE at q
    cases eg : g (ds.map .d) [] with
    | ok u c =>
      rw [eg] at q
      cases u with
      | d x =>
        intro v H' R' al' T G hu
        cases hu with
        | d hx => exact q v H' (fun a o h => T.keep a o (by simp) h) (hx.mono (hid_sub fun a h => T.rr a h)) (fun z => by cases z)
      | p n => exact q.elim
      | tup us => exact q.elim
    | exc x c =>
      rw [eg] at q
      exact fun cls dd H' R' al' T G xw => q cls dd H' (fun a o h => T.keep a o (by simp) h) (xw.sub fun a h => T.rr a h)
    | bad => rw [eg] at q; exact q
theorem Dx.pure {k n : Nat} {x : Str} {g : List U → Cs → Re U} (F : Dx P w K mg base k x n g) (hn : ∀ f fd ps, FnG P w K mg base k f fd ps (spE K mg n g) → Binds K fd ps [] → ps.length = n) : Dn P w K mg base k x n false (pureE g) := by
  obtain ⟨f, fd, ps, F, h1, h2, h3⟩ := F.ex
  exact ⟨⟨f, fd, ps, F.pure (hn f fd ps F h3), h1, h2, h3⟩⟩
end
end Orn

set_option linter.all false
set_option maxRecDepth 100000
set_option maxHeartbeats 4000000
namespace Orn
open L2 PySem PySem.Spec PyProof.Rows
section
variable {X : Cx} {W : L2.WX} {f fa fe : En → Rs D} {fs : En → Rs (List D)} {tt : En → Rs Bool} {pos : Pos}
theorem set_up {i : Nat} {t : TE} (imp : ∀ σ H Q, rdP X.K X.mg W .new f σ H Q → t σ H Q) {Dd : Ends} {σ : L2.St} {H : Hp} (h : rdSE X.K X.mg W (asgX i (up f)) Dd σ H) : tAsg t (gName i) Dd σ H := by
  obtain ⟨R0, al0, He, R, al, H0, ev, cs, T, S, q⟩ := h
  refine imp _ _ _ ⟨R, H0, snp cs ev, S.sn, ?_⟩
  unfold asgX withX up at q
  cases ea : f (snp cs ev) with
  | exc x =>
    rw [ea] at q
    intro cls dd H' e xw
    rw [Ro_bs] at xw
    exact q cls dd R al σ H' (T.trans (Tr.same e S.alN)) (S.up e) xw
  | bad => rw [ea] at q; exact q
  | ok d =>
    rw [ea] at q
    intro v H1 e1 r1
    obtain ⟨p, vs, xs, rfl, rfl, hn, hp, hF, hs⟩ := Nw.old r1
    rw [fz_bs] at hF hs
    obtain ⟨S2, f2⟩ := (S.up e1).setU (i := i) (v := .ref p) (u := .d (.lst xs)) (.d (Dv.lst hF hs))
    exact q R al _ H1 (T.trans (Tr.same e1 S.alN)) (List.prefix_refl _) ((fz_same e1).trans f2) S2
theorem set_new {i : Nat} {t : TE} (imp : ∀ σ H Q, rdP X.K X.mg W .new f σ H Q → t σ H Q) {Dd : Ends} {σ : L2.St} {H : Hp} (h : rdSE X.K X.mg W (asgX i (newE f)) Dd σ H) : tAsg t (gName i) Dd σ H := by
  obtain ⟨R0, al0, He, R, al, H0, ev, cs, T, S, q⟩ := h
  refine imp _ _ _ ⟨R, H0, snp cs ev, S.sn, ?_⟩
  unfold asgX withX newE at q
  cases ea : f (snp cs ev) with
  | exc x =>
    rw [ea] at q
    intro cls dd H' e xw
    rw [Ro_bs] at xw
    exact q cls dd R al σ H' (T.trans (Tr.same e S.alN)) (S.up e) xw
  | bad => rw [ea] at q; exact q
  | ok d =>
    rw [ea] at q
    intro v H1 e1 r1
    obtain ⟨p, vs, xs, G, rfl, rfl, hn, hp, _, hG, hGp, hs⟩ := r1
    rw [fz_bs] at hG
    obtain ⟨T1, S1⟩ := S.adopt e1 hn hp hG hGp hs
    obtain ⟨S2, f2⟩ := S1.setU (i := i) (v := .ref p) (u := .p cs.length) (.p (by rw [← S.G.len, List.getElem?_append_right (Nat.le_refl _)]; simp))
    exact q _ _ _ H1 (T.trans T1) T1.pre ((S.frz T1).trans f2) S2
/-- y = [.. for ..] -/
theorem pxs_setComp {i : Nat} {y : Str} {py spos : Pos} {elt tg iter : Expr} {ifs : List Expr} {scope : Scope} {own : List (Str × Nat)} {t : Tg} (hc : X.calm = true) (hN : X.N.Nodup) (hy : X.N[i]? = some y) (hyl : X.env.scope.names.lookup y = some .local)
    (hsw : swapsWith (.ListComp elt [⟨tg, iter, ifs, 0⟩] scope pos) (some (.Name y py)) spos.line X.env = pure true) (ha : PR X W .fz iter fa) (ok : BlkOk X.N X.env.scope scope own) (hg : PRGc X scope tg t) (ht : PRTc X scope ifs tt) (he : PRc X scope elt fe)
    (hj : ∀ j, j ∈ t.slots → j ∈ own.map (·.2) := by decide) (hs : ∀ x, foldedSetIterable iter X.env x = pure x := by intro _; rfl) :
    PXS X W (.Assign [.Name y py] (.ListComp elt [⟨tg, iter, ifs, 0⟩] scope pos) spos) (asgX i (up (compF t (own.map (·.2)) tt fe fa))) := ps_imp (ps_setLc hc hN hy hyl hsw (pi_seq ha) ok hg ht he hs) fun Dd σ H h => set_up (fun σ H Q h => comp_rd (fe := fe) (tt := tt) hj h) h
theorem pxs_setCompS {i : Nat} {y : Str} {py spos : Pos} {elt tg iter : Expr} {ifs : List Expr} {scope : Scope} {own : List (Str × Nat)} {t : Tg} (hc : X.calm = true) (hN : X.N.Nodup) (hy : X.N[i]? = some y) (hyl : X.env.scope.names.lookup y = some .local)
    (hsw : swapsWith (.ListComp elt [⟨tg, iter, ifs, 0⟩] scope pos) (some (.Name y py)) spos.line X.env = pure true) (ha : PR X W .sh iter fa) (ok : BlkOk X.N X.env.scope scope own) (hg : PRGc X scope tg t) (ht : PRTc X scope ifs tt) (he : PRc X scope elt fe)
    (hj : ∀ j, j ∈ t.slots → j ∈ own.map (·.2) := by decide) (hs : ∀ x, foldedSetIterable iter X.env x = pure x := by intro _; rfl) :
    PXS X W (.Assign [.Name y py] (.ListComp elt [⟨tg, iter, ifs, 0⟩] scope pos) spos) (asgX i (up (compF t (own.map (·.2)) tt fe fa))) := ps_imp (ps_setLc hc hN hy hyl hsw (pi_seq ha) ok hg ht he hs) fun Dd σ H h => set_up (fun σ H Q h => comp_rdS (fe := fe) (tt := tt) hj h) h
theorem pxs_setCompR1 {i : Nat} {y : Str} {py spos : Pos} {elt tg a : Expr} {ifs : List Expr} {scope : Scope} {own : List (Str × Nat)} {t : Tg} {p pos2 : Pos} (hc : X.calm = true) (hN : X.N.Nodup) (hy : X.N[i]? = some y) (hyl : X.env.scope.names.lookup y = some .local)
    (hsw : swapsWith (.ListComp elt [⟨tg, .Call (.Name "range" p) [a] [] pos2, ifs, 0⟩] scope pos) (some (.Name y py)) spos.line X.env = pure true) (gl : Gl X "range") (hm : X.mg "range" = none) (ha : PRA X W [a] fs) (ok : BlkOk X.N X.env.scope scope own) (hg : PRGc X scope tg t) (ht : PRTc X scope ifs tt) (he : PRc X scope elt fe)
    (hj : ∀ j, j ∈ t.slots → j ∈ own.map (·.2) := by decide) (hs1 : starEach [a] X.env = [(false, eval a X.env)] := by rfl) (hs : ∀ x, foldedSetIterable (.Call (.Name "range" p) [a] [] pos2) X.env x = pure x := by intro _; rfl) :
    PXS X W (.Assign [.Name y py] (.ListComp elt [⟨tg, .Call (.Name "range" p) [a] [] pos2, ifs, 0⟩] scope pos) spos) (asgX i (up (compR rg1 t (own.map (·.2)) tt fe fs))) := ps_imp (ps_setLc hc hN hy hyl hsw (pi_range1 gl hm ha hs1) ok hg ht he hs) fun Dd σ H h => set_up (fun σ H Q h => comp_rdR1 (fe := fe) (tt := tt) hj h) h
/-- the same, as a cell -/
theorem pxs_setCompN {i : Nat} {y : Str} {py spos : Pos} {elt tg iter : Expr} {ifs : List Expr} {scope : Scope} {own : List (Str × Nat)} {t : Tg} (hc : X.calm = true) (hN : X.N.Nodup) (hy : X.N[i]? = some y) (hyl : X.env.scope.names.lookup y = some .local)
    (hsw : swapsWith (.ListComp elt [⟨tg, iter, ifs, 0⟩] scope pos) (some (.Name y py)) spos.line X.env = pure true) (ha : PR X W .fz iter fa) (ok : BlkOk X.N X.env.scope scope own) (hg : PRGc X scope tg t) (ht : PRTc X scope ifs tt) (he : PRc X scope elt fe)
    (hj : ∀ j, j ∈ t.slots → j ∈ own.map (·.2) := by decide) (hs : ∀ x, foldedSetIterable iter X.env x = pure x := by intro _; rfl) :
    PXS X W (.Assign [.Name y py] (.ListComp elt [⟨tg, iter, ifs, 0⟩] scope pos) spos) (asgX i (newE (compF t (own.map (·.2)) tt fe fa))) := ps_imp (ps_setLc hc hN hy hyl hsw (pi_seq ha) ok hg ht he hs) fun Dd σ H h => set_new (fun σ H Q h => comp_rd (fe := fe) (tt := tt) hj h) h
theorem pxs_setCompNS {i : Nat} {y : Str} {py spos : Pos} {elt tg iter : Expr} {ifs : List Expr} {scope : Scope} {own : List (Str × Nat)} {t : Tg} (hc : X.calm = true) (hN : X.N.Nodup) (hy : X.N[i]? = some y) (hyl : X.env.scope.names.lookup y = some .local)
    (hsw : swapsWith (.ListComp elt [⟨tg, iter, ifs, 0⟩] scope pos) (some (.Name y py)) spos.line X.env = pure true) (ha : PR X W .sh iter fa) (ok : BlkOk X.N X.env.scope scope own) (hg : PRGc X scope tg t) (ht : PRTc X scope ifs tt) (he : PRc X scope elt fe)
    (hj : ∀ j, j ∈ t.slots → j ∈ own.map (·.2) := by decide) (hs : ∀ x, foldedSetIterable iter X.env x = pure x := by intro _; rfl) :
    PXS X W (.Assign [.Name y py] (.ListComp elt [⟨tg, iter, ifs, 0⟩] scope pos) spos) (asgX i (newE (compF t (own.map (·.2)) tt fe fa))) := ps_imp (ps_setLc hc hN hy hyl hsw (pi_seq ha) ok hg ht he hs) fun Dd σ H h => set_new (fun σ H Q h => comp_rdS (fe := fe) (tt := tt) hj h) h
theorem pxs_setCompNR1 {i : Nat} {y : Str} {py spos : Pos} {elt tg a : Expr} {ifs : List Expr} {scope : Scope} {own : List (Str × Nat)} {t : Tg} {p pos2 : Pos} (hc : X.calm = true) (hN : X.N.Nodup) (hy : X.N[i]? = some y) (hyl : X.env.scope.names.lookup y = some .local)
    (hsw : swapsWith (.ListComp elt [⟨tg, .Call (.Name "range" p) [a] [] pos2, ifs, 0⟩] scope pos) (some (.Name y py)) spos.line X.env = pure true) (gl : Gl X "range") (hm : X.mg "range" = none) (ha : PRA X W [a] fs) (ok : BlkOk X.N X.env.scope scope own) (hg : PRGc X scope tg t) (ht : PRTc X scope ifs tt) (he : PRc X scope elt fe)
    (hj : ∀ j, j ∈ t.slots → j ∈ own.map (·.2) := by decide) (hs1 : starEach [a] X.env = [(false, eval a X.env)] := by rfl) (hs : ∀ x, foldedSetIterable (.Call (.Name "range" p) [a] [] pos2) X.env x = pure x := by intro _; rfl) :
    PXS X W (.Assign [.Name y py] (.ListComp elt [⟨tg, .Call (.Name "range" p) [a] [] pos2, ifs, 0⟩] scope pos) spos) (asgX i (newE (compR rg1 t (own.map (·.2)) tt fe fs))) := ps_imp (ps_setLc hc hN hy hyl hsw (pi_range1 gl hm ha hs1) ok hg ht he hs) fun Dd σ H h => set_new (fun σ H Q h => comp_rdR1 (fe := fe) (tt := tt) hj h) h
end
end Orn

set_option linter.all false
set_option maxRecDepth 100000
set_option maxHeartbeats 4000000
namespace HT
open PySem PySem.Spec PyProof.Rows
section
variable {prog : Program} {w : World} {A : Around} {E : Value → Shared → Prop} {s : Shared}
theorem sliceApplied_rev {sl : Addr} {t : Tok} {n : Nat} {Q : Int × Int × Nat → Shared → Prop} (hs : s.heap.IsSliceOf sl .none .none (.int (-1) t))
    (h : Q (((n : Nat) : Int) - 1, -1, n) s) : wpAny (model prog w) A (Builtin.Slice.sliceApplied (.ref sl) (pure (n : Int))) Q E s := by
  obtain ⟨os, hos, hcs, hds⟩ := id hs
  unfold Builtin.Slice.sliceApplied Builtin.Slice.sliceFields
  refine wpAny_bind (wpAny_bind (wpAny_field hos hds (x := .none) rfl (wpAny_bind (wpAny_field hos hds (x := .none) rfl (wpAny_bind (wpAny_field hos hds (x := .int (-1) t) rfl (wpAny_pure ?_)))))))
  refine wpAny_bind (slicePart_int ?_)
  show wpAny _ _ (if ((-1 : Int) == 0) = true then _ else _) _ _ s
  rw [if_neg (by decide)]
  refine wpAny_bind (slicePart_none (wpAny_bind (slicePart_none (wpAny_bind (wpAny_pure ?_)))))
  show wpAny _ _ (match Builtin.Slice.sliceAdjust none none (-1) (n : Int) with | (lo, hi) => pure (lo, (-1 : Int), Builtin.Slice.slicePlaces lo hi (-1))) _ _ s
  have e1 : Builtin.Slice.sliceAdjust none none (-1) (n : Int) = ((n : Int) - 1, -1) := by
    unfold Builtin.Slice.sliceAdjust
    simp
  rw [e1]
  have e2 : Builtin.Slice.slicePlaces ((n : Int) - 1) (-1) (-1) = n := by
    unfold Builtin.Slice.slicePlaces
    simp
    omega
  show wpAny _ _ (pure ((n : Int) - 1, (-1 : Int), Builtin.Slice.slicePlaces ((n : Int) - 1) (-1) (-1))) _ _ s
  rw [e2]
  exact wpAny_pure h
theorem pick_revL {α : Type} (l : List α) (f : Nat → Option α) (hf : ∀ m, m < l.length → f m = l[l.length - 1 - m]?) : ∀ k, k ≤ l.length → (List.range k).filterMap f = (l.drop (l.length - k)).reverse
  | 0, _ => by simp
  | k + 1, h => by
    rw [List.range_succ, List.filterMap_append, pick_revL l f hf k (by omega)]
    have hk : l.length - 1 - k < l.length := by omega
    have e : l.drop (l.length - (k + 1)) = l[l.length - 1 - k] :: l.drop (l.length - k) := by
      rw [show l.length - (k + 1) = l.length - 1 - k by omega, List.drop_eq_getElem_cons hk, show l.length - 1 - k + 1 = l.length - k by omega]
    have e2 := hf k (by omega)
    rw [List.getElem?_eq_getElem hk] at e2
    rw [e, List.reverse_cons]
    simp [e2]
theorem pick_rev (xs : Array Value) : ((List.range xs.size).filterMap fun (m : Nat) => xs[((((xs.size : Nat) : Int) - 1) + (m : Int) * -1).toNat]?).toArray = xs.toList.reverse.toArray := by
  congr 1
  have q := pick_revL xs.toList (fun (m : Nat) => xs[((((xs.size : Nat) : Int) - 1) + (m : Int) * -1).toNat]?) (fun m hm => by
    have e2 : ((((xs.size : Nat) : Int) - 1) + (m : Int) * -1).toNat = xs.toList.length - 1 - m := by rw [Array.length_toList] at hm ⊢; omega
    show xs[((((xs.size : Nat) : Int) - 1) + (m : Int) * -1).toNat]? = _
    rw [e2, Array.getElem?_toList]) xs.toList.length (Nat.le_refl _)
  rw [Array.length_toList] at q
  rw [q]
  simp
theorem getItem_tuple_rev {t sl : Addr} {u : Tok} {items : Array Value} {Q : Value → Shared → Prop} (ht : IsTup s.heap t items) (hs : s.heap.IsSliceOf sl .none .none (.int (-1) u))
    (h : Q (.ref s.heap.objs.size) { s with heap := s.heap.push { cls := .type "tuple", data := .seq items.toList.reverse.toArray } })
    (hsz : items.size ≤ sizeLine) : wpAny (model prog w) A (getItem (.ref t) (.ref sl)) Q E s := by
  have htake : sizeOk (.seq items.toList.reverse.toArray) := by
    show items.toList.reverse.toArray.size ≤ sizeLine
    rw [List.size_toArray, List.length_reverse, Array.length_toList]
    exact hsz
  obtain ⟨os, hos, hcs, hds⟩ := id hs
  have hTs : s.TypeIs (.ref sl) "slice" := ⟨os, hos, hcs⟩
  unfold getItem
  try with_reducible refine wpAny_holding ?_
  first | refine wpAny_bind (wpAny_pure ?_) | skip
  refine wpAny_bind (wpAny_sequenceKey ht.typeIs (by decide) ?_)
  refine wpAny_bind (wpAny_callSpecial?_slot (name := Str.ofString "__getitem__") ht.typeIs PyProof.Rows.slot_tuple_getitem
    (wpAny_call_entry PyProof.Rows.slot_tuple_getitem ht.typeIs entry_tuple_getitem ?_ (args_tuple_getitem _ _)))
  show wpAny _ _ (Builtin.Tuple.tupleItemsOf (.ref t) >>= _) _ _ s
  refine wpAny_bind (tupleItemsOf_ ht ?_)
  refine wpAny_bind (wpAny_typeOf hTs ?_)
  rw [if_pos (by decide)]
  refine wpAny_bind (sliceApplied_rev hs ?_)
  have hno : ¬ ((((items.size : Nat) : Int) - 1 == 0 && (-1 : Int) == 1 && items.size == items.size) = true) := by
    intro q
    rw [Bool.and_eq_true, Bool.and_eq_true] at q
    exact absurd q.1.2 (by decide)
  show wpAny _ _ (if (((items.size : Nat) : Int) - 1 == 0 && (-1 : Int) == 1 && items.size == items.size) = true then _ else _) _ _ s
  rw [if_neg hno, pick_rev]
  first
    | exact wpAny_bind (m := Builtin.Tuple.tupleExact _) (wpAny_newObj_type (wpAny_pure ⟨_, rfl, wpAny_pure h⟩) htake)
    | exact wpAny_bind (m := Builtin.Tuple.tupleExact _) (wpAny_newObj_type (wpAny_bind (wpAny_pure (wpAny_pure ⟨_, rfl, wpAny_pure h⟩))) htake)
    | exact wpAny_bind (wpAny_bind (m := Builtin.Tuple.tupleExact _) (wpAny_newObj_type (wpAny_pure (wpAny_pure ⟨_, rfl, wpAny_pure h⟩)) htake))
    | exact wpAny_bind (wpAny_bind (m := Builtin.Tuple.tupleExact _) (wpAny_newObj_type (wpAny_pure ⟨_, rfl, wpAny_pure h⟩) htake))
end
end HT
namespace Orn
open L2 PySem PySem.Spec PyProof.Rows
/-! ### t[::-1] of a tuple -/
def tRevT (K : PySem.W.Frag) (te : TE) : TE := fun σ H Q => te σ H fun x H1 => ∃ a xs, x = .ref a ∧ SqT K H1 a xs ∧ rNewT xs.reverse H1 Q
theorem pe_revT {X : Cx} {e : Expr} {te : TE} {k : Nat} {p1 p2 p3 pos : Pos} (he : PE X e te) : PE X (.Subscript e (.Slice none none (some (.UnaryOp .USub (.Constant (.int 1) k p1) p2)) p3) pos) (tRevT X.K te) := by
  refine ⟨fun pins s σ H Q I h => ?_⟩
  refine Subscript_ (thn (he.run pins s σ H _ I h) fun v s1 ⟨x, H1, I1, r1, q1⟩ => ?_)
  obtain ⟨a, xs, ex, hx, q⟩ := q1
  subst ex
  cases r1
  have hst : PO X (some (.UnaryOp .USub (.Constant (.int 1) k p1) p2)) (tPart (tUn (rU fun i => .int (-i)) (tC (.int 1)))) := po_some (pe_un un_neg pe_int)
  refine wpAny_Slice (thn (po_none.run pins s1 σ H1 (fun o H2 => o = none ∧ H2 = H1) I1 ⟨rfl, rfl⟩) fun vl s2 ⟨l, H2, I2, pl, el, e2⟩ => ?_)
  subst el e2
  refine thn (po_none.run pins s2 σ H2 (fun o H3 => o = none ∧ H3 = H2) I2 ⟨rfl, rfl⟩) fun vu s3 ⟨u, H3, I3, pu, eu, e3⟩ => ?_
  subst eu e3
  refine thn (hst.run pins s3 σ H3 (fun o H4 => o = some (-1) ∧ H4 = H3) I3 ⟨1, rfl, -1, rfl, rfl, rfl⟩) fun vs s4 ⟨o, H4, I4, ps, eo, e4⟩ => ?_
  subst eo e4
  have I5 : Inv X pins σ H4 { s4 with heap := s4.heap.push { cls := .type "slice", data := .fields #[vl, vu, vs] } } := I4.kept (t' := s4.toks) fun b ob q => Heap.get?_push_of_some _ q
  obtain ⟨its, r, ht, hz⟩ := I5.tuple hx
  have hlen := r.length
  cases pl
  cases pu
  cases ps
  show wpAny (model X.prog X.w) X.A (subscriptTail e (.Slice none none (some (.UnaryOp .USub (.Constant (.int 1) k p1) p2)) p3) (.ref a) (.ref s4.heap.objs.size)) (EP X pins σ Q) X.xe _
  refine tail_any (ops := [.ref a, .ref s4.heap.objs.size]) ht.typeIs (PyProof.Rows.slot_tuple_getitem.lookup) ?_ (by with_unfolding_all rfl)
  refine HT.getItem_tuple_rev ht (Heap.IsSliceOf.new _ _ _ _) ?_ (by rw [List.size_toArray, ← hlen]; exact hz)
  exact newT_ok I5 (by rw [List.length_reverse]; exact hz) r.reverse q
def revT : D → Rs D
  | .tup xs => .ok (.tup xs.reverse)
  | _ => .bad
theorem pr_revT {X : Cx} {W : L2.WX} {ma : Md} {fa : En → Rs D} {a : Expr} {pos : Pos} {k : Nat} {p1 p2 p3 : Pos} (ha : PR X W ma a fa) (na : ma ≠ .pk := by decide) : PR X W .fz (.Subscript a (.Slice none none (some (.UnaryOp .USub (.Constant (.int 1) k p1) p2)) p3) pos) (op1 revT fa) :=
  pe_imp (pe_revT ha) fun σ H Q ⟨R, H0, env, S, q⟩ => rd_seq1 S q fun x da H2 e2 S2 ra q2 => by
  cases da <;> try exact q2.elim
  obtain ⟨p, vs, rfl, hp, hv⟩ := ra.tup na hid_le
  exact ⟨p, vs, rfl, same_t hid_le hp, post_tup S2 hv.rev q2⟩
/-! ### t * 0, t * 1 -/
theorem tuple_mul1 (l : Addr) (items : Array Value) (n : Nat) (dd : Option Addr) (sl : Array (Option Value)) (u : Tok) :
    Meets (Builtin.«tuple.__mul__» ⟨[.ref l, .int 1 u], []⟩) (fun _ R s => s.heap.get? l = some { cls := .type "tuple", dict := dd, data := .seq items n, slots := sl } ∧ R (.ok (.ret (Value.ref l))) s) :=
  .of_wp fun prog w A R s h => by
    obtain ⟨hp, g, d, tk, os⟩ := s
    obtain ⟨hl, h⟩ := h
    have f1 := AutoSeq1.idx_int
    wp_walk using wpAny_loadPart' hl
    exact ⟨_, rfl, h⟩
theorem tuple_mulE (l : Addr) (n : Nat) (dd : Option Addr) (sl : Array (Option Value)) (u : Tok) :
    Meets (Builtin.«tuple.__mul__» ⟨[.ref l, .int 0 u], []⟩) (fun _ R s => s.heap.get? l = some { cls := .type "tuple", dict := dd, data := .seq #[] n, slots := sl } ∧ R (.ok (.ret (Value.ref l))) s) :=
  .of_wp fun prog w A R s h => by
    obtain ⟨hp, g, d, tk, os⟩ := s
    obtain ⟨hl, h⟩ := h
    have f1 := AutoSeq1.idx_int
    wp_walk using wpAny_loadPart' hl
    exact ⟨_, rfl, h⟩
theorem tuple_mul0 (l : Addr) (items : Array Value) (n : Nat) (dd : Option Addr) (sl : Array (Option Value)) (u : Tok) (he : items.isEmpty = false) :
    Meets (Builtin.«tuple.__mul__» ⟨[.ref l, .int 0 u], []⟩) (fun _ R s => s.heap.get? l = some { cls := .type "tuple", dict := dd, data := .seq items n, slots := sl } ∧
      R (.ok (.ret (Value.ref s.heap.objs.size))) { s with heap := s.heap.push { cls := Value.type "tuple", data := Data.seq #[] }, toks := s.toks }) :=
  .of_wp fun prog w A R s h => by
    obtain ⟨hp, g, d, tk, os⟩ := s
    obtain ⟨hl, h⟩ := h
    have f1 := AutoSeq1.idx_int
    have c1 : (items.isEmpty || (0 : Int) == 1) = false := by rw [he]; rfl
    wp_walk using wpAny_loadPart' hl
    repeat (first
      | (refine wpAny_ite_false (decide_eq_false (by rw [c1]; exact Bool.false_ne_true)) ?_; wp_walk using wpAny_loadPart' hl))
    exact ⟨_, rfl, h⟩
/-- t * 0, t * 1: nothing, itself -/
def rMulT (K : PySem.W.Frag) : R2 := fun x y H Q => ∃ l xs, x = .ref l ∧ SqT K H l xs ∧ ((y = .int 1 ∧ Q (.ref l) H) ∨ (y = .int 0 ∧ (xs = [] → Q (.ref l) H) ∧ (xs ≠ [] → rNewT [] H Q)))
theorem op_mulT01 {X : Cx} : OpR X (binaryOp .Mult) (rMulT X.K) := by
  intro pins s σ H x y v u Q I rx ry h
  obtain ⟨l, xs, rfl, hT, h⟩ := h
  cases rx
  obtain ⟨its, r, ⟨⟨cls, dd, data, sl⟩, ho, hc, n, hd⟩, hs⟩ := I.tuple hT
  simp only at hc hd
  subst hc hd
  have hle : its.length = xs.length := r.length.symm
  rcases h with ⟨rfl, q⟩ | ⟨rfl, q1, q2⟩
  · obtain ⟨t, rfl⟩ := ry
    refine wpAny_binaryOp_repeat_ref (T := "tuple") (U := "int") (by decide) ⟨_, ho, rfl⟩ (fun s' => typeIs_int s' 1 t) noFill_tuple_mul F.fills_int_mul F.slot_int_rmul repeat_tuple F.slot_int_index.lookup
      (call_meets F.slot_int_rmul (typeIs_int s 1 t) F.entry_int_rmul (F.args_int_rmul_2 _ _) (int_rmul_tuple 1 t l its.toArray n dd sl)
        ⟨ho, rfl, ⟨_, ho, rfl⟩, call_meets F.slot_tuple_mul ⟨_, ho, rfl⟩ F.entry_tuple_mul (F.args_tuple_mul_2 _ _) (tuple_mul1 l its.toArray n dd sl t) ⟨ho, ?_⟩⟩)
    exact ⟨.ref l, H, I, rfl, q⟩
  · obtain ⟨t, rfl⟩ := ry
    cases its with
    | nil =>
      have hx : xs = [] := List.eq_nil_of_length_eq_zero hle.symm
      refine wpAny_binaryOp_repeat_ref (T := "tuple") (U := "int") (by decide) ⟨_, ho, rfl⟩ (fun s' => typeIs_int s' 0 t) noFill_tuple_mul F.fills_int_mul F.slot_int_rmul repeat_tuple F.slot_int_index.lookup
        (call_meets F.slot_int_rmul (typeIs_int s 0 t) F.entry_int_rmul (F.args_int_rmul_2 _ _) (int_rmul_tuple 0 t l #[] n dd sl)
          ⟨ho, rfl, ⟨_, ho, rfl⟩, call_meets F.slot_tuple_mul ⟨_, ho, rfl⟩ F.entry_tuple_mul (F.args_tuple_mul_2 _ _) (tuple_mulE l n dd sl t) ⟨ho, ?_⟩⟩)
      exact ⟨.ref l, H, I, rfl, q1 hx⟩
    | cons a b =>
      have hx : xs ≠ [] := fun z => by rw [z] at hle; cases hle
      refine wpAny_binaryOp_repeat_ref (T := "tuple") (U := "int") (by decide) ⟨_, ho, rfl⟩ (fun s' => typeIs_int s' 0 t) noFill_tuple_mul F.fills_int_mul F.slot_int_rmul repeat_tuple F.slot_int_index.lookup
        (call_meets F.slot_int_rmul (typeIs_int s 0 t) F.entry_int_rmul (F.args_int_rmul_2 _ _) (int_rmul_tuple 0 t l (a :: b).toArray n dd sl)
          ⟨ho, rfl, ⟨_, ho, rfl⟩, call_meets F.slot_tuple_mul ⟨_, ho, rfl⟩ F.entry_tuple_mul (F.args_tuple_mul_2 _ _) (tuple_mul0 l (a :: b).toArray n dd sl t rfl) ⟨ho, ?_⟩⟩)
      exact newT_ok I (by show 0 ≤ sizeLine; exact Nat.zero_le _) .nil (q2 hx)
def mulT : D → D → Rs D
  | .tup xs, .int k => if k = 1 then .ok (.tup xs) else if k = 0 then .ok (.tup []) else .bad
  | _, _ => .bad
theorem pr_mulT {X : Cx} {W : L2.WX} {ma mb : Md} {fa fb : En → Rs D} {a b : Expr} {pos : Pos} (ha : PR X W ma a fa) (hb : PR X W mb b fb) (na : ma ≠ .pk := by decide) : PR X W .fz (.BinOp a .Mult b pos) (op2 mulT fa fb) := pr_op op_mulT01 (fun {R H0 σ env H Hs x y da db Q} S ra rb q => by
  cases da <;> cases db <;> try exact q.elim
  rename_i xs k
  obtain ⟨p, vs, rfl, hp, hv⟩ := ra.tup na hid_le
  unfold mulT at q
  dsimp only at q
  refine ⟨p, vs, rfl, same_t hid_le hp, ?_⟩
  split at q
  · rename_i hk
    rw [rb.int, hk]
    exact .inl ⟨rfl, post_tupOld hp hv q⟩
  · split at q
    · rename_i hk
      rw [rb.int, hk]
      refine .inr ⟨rfl, fun z => ?_, fun _ => ?_⟩
      · have e : xs = [] := len0 hv z
        subst e
        exact post_tupOld hp hv q
      · exact post_tup S .nil q
    · exact q.elim) ha hb
end Orn

set_option linter.all false
set_option maxRecDepth 100000
set_option maxHeartbeats 4000000
namespace Orn
open L2 PySem PySem.Spec PyProof.Rows
/-! ### dicts: keys ints and texts -/
def keyD : D → Option L2.Key
  | .int i => some (.inl i)
  | .str s => some (.inr s)
  | _ => none
def keyU : U → Option L2.Key
  | .d x => keyD x
  | _ => none
def valD {α : Type} (kvs : List (L2.Key × α)) (k : L2.Key) : Option α := (kvs.find? fun kv => decide (kv.1 = k)).map (·.2)
def putKU (kvs : List (L2.Key × U)) (k : L2.Key) (u : U) : List (L2.Key × U) :=
  if (kvs.any fun kv => decide (kv.1 = k)) = true then kvs.map (fun kv => if kv.1 = k then (kv.1, u) else kv) else kvs ++ [(k, u)]
section
variable {K : PySem.W.Frag} {mg : Str → Option Value} {al : List Addr} {F H : Hp}
theorem keyD_is {v : V} {x : D} {k : L2.Key} (h : Dv K mg F v x) (e : keyD x = some k) : v = kV k := by
  cases x <;> simp [keyD] at e
  · subst e
    cases h
    rfl
  · subst e
    cases h
    rfl
theorem Kd.val {k : L2.Key} : ∀ {vs : List (L2.Key × V)} {xs : List (L2.Key × D)}, Kd K mg F vs xs → (∀ d, valD xs k = some d → ∃ v, valV vs k = some v ∧ Dv K mg F v d) ∧ ((valV vs k).isSome = (valD xs k).isSome)
  | _, _, .nil => ⟨fun d h => by simp [valD] at h, rfl⟩
  | _, _, .cons (k := j) (v := v) (x := x) h r => by
    obtain ⟨i1, i2⟩ := Kd.val (k := k) r
    by_cases e : j = k
    · subst e
      refine ⟨fun d q => ?_, ?_⟩
      · simp [valD] at q
        subst q
        exact ⟨v, by simp [valV], h⟩
      · simp [valV, valD]
    · refine ⟨fun d q => ?_, ?_⟩
      · simp [valD, List.find?_cons, e] at q
        obtain ⟨w, h1, h2⟩ := i1 d (by simpa [valD] using q)
        exact ⟨w, by rw [valV_neg (by exact e)]; exact h1, h2⟩
      · rw [valV_neg (by exact e), i2]
        simp [valD, List.find?_cons, e]
theorem Uks.any {k : L2.Key} : ∀ {vs : List (L2.Key × V)} {us : List (L2.Key × U)}, Uks K mg al F vs us → (vs.any fun kv => decide (kv.1 = k)) = (us.any fun kv => decide (kv.1 = k))
  | _, _, .nil => rfl
  | _, _, .cons _ r => by rw [List.any_cons, List.any_cons, Uks.any r]
theorem Uks.upd {k : L2.Key} {v : V} {u : U} (hv : Uv K mg al F v u) : ∀ {vs : List (L2.Key × V)} {us : List (L2.Key × U)}, Uks K mg al F vs us → Uks K mg al F (vs.map fun kv => if kv.1 = k then (kv.1, v) else kv) (us.map fun kv => if kv.1 = k then (kv.1, u) else kv)
  | _, _, .nil => .nil
  | _, _, .cons (k := j) h r => by
    rw [List.map_cons, List.map_cons]
    by_cases e : j = k
    · rw [if_pos e, if_pos e]
      exact .cons hv (Uks.upd hv r)
    · rw [if_neg e, if_neg e]
      exact .cons h (Uks.upd hv r)
theorem Uks.app : ∀ {vs ws : List (L2.Key × V)} {us ts : List (L2.Key × U)}, Uks K mg al F vs us → Uks K mg al F ws ts → Uks K mg al F (vs ++ ws) (us ++ ts)
  | _, _, _, _, .nil, q => q
  | _, _, _, _, .cons h r, q => .cons h (Uks.app r q)
theorem Uks.put {k : L2.Key} {v : V} {u : U} (hv : Uv K mg al F v u) {vs : List (L2.Key × V)} {us : List (L2.Key × U)} (h : Uks K mg al F vs us) : Uks K mg al F (putK vs k v) (putKU us k u) := by
  unfold putK putKU
  rw [h.any]
  split
  · exact h.upd hv
  · exact h.app (.cons hv .nil)
end
section
variable {X : Cx} {W : L2.WX} {a b e o value : Expr} {s : Stmt} {pos pos' p : Pos} {fk : En → Rs D} {gk gv go : FE} {k : Nat} {m : Md}
/-! ### looked at, without effect -/
def dgetF (i : Nat) (fk : En → Rs D) : En → Rs D := fun env => match env[i]? with
  | some (some (.sd kvs)) => fk env >>= fun d => match keyD d with
    | some k => match valD kvs k with
      | some x => .ok x
      | none => .bad
    | none => .bad
  | _ => .bad
theorem pr_dgetS {i : Nat} (hr : Rm k X.A) (ho : PE X o (tVar i)) (hk : PR X W m a fk) (hs : NoSl a := by exact fun _ _ => rfl) : PR X W .fz (.Subscript o a pos) (dgetF i fk) := pe_imp (pe_dget (by have := hr.r.un; omega) ho hk hs) fun σ H Q ⟨R, H0, env, S, q⟩ => by
  unfold dgetF at q
  split at q
  · rename_i kvs hi
    obtain ⟨v, hv, p, vs, rfl, _, hp, hkd⟩ := S.slot i _ hi
    refine ⟨.ref p, hv, R, H0, env, S, ?_⟩
    cases ea : fk env with
    | exc x => rw [ea] at q; exact q
    | bad => rw [ea] at q; exact q
    | ok d =>
      rw [ea, Rs.bind_ok] at q
      intro y H1 e1 r1
      split at q
      · rename_i key hkey
        split at q
        · rename_i x hx
          have ey := keyD_is (r1.pk hid_le) hkey
          subst ey
          obtain ⟨w, hw, hwd⟩ := (hkd.val (k := key)).1 x hx
          refine ⟨p, w, rfl, ?_, q w H1 e1 (Dv.mono (fz_same e1) hwd)⟩
          have := DGet.k (k := key) (e1 _ _ hp)
          rw [hw] at this
          exact this
        · exact q.elim
      · exact q.elim
  · exact q.elim
def dinT (neg : Bool) (i : Nat) (fk : En → Rs D) : En → Rs Bool := fun env => match env[i]? with
  | some (some (.sd kvs)) => fk env >>= fun d => match keyD d with
    | some k => .ok ((valD kvs k).isSome != neg)
    | none => .bad
  | _ => .bad
theorem ptc_dinS {i : Nat} (hr : Rm k X.A) (hk : PR X W m a fk) (ho : PE X o (tVar i)) (hb : behindInMarks .In o = false := by rfl) : PRT X W (.Compare a [.In] [o] pos) (dinT false i fk) := pt_imp (L2.pt_cmp (pc_din (by have := hr.r.un; omega) hk ho) hb) fun σ H Q ⟨R, H0, env, S, q⟩ => by
  refine ⟨R, H0, env, S, ?_⟩
  unfold dinT at q
  split at q
  · rename_i kvs hi
    obtain ⟨v, hv, p, vs, rfl, _, hp, hkd⟩ := S.slot i _ hi
    cases ea : fk env with
    | exc x => rw [ea] at q; exact q
    | bad => rw [ea] at q; exact q
    | ok d =>
      rw [ea, Rs.bind_ok] at q
      intro y H1 e1 r1
      split at q
      · rename_i key hkey
        have ey := keyD_is (r1.pk hid_le) hkey
        subst ey
        refine ⟨.ref p, hv, p, _, rfl, DGet.k (k := key) (e1 _ _ hp), _, rfl, ?_⟩
        rw [(hkd.val (k := key)).2]
        have := q H1 e1
        simpa using this
      · exact q.elim
  · exact q.elim
theorem ptc_dnotinS {i : Nat} (hr : Rm k X.A) (hk : PR X W m a fk) (ho : PE X o (tVar i)) (hb : behindInMarks .NotIn o = false := by rfl) : PRT X W (.Compare a [.NotIn] [o] pos) (dinT true i fk) := pt_imp (L2.pt_cmp (pc_dnotin (by have := hr.r.un; omega) hk ho) hb) fun σ H Q ⟨R, H0, env, S, q⟩ => by
  refine ⟨R, H0, env, S, ?_⟩
  unfold dinT at q
  split at q
  · rename_i kvs hi
    obtain ⟨v, hv, p, vs, rfl, _, hp, hkd⟩ := S.slot i _ hi
    cases ea : fk env with
    | exc x => rw [ea] at q; exact q
    | bad => rw [ea] at q; exact q
    | ok d =>
      rw [ea, Rs.bind_ok] at q
      intro y H1 e1 r1
      split at q
      · rename_i key hkey
        have ey := keyD_is (r1.pk hid_le) hkey
        subst ey
        refine ⟨.ref p, hv, p, _, rfl, DGet.k (k := key) (e1 _ _ hp), _, rfl, ?_⟩
        rw [(hkd.val (k := key)).2]
        have := q H1 e1
        simpa using this
      · exact q.elim
  · exact q.elim
/-! ### made, changed -/
def dispE (gk gv : FE) : FE := fun ev cs => bindE (gk ev (cs ++ [.dct []])) fun uk c1 => bindE (gv ev c1) fun uv c2 => match keyU uk, c2[cs.length]? with
  | some k, some (.dct []) => .ok (.p cs.length) (c2.set cs.length (.dct [(k, uv)]))
  | _, _ => .bad
theorem keyU_is {K : PySem.W.Frag} {mg : Str → Option Value} {al : List Addr} {F : Hp} {v : V} {u : U} {k : L2.Key} (h : Uv K mg al F v u) (e : keyU u = some k) : v = kV k := by
  cases u with
  | d x =>
    cases h with
    | d h => exact keyD_is h e
  | p n => cases e
  | tup us => cases e
theorem px_disp1 (hk : PX X W a gk) (hv : PX X W b gv) : PX X W (.Dict [some a] [b] pos) (dispE gk gv) := pe_imp (pe_disp (pps_cons hk hv pps_nil) rfl rfl (by intro z; cases z) (by show 1 ≤ 15; omega)) fun σ H Q ⟨R, al, H0, ev, cs, S, q⟩ => by
  intro p hp
  obtain ⟨T1, S1⟩ := S.alloc (o := .dK []) (c := .dct []) hp fun F' e => ⟨[], upd_same, .nil⟩
  have q := PostE.up T1 q
  refine rdE_seq S1 q fun v uk c1 H1 R1 al1 T2 S2 hu q1 => rdE_seq S2 q1 fun w uv c2 H2 R2 al2 T3 S3 hw q2 => ?_
  split at q2
  · rename_i key hkey hc
    have ha : al2[cs.length]? = some p := pre_at T3.pre (pre_at T2.pre (by rw [← S.G.len, List.getElem?_append_right (Nat.le_refl _)]; simp))
    obtain ⟨_, vs, h1, h2⟩ := S3.G.cell _ p _ ha hc
    cases h2
    have ev1 := keyU_is hu hkey
    subst ev1
    refine ⟨h1, [(key, w)], rfl, (by show 1 ≤ 15; omega), ?_⟩
    have em : mergeK [] [(key, w)] = [(key, w)] := rfl
    rw [em]
    obtain ⟨T4, S4⟩ := S3.put (o := .dK [(key, w)]) (c := .dct [(key, uv)]) ha rfl fun F' e => ⟨[(key, w)], upd_same, .cons (hw.mono (List.prefix_refl _) e) .nil⟩
    exact q2 (.ref p) _ R2 al2 T4 S4 (.p ha)
  · exact q2.elim
/-- d[k] = e -/
def onD (uo : U) (k : Nat → GE) : GE := fun ev c => match uo with
  | .p n => k n ev c
  | _ => .bad
def dctC (n : Nat) (k : List (L2.Key × U) → GE) : GE := fun ev c => match c[n]? with
  | some (.dct us) => k us ev c
  | _ => .bad
def dputX (go gk gv : FE) : GE := withX gv fun u => withX go fun uo => onD uo fun n => withX gk fun uk => dctC n fun kvs ev c => match keyU uk with
  | some k => if kvs.length < SL then .next ev (c.set n (.dct (putKU kvs k u))) else .bad
  | none => .bad
theorem pxs_dput (hr : Rm k X.A) (ho : PX X W o go) (hk : PX X W a gk) (hv : PX X W value gv) (hs : swapsWith value (some (.Subscript o a pos')) pos.line X.env = pure false := by rfl) : PXS X W (.Assign [.Subscript o a pos'] value pos) (dputX go gk gv) :=
  ps_imp (ps_dput (by have := hr.r.un; omega) ho hk hv hs) fun Dd σ H ⟨R0, al0, He, R, al, H0, ev, cs, T, S, q⟩ =>
  rdE_with T S (List.prefix_refl _) (Same.refl _) q fun y u c H1 R1 al1 T1 T2 S1 hy q1 => rdE_with T2 S1 (List.prefix_refl _) (Same.refl _) q1 fun x uo c2 H2 R2 al2 T3 T4 S2 hx q2 => by
    unfold onD at q2
    split at q2
    · rename_i n
      refine rdE_with T4 S2 (List.prefix_refl _) (Same.refl _) q2 fun z uk c3 H3 R3 al3 T5 T6 S3 hz q3 => ?_
      unfold dctC at q3
      split at q3
      · rename_i kvs hc
        dsimp only at q3
        split at q3
        · rename_i key hkey
          split at q3
          · rename_i hl
            have ez := keyU_is hz hkey
            subst ez
            replace hx := hx.mono T5.pre (S2.frz T5)
            cases hx with
            | p ha =>
              obtain ⟨_, vs, h1, h2⟩ := S3.G.cell n _ _ ha hc
              have hy3 := (hy.mono T3.pre (S1.frz T3)).mono T5.pre (S2.frz T5)
              obtain ⟨T7, S4⟩ := S3.put (o := .dK (putK vs key y)) (c := .dct (putKU kvs key u)) ha rfl fun F' e => ⟨putK vs key y, upd_same, (h2.mono (List.prefix_refl _) e).put (hy3.mono (List.prefix_refl _) e)⟩
              exact ⟨_, _, rfl, DPut.k h1 (lt_sl (by rw [h2.len]; exact hl)), q3 R3 al3 σ _ (T6.trans T7) (List.prefix_refl _) (S3.frz T7) S4⟩
          · exact q3.elim
        · exact q3.elim
      · exact q3.elim
    · exact q2.elim
/-- list(d) -/
def dK : L2.Key → D
  | .inl i => .int i
  | .inr s => .str s
def listDE (go : FE) : FE := fun ev cs => bindE (go ev cs) fun u c => match u with
  | .p n => match c[n]? with
    | some (.dct kvs) => .ok (.d (.lst (kvs.map fun kv => dK kv.1))) c
    | _ => .bad
  | _ => .bad
theorem dvs_keys {K : PySem.W.Frag} {mg : Str → Option Value} {al : List Addr} {F F' : Hp} : ∀ {vs : List (L2.Key × V)} {us : List (L2.Key × U)}, Uks K mg al F vs us → Dvs K mg F' (vs.map fun kv => kV kv.1) (us.map fun kv => dK kv.1)
  | _, _, .nil => .nil
  | _, _, .cons (k := j) h r => by
    rw [List.map_cons, List.map_cons]
    refine .cons ?_ (dvs_keys r)
    cases j with
    | inl i => exact .int i
    | inr s => exact .str s
theorem px_listD {p : Pos} (hc : X.calm = true) (gl : Gl X "list") (hm : X.mg "list" = none) (ho : PX X W o go) (na : starEach [o] X.env = (false, eval o X.env) :: starEach [] X.env := by rfl) (hpl : (backTo pos (starEach [] X.env)).any (·.1) = false := by rfl) : PX X W (.Call (.Name "list" p) [o] [] pos) (listDE go) :=
  pe_imp (pe_callTy (p := p) (pos := pos) (call_list_dK hc) gl hm boot_list (pa_cons ho pa_nil na) (by decide) (by decide) na hpl) fun σ H Q ⟨R, al, H0, ev, cs, S, q⟩ => rdE_seq S q fun v u c1 H1 R1 al1 T1 S1 hu q1 => by
  split at q1
  · rename_i n
    split at q1
    · rename_i kvs hc
      cases hu with
      | p ha =>
        obtain ⟨_, vs, h1, h2⟩ := S1.G.cell n _ _ ha hc
        refine ⟨_, vs, rfl, h1, fun l hl => ?_⟩
        have e := same_new (o := .lst (vs.map fun kv => kV kv.1)) hl
        exact q1 (.ref l) _ R1 al1 (Tr.same e S1.alN) (S1.up e) (.d (.lst ((S1.S.newF e hl).trans upd_same) (dvs_keys h2)))
    · exact q1.elim
  · exact q1.elim
end
end Orn

set_option linter.all false
set_option maxRecDepth 100000
set_option maxHeartbeats 4000000
namespace Orn
open L2 PySem PySem.Spec PyProof.Rows
section
variable {K : PySem.W.Frag} {mg : Str → Option Value} {W : L2.WX} {R0 R : Addr → Prop} {al0 als al : List Addr} {He Fs H H' : Hp} {H0 : HZ} {Dd : Ends} {σ : L2.St} {ev : Ev} {cs : Cs} {g : GE} {tt : FET}
/-! ### loops over enumerate, zip -/
theorem loop_turnWE {t : Tg} {xs : List D} {i : Nat} {x : D} {v : V} (hx : xs[i]? = some x) (e : Same H H') (L : LoopAtE K mg W R0 al0 He H0 als Fs Dd t.putE g xs i σ H)
    (hv : ∀ R al ev cs, StE K mg R al H0 σ H ev cs → Same Fs (fz R σ (bas ev) H) → Dv K mg (fz R σ (bas ev) H') v x) :
    rdG K mg t.slots t.put v σ H' fun σ2 H2 => rdSE K mg W g { Dd with nx := LoopAtE K mg W R0 al0 He H0 als Fs Dd t.putE g xs (i + 1), ct := LoopAtE K mg W R0 al0 He H0 als Fs Dd t.putE g xs (i + 1), bk := Dd.nx } σ2 H2 := by
  obtain ⟨R, al, ev, cs, T, p, f, S, q⟩ := L
  have hv := hv R al ev cs S f
  have T := T.trans (Tr.same e S.alN)
  have S := S.up e
  have f := f.trans (fz_same e)
  have hd : xs.drop i = x :: xs.drop (i + 1) := by
    obtain ⟨hl, e⟩ := List.getElem?_eq_some_iff.mp hx
    rw [List.drop_eq_getElem_cons hl, e]
  rw [hd] at q
  unfold loopX at q
  cases e1 : t.putE x ev with
  | none => rw [e1] at q; exact q.elim
  | some ev1 =>
    rw [e1] at q
    dsimp only at q
    obtain ⟨h1, h2⟩ := putE_ok t x ev ev1 e1
    refine ⟨R, H0, bas ev, x, bas ev1, S.S, hv, h1, fun σ2 S2 f2 n2 _ => ⟨R0, al0, He, R, al, H0, ev1, cs, T, S.put2 S2 f2 n2 h2, ?_⟩⟩
    unfold seqE at q
    cases eg : g ev1 cs with
    | next ev2 cs2 =>
      rw [eg] at q
      exact fun R3 al3 σ3 H3 T3 p3 f3 S3 => ⟨R3, al3, ev2, cs2, T3, p.trans p3, (f.trans f2).trans f3, S3, q⟩
    | ret u c => rw [eg] at q; exact q
    | raise ex ev2 c => rw [eg] at q; exact q
    | bad => rw [eg] at q; exact q
theorem loop_WE {C : CW} {f : Nat → List V} {n : Nat} {t : Tg} {xs : List D} (hC : ∀ H, Same Fs H → C H f n) (hn : n = xs.length) (hf : ∀ i, i < n → ∃ ds, xs[i]? = some (.tup ds) ∧ Dvs K mg Fs (f i) ds)
    (L0 : LoopAtE K mg W R0 al0 He H0 als Fs Dd t.putE g xs 0 σ H) :
    ∃ Wn : Nat → Nat → L2.St → Hp → Prop, (∃ m, Wn 0 m σ H) ∧ ∀ i m σ H, Wn i m σ H →
      ((ItW C).stop i H ∧ Dd.nx σ H) ∨ ((ItW C).go i H ∧ ∃ N : L2.St → Hp → Prop, (∀ σ' H', N σ' H' → ∃ m', m' < m ∧ Wn (i + 1) m' σ' H') ∧ ∀ x H', (ItW C).yld i H x H' → rdG K mg t.slots t.put x σ H' fun σ2 H2 => rdSE K mg W g { Dd with nx := N, ct := N, bk := Dd.nx } σ2 H2) := by
  refine for_it (walk_W (C := C) (f := f) (n := n)) (LoopAtE K mg W R0 al0 He H0 als Fs Dd t.putE g xs) L0 (fun i σ H _ L => ?_) (fun i x σ H H' hi L y => ?_) (fun σ H L => ?_)
  · obtain ⟨R, al, ev, cs, T, p, f, S, q⟩ := L
    exact hC H (f.trans hid_le)
  · obtain ⟨T, o, rfl, hT, hd, rfl⟩ := y
    obtain ⟨ds, hx, hv⟩ := hf i hi
    refine loop_turnWE hx (same_new hT) L fun R al ev cs S f2 => ?_
    have e1 : fz R σ (bas ev) (upd H T (.frz o (.tup (f i)))) T = some (.frz o (.tup (f i))) := (S.S.newF (same_new hT) hT).trans upd_same
    exact Dv.tup (.inl ⟨o, e1, hd⟩) ((hv.mono f2).mono (fz_same (same_new hT)))
  · rw [hn] at L
    exact loop_endE L
/-! ### while -/
def whileX (t : FET) (g : GE) : Nat → GE
  | 0 => fun _ _ => .bad
  | n + 1 => withT t fun b => if b = true then seqE g (whileX t g n) else nilE
def WhileAtE (K : PySem.W.Frag) (mg : Str → Option Value) (W : L2.WX) (R0 : Addr → Prop) (al0 : List Addr) (He : Hp) (H0 : HZ) (Dd : Ends) (t : FET) (g : GE) (n : Nat) (σ : L2.St) (H : Hp) : Prop :=
  ∃ R al ev cs, Tr R0 al0 He R al H ∧ StE K mg R al H0 σ H ev cs ∧ PostSE K mg W R0 al0 He H0 al (fz R σ (bas ev) H) Dd (whileX t g n ev cs)
end
section
variable {X : Cx} {W : L2.WX} {a b e o : Expr} {s : Stmt} {ss : List Stmt} {pos apos : Pos} {g : GE} {fo f : FE} {fa : En → Rs D} {fs : En → Rs (List D)} {t : FET}
theorem pxs_while {tst : Expr} {body : List Stmt} (hp : PassesOwn (model X.prog X.w) X.A X.env X.xe) (ht : PXT X W tst t) (hb : PXB X W body g) : PXS X W (.While tst body [] pos) (whileX t g manyW) :=
  ps_imp (ps_while (pos := pos) hp ht hb) fun Dd σ H ⟨R0, al0, He, R, al, H0, ev, cs, T, S, q⟩ => by
  refine ⟨WhileAtE X.K X.mg W R0 al0 He H0 Dd t g, ⟨manyW, R, al, ev, cs, T, S, q⟩, ?_⟩
  intro n σ1 H1 ⟨R1, al1, ev1, cs1, T1, S1, q1⟩
  cases n with
  | zero => exact q1.elim
  | succ n =>
    unfold whileX at q1
    refine rdET_with T1 S1 (List.prefix_refl _) (Same.refl _) q1 fun b c H2 R2 al2 T2 T3 S2 q2 => ?_
    cases b with
    | false =>
      have q2 : PostSE X.K X.mg W R0 al0 He H0 al2 (fz R2 σ1 (bas ev1) H2) Dd (.next ev1 c) := q2
      exact q2 R2 al2 σ1 H2 T3 (List.prefix_refl _) (Same.refl _) S2
    | true =>
      have q2 : PostSE X.K X.mg W R0 al0 He H0 al2 (fz R2 σ1 (bas ev1) H2) Dd (seqE g (whileX t g n) ev1 c) := q2
      refine ⟨WhileAtE X.K X.mg W R0 al0 He H0 Dd t g n, fun σ' H' h => ⟨n, Nat.lt_succ_self n, h⟩, R0, al0, He, R2, al2, H0, ev1, c, T3, S2, ?_⟩
      unfold seqE at q2
      cases eg : g ev1 c with
      | next ev2 cs2 =>
        rw [eg] at q2
        exact fun R3 al3 σ3 H3 T4 p3 f3 S3 => ⟨R3, al3, ev2, cs2, T4, S3, PostSE.up (r := whileX t g n ev2 cs2) p3 f3 q2⟩
      | ret u c => rw [eg] at q2; exact q2
      | raise ex ev2 c => rw [eg] at q2; exact q2
      | bad => rw [eg] at q2; exact q2
/-! ### x += e -/
def augX (h : Int → Int → Int) (i : Nat) (f : FE) : GE := fun ev cs => match ev[i]? with
  | some (some (.d (.int k))) => withX f (fun u ev c => match u with
    | .d (.int j) => .next (ev.set i (some (.d (.int (h k j))))) c
    | _ => .bad) ev cs
  | _ => .bad
theorem pxs_aug {h : Int → Int → Int} {op : Operator} {i : Nat} {x : Str} {pos' : Pos} (ho : PIp X op (ipI h)) (hN : X.N.Nodup) (hi : X.N[i]? = some x) (hx : Loc X.env.scope x) (ha : PX X W a f)
    (hf : X.fn x = true ∨ X.env.scope.names.lookup x = some .local := by first | exact .inl rfl | exact .inr rfl | assumption) : PXS X W (.AugAssign (.Name x pos') op a pos) (augX h i f) :=
  ps_imp (ps_aug (pos := pos) hN hi hx ha ho hf) fun Dd σ H ⟨R0, al0, He, R, al, H0, ev, cs, T, S, q⟩ => by
  unfold augX at q
  split at q
  · rename_i k hk
    obtain ⟨v, hv, ht⟩ := S.S.slot i _ (bas_of hk rfl)
    have ht : Dv X.K X.mg (fz R σ (bas ev) H) v (.int k) := ht
    cases ht
    refine ⟨.int k, hv, ?_⟩
    refine rdE_with T S (List.prefix_refl _) (Same.refl _) q fun v u c H1 R1 al1 T1 T2 S1 hu q1 => ?_
    split at q1
    · rename_i j
      cases hu with
      | d hu =>
      cases hu
      obtain ⟨S2, f2⟩ := S1.setU (i := i) (v := .int (h k j)) (u := .d (.int (h k j))) (.d (.int _))
      exact ⟨k, j, rfl, rfl, q1 R1 al1 _ H1 T2 (List.prefix_refl _) f2 S2⟩
    · exact q1.elim
  · exact q.elim
/-! ### x.reverse() -/
def revX (fo : FE) : GE := withX fo fun uo => onL uo fun n => lstC n fun us ev c => .next ev (c.set n (.lst us.reverse))
theorem Uvs.rev {K : PySem.W.Frag} {mg : Str → Option Value} {al : List Addr} {F : Hp} : ∀ {vs : List V} {us : List U}, Uvs K mg al F vs us → Uvs K mg al F vs.reverse us.reverse
  | _, _, .nil => .nil
  | _, _, .cons h r => by
    rw [List.reverse_cons, List.reverse_cons]
    exact (Uvs.rev r).app (.cons h .nil)
theorem pxs_rev (h : PS X s (tDrop (tBM0 X.K "list" rReverse (rdE X.K X.mg W fo)))) : PXS X W s (revX fo) := ps_imp h fun Dd σ H ⟨R0, al0, He, R, al, H0, ev, cs, T, S, q⟩ =>
  rdE_with T S (List.prefix_refl _) (Same.refl _) q fun x uo c H1 R1 al1 T1 T2 S1 hx q1 => by
    unfold onL at q1
    split at q1
    · rename_i n
      split at q1
      · rename_i us0 hc0
        unfold lstC at q1
        dsimp only at q1
        rw [hc0] at q1
        obtain ⟨p, vs, rfl, ha, hp, hvs⟩ := cell_at S1 hx hc0
        obtain ⟨T5, S3⟩ := S1.put (o := .lst vs.reverse) (c := .lst us0.reverse) ha rfl fun F' e => ⟨vs.reverse, upd_same, (hvs.mono (List.prefix_refl _) e).rev⟩
        exact ⟨.inl ⟨rfl, vs, .inl (.inl hp)⟩, p, vs, rfl, rfl, hp, q1 R1 al1 σ _ (T2.trans T5) (List.prefix_refl _) (S1.frz T5) S3⟩
      · exact q1.elim
    · exact q1.elim
/-! ### for over enumerate, zip -/
theorem pxs_forE {t : Tg} {a : Expr} {body : List Stmt} {p pos2 tpos : Pos} {elts : List Expr} {kk : Nat} (hp : PassesOwn (model X.prog X.w) X.A X.env X.xe) (hc : X.calm = true) (gl : Gl X "enumerate") (hm : X.mg "enumerate" = none) (ha : PRA X W [a] fs) (hg : PRG X (.Tuple elts kk tpos) t) (hb : PXB X W body g)
    (hs1 : starEach [a] X.env = [(false, eval a X.env)] := by rfl)
    (hs : ∀ x, foldedSetIterable (.Call (.Name "enumerate" p) [a] [] pos2) X.env x = pure x := by intro _; rfl) : PXS X W (.For (.Tuple elts kk tpos) (.Call (.Name "enumerate" p) [a] [] pos2) body [] pos) (forRX eg t g fs) :=
  ps_imp (ps_for (pos := pos) hp hc (pi_enumW (p := p) (pos := pos2) gl hm ha hs1) hg hb hs) fun Dd σ H ⟨R0, al0, He, R, al, H0, ev, cs, T, S, q⟩ => by
  refine rdA_withX (k := fun ds ev cs => match eg ds with
    | .ok xs => loopX t.putE g xs ev cs
    | _ => .bad) T S q fun vs ds H1 e1 T1 S1 r1 q1 => ?_
  split at q1
  · rename_i xs hxs
    obtain ⟨k, a, ws, rfl, hq, hn, hf⟩ := eg_src r1 hxs
    exact ⟨k, a, ws, rfl, hq.same hid_le, loop_WE (C := CE X.K k a) (f := atE ws) (n := ws.length) (Fs := fz R σ (bas ev) H1) (fun H e => ⟨ws, hq.same e, rfl, rfl⟩) hn hf ⟨R, al, ev, cs, T1, List.prefix_refl _, Same.refl _, S1, q1⟩⟩
  · exact q1.elim
theorem pxs_forZ2 {t : Tg} {a b : Expr} {body : List Stmt} {p pos2 tpos : Pos} {elts : List Expr} {kk : Nat} (hp : PassesOwn (model X.prog X.w) X.A X.env X.xe) (hc : X.calm = true) (gl : Gl X "zip") (hm : X.mg "zip" = none) (ha : PRA X W [a, b] fs) (hg : PRG X (.Tuple elts kk tpos) t) (hb : PXB X W body g)
    (hs1 : starEach [a, b] X.env = (false, eval a X.env) :: starEach [b] X.env := by rfl) (hpl : (backTo pos2 (starEach [b] X.env)).any (·.1) = false := by rfl)
    (hs : ∀ x, foldedSetIterable (.Call (.Name "zip" p) [a, b] [] pos2) X.env x = pure x := by intro _; rfl) : PXS X W (.For (.Tuple elts kk tpos) (.Call (.Name "zip" p) [a, b] [] pos2) body [] pos) (forRX zg2 t g fs) :=
  ps_imp (ps_for (pos := pos) hp hc (pi_zip2W (p := p) (pos := pos2) gl hm ha hs1 hpl) hg hb hs) fun Dd σ H ⟨R0, al0, He, R, al, H0, ev, cs, T, S, q⟩ => by
  refine rdA_withX (k := fun ds ev cs => match zg2 ds with
    | .ok xs => loopX t.putE g xs ev cs
    | _ => .bad) T S q fun vs ds H1 e1 T1 S1 r1 q1 => ?_
  split at q1
  · rename_i xs hxs
    obtain ⟨k1, k2, a, b, ws, us, rfl, hq, hq2, hn, hf⟩ := zg2_src r1 hxs
    exact ⟨k1, k2, a, b, ws, us, rfl, hq.same hid_le, hq2.same hid_le, loop_WE (C := CZ2 X.K k1 k2 a b) (f := at2 ws us) (n := min ws.length us.length) (Fs := fz R σ (bas ev) H1) (fun H e => ⟨ws, us, hq.same e, hq2.same e, rfl, rfl⟩) hn hf ⟨R, al, ev, cs, T1, List.prefix_refl _, Same.refl _, S1, q1⟩⟩
  · exact q1.elim
/-! ### list(d), as a cell -/
def listDX (go : FE) : FE := fun ev cs => bindE (go ev cs) fun u c => match u with
  | .p n => match c[n]? with
    | some (.dct kvs) => .ok (.p c.length) (c ++ [.lst (kvs.map fun kv => .d (dK kv.1))])
    | _ => .bad
  | _ => .bad
theorem uvs_keys {K : PySem.W.Frag} {mg : Str → Option Value} {al al' : List Addr} {F F' : Hp} : ∀ {vs : List (L2.Key × V)} {us : List (L2.Key × U)}, Uks K mg al F vs us → Uvs K mg al' F' (vs.map fun kv => kV kv.1) (us.map fun kv => .d (dK kv.1))
  | _, _, .nil => .nil
  | _, _, .cons (k := j) h r => by
    rw [List.map_cons, List.map_cons]
    refine .cons (.d ?_) (uvs_keys r)
    cases j with
    | inl i => exact .int i
    | inr s => exact .str s
theorem px_listDX {go : FE} {p : Pos} (hc : X.calm = true) (gl : Gl X "list") (hm : X.mg "list" = none) (ho : PX X W o go) (na : starEach [o] X.env = (false, eval o X.env) :: starEach [] X.env := by rfl) (hpl : (backTo pos (starEach [] X.env)).any (·.1) = false := by rfl) : PX X W (.Call (.Name "list" p) [o] [] pos) (listDX go) :=
  pe_imp (pe_callTy (p := p) (pos := pos) (call_list_dK hc) gl hm boot_list (pa_cons ho pa_nil na) (by decide) (by decide) na hpl) fun σ H Q ⟨R, al, H0, ev, cs, S, q⟩ => rdE_seq S q fun v u c1 H1 R1 al1 T1 S1 hu q1 => by
  split at q1
  · rename_i n
    split at q1
    · rename_i kvs hc
      cases hu with
      | p ha =>
        obtain ⟨_, vs, h1, h2⟩ := S1.G.cell n _ _ ha hc
        refine ⟨_, vs, rfl, h1, fun l hl => ?_⟩
        obtain ⟨T2, S2⟩ := S1.alloc (o := .lst (vs.map fun kv => kV kv.1)) (c := .lst (kvs.map fun kv => .d (dK kv.1))) hl fun F' e => ⟨_, upd_same, uvs_keys h2⟩
        exact q1 (.ref l) _ _ _ T2 S2 (.p (by rw [← S1.G.len, List.getElem?_append_right (Nat.le_refl _)]; simp))
    · exact q1.elim
  · exact q1.elim
end
theorem dnp_of {P : Program} {w : World} {K : PySem.W.Frag} {mg : Str → Option Value} {base : Heap} {x qual : Str} {st : Stmt} {f : Addr} {fd : FuncData} {N ps : List Str} {k n : Nat} {g : GE} (F : Fun K x qual st f fd) (S : FnScope N ps (defScope st)) (hn : ps.length = n) (hm : mg x = some (.ref f)) (hb : Binds K fd ps [])
    (body : ∀ (cdv : Value) (A : Around) (outer : List Env) (s : Shared) (H : Hp) (E : XK), Rm k (A.deeper (envOfC qual (defScope st) s.heap.objs.size f cdv)) →
      PXB (cxOf (L2.CX P w) P w K mg base N qual (defScope st) f cdv A outer s H E) (fun cls d _ H => E cls d H) (defBody st) g) :
    Dn P w K mg base (k + 1) x n false (pureE (runE N.length g)) := ⟨⟨f, fd, ps, (ok_defE F S hn body).pure hn, hm, F.kp, hb⟩⟩
end Orn

set_option linter.all false
set_option maxRecDepth 100000
set_option maxHeartbeats 1000000
namespace Orn
open L2 PySem PySem.Spec PyProof.Rows
open PySem.Builtin.SmallTypes (ownedTupleIsFree nextOf)
/-! ### a zip of two lists whose last pair may still be held, or be gone -/
abbrev ZipG (h : Heap) (z TI TO : Addr) (x : Value) (f : Bool) : Prop := h.get? z = some { cls := .type "zip", dict := none, data := .fields #[x, .bool f, .bool false, .ref TI, .ref TO], slots := #[] }
def Held (x : Value) : Prop := x = .none ∨ ∃ T : Addr, x = rawInt T
section
variable {prog : Program} {w : World} {A : Around} {E : Value → Shared → Prop} {s : Shared}
theorem free_zipG {z TI TO : Addr} {x : Value} {f : Bool} {Q : Bool → Shared → Prop} (hx : Held x) (hz : ZipG s.heap z TI TO x f) (h1 : Q true s)
    (h2 : ∀ h', ZipG h' z TI TO x true → Heap.SameBut z s.heap h' → Q false { s with heap := h' }) : wpAny (model prog w) A (ownedTupleIsFree (.ref z)) Q E s := by
  rcases hx with rfl | ⟨T, rfl⟩
  · unfold ownedTupleIsFree
    exact wpAny_bind (wpAny_field hz rfl (x := .none) rfl (wpAny_pure h1))
  · cases hT : s.heap.get? T with
    | some o => exact wpAny_tupleHeld_zip hz hT h2
    | none =>
      unfold ownedTupleIsFree
      refine wpAny_bind (wpAny_field hz rfl (x := rawInt T) rfl ?_)
      show wpAny _ _ (loadIfAlive ((T : Int).toNat) >>= _) _ _ _
      rw [Int.toNat_natCast]
      refine wpAny_bind ?_
      have go : ∀ {Q : Option Obj → Shared → Prop}, Q none s → wpAny (model prog w) A (loadIfAlive T) Q E s := fun {Q} q => by
        have h' : Q (s.heap.get? T) s := by rw [hT]; exact q
        exact fun _ _ _ => h'
      exact go (wpAny_pure h1)
theorem nextOf_zip {z : Addr} {Q : Value → Shared → Prop} (hT : s.TypeIs (.ref z) "zip") (h : wpAny (model prog w) A.in1 (Builtin.«zip.__next__» ⟨[.ref z], []⟩) (fun fin s' => ∃ v, fin = .done (.ret v) ∧ Q v s') E s) : wpAny (model prog w) A (nextOf (.ref z)) Q E s := by
  unfold nextOf
  exact wpAny_bind (wpAny_callSpecial?_slot (name := Str.ofString "__next__") hT F.slot_zip_next (wpAny_call_entry F.slot_zip_next hT F.entry_zip_next (thn h fun fin s' ⟨v, e, q⟩ => ⟨v, e, wpAny_pure q⟩) (F.args_zip_next_1 _)))
theorem zipG_next {z TI TO i1 i2 l1 l2 : Addr} {v a b : Value} {f : Bool} {k : Nat} {xs ys : Array Value} {x y : Value} {Q : Value → Shared → Prop} (D : ZipApart z TI TO i1 i2 l1 l2) (hv : Held v)
    (hz : ZipG s.heap z TI TO v f) (hTI : IsPair s.heap TI (.ref i1) (.ref i2)) (hTO : IsPair s.heap TO a b)
    (h1 : s.heap.IsListIter i1 l1 k) (h2 : s.heap.IsListIter i2 l2 k) (hl1 : s.heap.IsList l1 xs) (hl2 : s.heap.IsList l2 ys) (hx : xs[k]? = some x) (hy : ys[k]? = some y)
    (hQ : ∀ h' v' f', Held v' → ZipG h' z TI TO v' f' → (∃ a b, IsPair h' TO a b) → h'.IsListIter i1 l1 (k + 1) → h'.IsListIter i2 l2 (k + 1) → IsPair h' s.heap.objs.size x y → h'.objs.size = s.heap.objs.size + 1 →
      (∀ c o, c ≠ z → c ≠ TO → c ≠ i1 → c ≠ i2 → s.heap.get? c = some o → h'.get? c = some o) → Q (.ref s.heap.objs.size) { s with heap := h' }) :
    wpAny (model prog w) A (Builtin.«zip.__next__» ⟨[.ref z], []⟩) (fun fin s' => ∃ v, fin = .done (.ret v) ∧ Q v s') E s := by
  show wpAny _ _ (field (.ref z) 2 >>= _) _ _ _
  refine wpAny_bind (wpAny_field hz rfl (x := .bool false) rfl ?_)
  show wpAny _ _ (field (.ref z) 3 >>= _) _ _ _
  refine wpAny_bind (wpAny_field hz rfl (x := .ref TI) rfl ?_)
  refine wpAny_bind (wpAny_seqItems hTI rfl ?_)
  show wpAny _ _ (ownedTupleIsFree (.ref z) >>= _) _ _ _
  refine wpAny_bind (free_zipG hv hz ?_ fun h₁ hz₁ hs₁ => ?_)
  · simp only [if_true]
    refine wpAny_bind (wpAny_rule ?_)
    refine wpAny_bind (wpAny_field hz rfl (x := .ref TO) rfl ?_)
    refine wpAny_bind (wpAny_setField_rec hz (by simp) fun h₁ hz₁ hs₁ => ?_)
    replace hz₁ : ZipG h₁ z TI TO .ellipsis f := hz₁
    refine wpAny_bind ?_
    simp only [List.zipIdx_cons, List.zipIdx_nil, List.forIn_cons, List.forIn_nil]
    refine wpAny_bind (wpAny_bind (wpAny_onRaise ?_))
    show wpAny _ _ (nextOf (.ref i1) >>= _) _ _ _
    refine wpAny_bind (wpAny_nextOf_list_item (h1.extBut hs₁.extBut D.i1z) (hl1.extBut hs₁.extBut D.l1z) hx fun h₂ h1₂ hs₂ => wpAny_pure ?_)
    have p2 : IsPair h₂ TO a b := hs₂.extBut _ _ D.TOi1 (hs₁.extBut _ _ D.TOz hTO)
    refine wpAny_bind (wpAny_seqItems p2 rfl ?_)
    refine wpAny_bind (wpAny_updateSeq_pair p2 fun h₃ p3 hs₃ => ?_)
    replace p3 : IsPair h₃ TO x b := p3
    refine wpAny_bind (wpAny_letGo (wpAny_pure ?_))
    refine wpAny_bind (wpAny_bind (wpAny_onRaise ?_))
    show wpAny _ _ (nextOf (.ref i2) >>= _) _ _ _
    refine wpAny_bind (wpAny_nextOf_list_item (((h2.extBut hs₁.extBut D.i2z).extBut hs₂.extBut D.i12.symm).extBut hs₃.extBut D.TOi2.symm) (((hl2.extBut hs₁.extBut D.l2z).extBut hs₂.extBut D.l2i1).extBut hs₃.extBut D.l2TO) hy fun h₄ h2₄ hs₄ => wpAny_pure ?_)
    have p4 : IsPair h₄ TO x b := hs₄.extBut _ _ D.TOi2 p3
    refine wpAny_bind (wpAny_seqItems p4 rfl ?_)
    refine wpAny_bind (wpAny_updateSeq_pair p4 fun h₅ p5 hs₅ => ?_)
    replace p5 : IsPair h₅ TO x y := p5
    refine wpAny_bind (wpAny_letGo (wpAny_pure (wpAny_pure ?_)))
    refine wpAny_bind (wpAny_seqItems p5 rfl ?_)
    refine wpAny_bind (wpAny_newTuple ?_)
    have hsz : h₅.objs.size = s.heap.objs.size := by rw [hs₅.1, hs₄.1, hs₃.1, hs₂.1, hs₁.1]
    have z5 : ZipG h₅ z TI TO .ellipsis f := hs₅.extBut _ _ D.TOz.symm (hs₄.extBut _ _ D.i2z.symm (hs₃.extBut _ _ D.TOz.symm (hs₂.extBut _ _ D.i1z.symm hz₁)))
    have k5 : ∀ c o, c ≠ z → c ≠ TO → c ≠ i1 → c ≠ i2 → s.heap.get? c = some o → h₅.get? c = some o := fun c o c1 c2 c3 c4 e =>
      hs₅.extBut _ _ c2 (hs₄.extBut _ _ c4 (hs₃.extBut _ _ c2 (hs₂.extBut _ _ c3 (hs₁.extBut _ _ c1 e))))
    have q1 : h₅.IsListIter i1 l1 (k + 1) := ((h1₂.extBut hs₃.extBut D.TOi1.symm).extBut hs₄.extBut D.i12).extBut hs₅.extBut D.TOi1.symm
    have q2 : h₅.IsListIter i2 l2 (k + 1) := h2₄.extBut hs₅.extBut D.TOi2.symm
    have hzlt : z < h₅.objs.size := Heap.lt_size z5
    show wpAny _ _ (Builtin.SmallTypes.ownedTupleHandOut (.ref z) (.ref h₅.objs.size) >>= _) _ _ _
    refine wpAny_bind ?_
    unfold Builtin.SmallTypes.ownedTupleHandOut
    have z6 : ZipG (h₅.push { cls := .type "tuple", data := .seq #[x, y] }) z TI TO .ellipsis f := Heap.get?_push_of_some _ z5
    refine wpAny_bind (wpAny_setField_rec z6 (by simp) fun h₇ z7 hs₇ => ?_)
    replace z7 : ZipG h₇ z TI TO (rawInt h₅.objs.size) f := z7
    refine wpAny_setField_rec z7 (by simp) fun h₈ z8 hs₈ => ?_
    replace z8 : ZipG h₈ z TI TO (rawInt h₅.objs.size) false := z8
    have up : ∀ c o, c ≠ z → h₅.get? c = some o → h₈.get? c = some o := fun c o c1 e => hs₈.extBut _ _ c1 (hs₇.extBut _ _ c1 (Heap.get?_push_of_some _ e))
    have t8 : IsPair h₈ h₅.objs.size x y := hs₈.extBut _ _ (Nat.ne_of_gt hzlt) (hs₇.extBut _ _ (Nat.ne_of_gt hzlt) (Heap.get?_push_size _ rfl))
    have n8 : h₈.objs.size = h₅.objs.size + 1 := by rw [hs₈.1, hs₇.1, Heap.size_push]
    rw [hsz] at z8 t8 n8
    refine wpAny_pure ⟨_, rfl, ?_⟩
    show Q (.ref h₅.objs.size) _
    rw [hsz]
    exact hQ h₈ _ _ (.inr ⟨_, rfl⟩) z8 ⟨x, y, up _ _ D.TOz p5⟩ (q1.at fun o e => up _ o D.i1z e) (q2.at fun o e => up _ o D.i2z e) t8 n8 fun c o c1 c2 c3 c4 e => up c o c1 (k5 c o c1 c2 c3 c4 e)
  · simp only [Bool.false_eq_true, if_false]
    refine wpAny_bind ?_
    rw [← Array.forIn_toList]
    simp only [List.forIn_cons, List.forIn_nil]
    refine wpAny_bind (wpAny_bind (wpAny_holding ?_))
    show wpAny _ _ (nextOf (.ref i1) >>= _) _ _ _
    refine wpAny_bind (wpAny_nextOf_list_item (s := { s with heap := h₁ }) (h1.extBut hs₁.extBut D.i1z) (hl1.extBut hs₁.extBut D.l1z) hx fun h₂ h1₂ hs₂ => wpAny_pure ?_)
    refine wpAny_pure ?_
    refine wpAny_bind (wpAny_bind (wpAny_holding ?_))
    show wpAny _ _ (nextOf (.ref i2) >>= _) _ _ _
    refine wpAny_bind (wpAny_nextOf_list_item (s := { s with heap := h₂ }) ((h2.extBut hs₁.extBut D.i2z).extBut hs₂.extBut D.i12.symm) ((hl2.extBut hs₁.extBut D.l2z).extBut hs₂.extBut D.l2i1) hy fun h₃ h2₃ hs₃ => wpAny_pure ?_)
    refine wpAny_pure (wpAny_pure ?_)
    show wpAny _ _ (newTuple [x, y] >>= _) _ _ _
    refine wpAny_bind (wpAny_newTuple ?_)
    have hsz : h₃.objs.size = s.heap.objs.size := by rw [hs₃.1, hs₂.1, hs₁.1]
    have z3 : ZipG h₃ z TI TO v true := hs₃.extBut _ _ D.i2z.symm (hs₂.extBut _ _ D.i1z.symm hz₁)
    have hk : ∀ c o, c ≠ z → c ≠ i1 → c ≠ i2 → s.heap.get? c = some o → h₃.get? c = some o := fun c o c1 c2 c3 e => hs₃.extBut _ _ c3 (hs₂.extBut _ _ c2 (hs₁.extBut _ _ c1 e))
    have q1 : h₃.IsListIter i1 l1 (k + 1) := h1₂.extBut hs₃.extBut D.i12
    refine wpAny_pure ⟨_, rfl, ?_⟩
    show Q (.ref h₃.objs.size) _
    have hp : IsPair (h₃.push { cls := .type "tuple", data := .seq #[x, y] }) h₃.objs.size x y := Heap.get?_push_size _ rfl
    have n4 : (h₃.push { cls := .type "tuple", data := .seq #[x, y] }).objs.size = h₃.objs.size + 1 := Heap.size_push ..
    rw [hsz] at hp n4 ⊢
    exact hQ _ _ _ hv (Heap.get?_push_of_some _ z3) ⟨a, b, Heap.get?_push_of_some _ (hk _ _ D.TOz D.TOi1 D.TOi2 hTO)⟩ (q1.at fun o e => Heap.get?_push_of_some _ e) (h2₃.at fun o e => Heap.get?_push_of_some _ e) hp n4 fun c o c1 _ c3 c4 e => Heap.get?_push_of_some _ (hk c o c1 c3 c4 e)
theorem zipG_end {z TI TO i1 i2 l1 l2 : Addr} {v a b : Value} {f : Bool} {k : Nat} {xs ys : Array Value} {Q : Fin → Shared → Prop} (hh : A.handled = none) (D : ZipApart z TI TO i1 i2 l1 l2) (hv : Held v)
    (hz : ZipG s.heap z TI TO v f) (hTI : IsPair s.heap TI (.ref i1) (.ref i2)) (hTO : IsPair s.heap TO a b)
    (h1 : s.heap.IsListIter i1 l1 k) (h2 : s.heap.IsListIter i2 l2 k) (hl1 : s.heap.IsList l1 xs) (hl2 : s.heap.IsList l2 ys) (hend : xs[k]? = none ∨ ys[k]? = none)
    (hE : ∀ h' e, (∀ c o, c ≠ z → c ≠ TO → c ≠ i1 → c ≠ i2 → s.heap.get? c = some o → h'.get? c = some o) → (∃ o, h'.get? e = some o ∧ o.cls = .type "StopIteration") → E (.ref e) { s with heap := h' }) :
    wpAny (model prog w) A (Builtin.«zip.__next__» ⟨[.ref z], []⟩) Q E s := by
  show wpAny _ _ (field (.ref z) 2 >>= _) _ _ _
  refine wpAny_bind (wpAny_field hz rfl (x := .bool false) rfl ?_)
  show wpAny _ _ (field (.ref z) 3 >>= _) _ _ _
  refine wpAny_bind (wpAny_field hz rfl (x := .ref TI) rfl ?_)
  refine wpAny_bind (wpAny_seqItems hTI rfl ?_)
  show wpAny _ _ (ownedTupleIsFree (.ref z) >>= _) _ _ _
  refine wpAny_bind (free_zipG hv hz ?_ fun h₁ hz₁ hs₁ => ?_)
  · simp only [if_true]
    refine wpAny_bind (wpAny_rule ?_)
    refine wpAny_bind (wpAny_field hz rfl (x := .ref TO) rfl ?_)
    refine wpAny_bind (wpAny_setField_rec hz (by simp) fun h₁ hz₁ hs₁ => ?_)
    replace hz₁ : ZipG h₁ z TI TO .ellipsis f := hz₁
    refine wpAny_bind ?_
    simp only [List.zipIdx_cons, List.zipIdx_nil, List.forIn_cons, List.forIn_nil]
    refine wpAny_bind (wpAny_bind (wpAny_onRaise ?_))
    show wpAny _ _ (nextOf (.ref i1) >>= _) _ _ _
    cases hx : xs[k]? with
    | none =>
      refine wpAny_bind (wpAny_nextOf_list_end hh (h1.extBut hs₁.extBut D.i1z) (hl1.extBut hs₁.extBut D.l1z) hx fun h₂ e hs₂ he => ?_)
      obtain ⟨oe, hoe, hce⟩ := he
      have z2 : ZipG h₂ z TI TO .ellipsis f := hs₂ _ _ D.i1z.symm hz₁
      have hez : e ≠ z := fun x => by subst x; rw [z2] at hoe; cases hoe; simp at hce
      exact wpAny_setField_rec z2 (by simp) fun h₃ _ hs₃ => hE h₃ e (fun c o c1 c2 c3 c4 x => hs₃.extBut _ _ c1 (hs₂ _ _ c3 (hs₁.extBut _ _ c1 x))) ⟨oe, hs₃.extBut _ _ hez hoe, hce⟩
    | some x =>
      have hy : ys[k]? = none := by rcases hend with h | h; rw [hx] at h; cases h; exact h
      refine wpAny_bind (wpAny_nextOf_list_item (h1.extBut hs₁.extBut D.i1z) (hl1.extBut hs₁.extBut D.l1z) hx fun h₂ h1₂ hs₂ => wpAny_pure ?_)
      have p2 : IsPair h₂ TO a b := hs₂.extBut _ _ D.TOi1 (hs₁.extBut _ _ D.TOz hTO)
      refine wpAny_bind (wpAny_seqItems p2 rfl ?_)
      refine wpAny_bind (wpAny_updateSeq_pair p2 fun h₃ p3 hs₃ => ?_)
      refine wpAny_bind (wpAny_letGo (wpAny_pure ?_))
      refine wpAny_bind (wpAny_bind (wpAny_onRaise ?_))
      show wpAny _ _ (nextOf (.ref i2) >>= _) _ _ _
      refine wpAny_bind (wpAny_nextOf_list_end hh (((h2.extBut hs₁.extBut D.i2z).extBut hs₂.extBut D.i12.symm).extBut hs₃.extBut D.TOi2.symm) (((hl2.extBut hs₁.extBut D.l2z).extBut hs₂.extBut D.l2i1).extBut hs₃.extBut D.l2TO) hy fun h₄ e hs₄ he => ?_)
      obtain ⟨oe, hoe, hce⟩ := he
      have z4 : ZipG h₄ z TI TO .ellipsis f := hs₄ _ _ D.i2z.symm (hs₃.extBut _ _ D.TOz.symm (hs₂.extBut _ _ D.i1z.symm hz₁))
      have hez : e ≠ z := fun x => by subst x; rw [z4] at hoe; cases hoe; simp at hce
      exact wpAny_setField_rec z4 (by simp) fun h₅ _ hs₅ => hE h₅ e (fun c o c1 c2 c3 c4 x => hs₅.extBut _ _ c1 (hs₄ _ _ c4 (hs₃.extBut _ _ c2 (hs₂.extBut _ _ c3 (hs₁.extBut _ _ c1 x))))) ⟨oe, hs₅.extBut _ _ hez hoe, hce⟩
  · simp only [Bool.false_eq_true, if_false]
    refine wpAny_bind ?_
    rw [← Array.forIn_toList]
    simp only [List.forIn_cons, List.forIn_nil]
    refine wpAny_bind (wpAny_bind (wpAny_holding ?_))
    show wpAny _ _ (nextOf (.ref i1) >>= _) _ _ _
    cases hx : xs[k]? with
    | none =>
      refine wpAny_bind (wpAny_nextOf_list_end (s := { s with heap := h₁ }) hh (h1.extBut hs₁.extBut D.i1z) (hl1.extBut hs₁.extBut D.l1z) hx fun h₂ e hs₂ he => ?_)
      exact hE h₂ e (fun c o c1 _ c3 _ x => hs₂ _ _ c3 (hs₁.extBut _ _ c1 x)) he
    | some x =>
      have hy : ys[k]? = none := by rcases hend with h | h; rw [hx] at h; cases h; exact h
      refine wpAny_bind (wpAny_nextOf_list_item (s := { s with heap := h₁ }) (h1.extBut hs₁.extBut D.i1z) (hl1.extBut hs₁.extBut D.l1z) hx fun h₂ h1₂ hs₂ => wpAny_pure ?_)
      refine wpAny_pure ?_
      refine wpAny_bind (wpAny_bind (wpAny_holding ?_))
      show wpAny _ _ (nextOf (.ref i2) >>= _) _ _ _
      refine wpAny_bind (wpAny_nextOf_list_end (s := { s with heap := h₂ }) hh ((h2.extBut hs₁.extBut D.i2z).extBut hs₂.extBut D.i12.symm) ((hl2.extBut hs₁.extBut D.l2z).extBut hs₂.extBut D.l2i1) hy fun h₃ e hs₃ he => ?_)
      exact hE h₃ e (fun c o c1 _ c3 c4 x => hs₃ _ _ c4 (hs₂.extBut _ _ c3 (hs₁.extBut _ _ c1 x))) he
/-- what stands between two turns -/
structure ZipS (h : Heap) (e z TI TO i1 i2 l1 l2 : Addr) (k : Nat) : Prop where
  en : ∃ old, IsEnum h e z ((k : Nat) : Int) old
  zp : ∃ v f, Held v ∧ ZipG h z TI TO v f
  ti : IsPair h TI (.ref i1) (.ref i2)
  to : ∃ a b, IsPair h TO a b
  l1 : h.IsListIter i1 l1 k
  l2 : h.IsListIter i2 l2 k
structure EnumApart (e z TI TO i1 i2 l1 l2 : Addr) : Prop where
  ez : e ≠ z
  eTI : e ≠ TI
  eTO : e ≠ TO
  ei1 : e ≠ i1
  ei2 : e ≠ i2
  el1 : e ≠ l1
  el2 : e ≠ l2
theorem enumZ_next {e z TI TO i1 i2 l1 l2 : Addr} {k : Nat} {xs ys : Array Value} {x y : Value} {Q : Option Value → Shared → Prop} (D : ZipApart z TI TO i1 i2 l1 l2) (N : EnumApart e z TI TO i1 i2 l1 l2) (S : ZipS s.heap e z TI TO i1 i2 l1 l2 k)
    (hl1 : s.heap.IsList l1 xs) (hl2 : s.heap.IsList l2 ys) (hx : xs[k]? = some x) (hy : ys[k]? = some y)
    (hQ : ∀ h₁ h' tk x', IsPair h₁ s.heap.objs.size x y → h₁.objs.size = s.heap.objs.size + 1 → (∀ c o, c ≠ z → c ≠ TO → c ≠ i1 → c ≠ i2 → s.heap.get? c = some o → h₁.get? c = some o) → (∀ c o, c ≠ e → h₁.get? c = some o → h'.get? c = some o) → IsEnumOut h' e z ((k : Int) + 1) x' (s.heap.objs.size + 1) → (∃ v f, Held v ∧ ZipG h' z TI TO v f) → (∃ a b, IsPair h' TO a b) → h'.IsListIter i1 l1 (k + 1) → h'.IsListIter i2 l2 (k + 1) → IsPair h' s.heap.objs.size x y →
      h'.get? (s.heap.objs.size + 1) = some { cls := .type "tuple", data := .seq #[.int k tk, .ref s.heap.objs.size] } →
      Q (some (.ref (s.heap.objs.size + 1))) { s with heap := h', toks := tk + 1 }) :
    wpAny (model prog w) A (pyNext (.ref e)) Q E s := by
  obtain ⟨⟨old, he⟩, ⟨v, f, hv, hz⟩, hTI, ⟨a, b, hTO⟩, h1, h2⟩ := S
  have hT : s.TypeIs (.ref e) "enumerate" := ⟨_, he, rfl⟩
  unfold pyNext
  refine wpAny_bind (wpAny_attempt (wpAny_callSpecial?_slot (name := Str.ofString "__next__") hT F.slot_enumerate_next (wpAny_call_entry F.slot_enumerate_next hT F.entry_enumerate_next ?_ (F.args_enumerate_next_1 _))))
  obtain ⟨hp, g, d, tk, os⟩ := s
  have hel : e < hp.objs.size := Heap.lt_size he
  show wpAny _ _ (field (.ref e) 2 >>= _) _ _ _
  refine wpAny_bind (wpAny_field he rfl (x := .ref z) rfl ?_)
  refine wpAny_bind (nextOf_zip ⟨_, hz, rfl⟩ (zipG_next D hv hz hTI hTO h1 h2 hl1 hl2 hx hy fun h₁ v' f' hv' z1 to1 a1 a2 p1 n1 k1 => ?_))
  have he₁ : IsEnum h₁ e z k old := k1 e _ N.ez N.eTO N.ei1 N.ei2 he
  show wpAny _ _ (field (.ref e) 3 >>= _) _ _ ⟨h₁, g, d, tk, os⟩
  refine wpAny_bind (wpAny_field he₁ rfl (x := rawInt k) rfl ?_)
  show wpAny _ _ (field (.ref e) 4 >>= _) _ _ ⟨h₁, g, d, tk, os⟩
  refine wpAny_bind (wpAny_field he₁ rfl (x := .none) rfl ?_)
  show wpAny _ _ (mkInt k >>= _) _ _ ⟨h₁, g, d, tk, os⟩
  refine wpAny_bind (wpAny_mkInt ?_)
  show wpAny _ _ (setField (.ref e) 3 (rawInt ((k : Int) + 1)) >>= _) _ _ ⟨h₁, g, d, tk + 1, os⟩
  refine wpAny_bind (wpAny_setField_rec he₁ (by simp) fun h₂ he₂ hs₂ => ?_)
  replace hs₂ : Heap.SameBut e h₁ h₂ := hs₂
  replace he₂ : IsEnum h₂ e z ((k : Int) + 1) old := he₂
  show wpAny _ _ (setField (.ref e) 4 .none >>= _) _ _ ⟨h₂, g, d, tk + 1, os⟩
  refine wpAny_bind (wpAny_setField_rec he₂ (by simp) fun h₃ he₃ hs₃ => ?_)
  replace hs₃ : Heap.SameBut e h₂ h₃ := hs₃
  replace he₃ : IsEnum h₃ e z ((k : Int) + 1) old := he₃
  show wpAny _ _ (newTuple [.int k tk, .ref hp.objs.size] >>= _) _ _ ⟨h₃, g, d, tk + 1, os⟩
  refine wpAny_bind (wpAny_newTuple ?_)
  have he₄ : IsEnum (h₃.push { cls := .type "tuple", data := .seq #[.int k tk, .ref hp.objs.size] }) e z ((k : Int) + 1) old := Heap.get?_push_of_some _ he₃
  generalize hh₄ : h₃.push { cls := .type "tuple", data := .seq #[.int k tk, .ref hp.objs.size] } = h₄ at he₄
  have hsz : h₃.objs.size = hp.objs.size + 1 := by rw [hs₃.1, hs₂.1]; exact n1
  have ht₄ : h₄.get? (hp.objs.size + 1) = some { cls := .type "tuple", data := .seq #[.int k tk, .ref hp.objs.size] } := by rw [← hh₄, ← hsz]; exact Heap.get?_push_size _ rfl
  have k4 : ∀ b o, b ≠ e → h₁.get? b = some o → h₄.get? b = some o := fun b o hbe hb => by
    rw [← hh₄]; exact Heap.get?_push_of_some _ (hs₃.extBut b o hbe (hs₂.extBut b o hbe hb))
  show wpAny _ _ (ownedTupleIsFree (.ref e) >>= _) _ _ ⟨h₄, g, d, tk + 1, os⟩
  rw [hsz]
  clear hh₄ he₃ hs₃ he₂ hs₂ hsz h₃ h₂
  refine wpAny_bind ?_
  · unfold ownedTupleIsFree
    refine wpAny_bind (wpAny_field he₄ rfl (x := .none) rfl (wpAny_pure ?_))
    simp only [if_true]
    refine wpAny_bind (wpAny_rule ?_)
    refine wpAny_bind (wpAny_field he₄ rfl (x := old) rfl ?_)
    refine wpAny_bind (wpAny_setField_rec he₄ (by simp) fun h₅ he₅ hs₅ => ?_)
    replace hs₅ : Heap.SameBut e h₄ h₅ := hs₅
    replace he₅ : IsEnum h₅ e z ((k : Int) + 1) (.ref hp.objs.size) := he₅
    show wpAny _ _ (Builtin.SmallTypes.ownedTupleHandOut (.ref e) (.ref (hp.objs.size + 1)) >>= _) _ _ ⟨h₅, g, d, tk + 1, os⟩
    refine wpAny_bind ?_
    · unfold Builtin.SmallTypes.ownedTupleHandOut
      refine wpAny_bind (wpAny_setField_rec he₅ (by simp) fun h₆ he₆ hs₆ => ?_)
      replace hs₆ : Heap.SameBut e h₅ h₆ := hs₆
      replace he₆ : IsEnumOut h₆ e z ((k : Int) + 1) (.ref hp.objs.size) (hp.objs.size + 1) := he₆
      refine wpAny_setField_rec he₆ (by simp) fun h₇ he₇ hs₇ => ?_
      replace hs₇ : Heap.SameBut e h₆ h₇ := hs₇
      replace he₇ : IsEnumOut h₇ e z ((k : Int) + 1) (.ref hp.objs.size) (hp.objs.size + 1) := he₇
      have up7 : ∀ b o, b ≠ e → h₄.get? b = some o → h₇.get? b = some o := fun b o hbe y => hs₇.extBut b o hbe (hs₆.extBut b o hbe (hs₅.extBut b o hbe y))
      have up : ∀ b o, b ≠ e → h₁.get? b = some o → h₇.get? b = some o := fun b o hbe y => up7 b o hbe (k4 b o hbe y)
      obtain ⟨a', b', to1⟩ := to1
      refine wpAny_bind (wpAny_letGo (wpAny_pure ⟨_, rfl, wpAny_pure (hQ h₁ h₇ tk _ p1 n1 k1 up he₇ ⟨v', f', hv', up _ _ N.ez.symm z1⟩ ⟨a', b', up _ _ N.eTO.symm to1⟩ (a1.at fun o y => up _ o N.ei1.symm y) (a2.at fun o y => up _ o N.ei2.symm y) (up _ _ (Nat.ne_of_gt hel) p1) (up7 _ _ (Nat.ne_of_gt (Nat.lt_succ_of_lt hel)) ht₄))⟩))
theorem enumZ_end {e z TI TO i1 i2 l1 l2 : Addr} {k : Nat} {xs ys : Array Value} {Q : Option Value → Shared → Prop} (hh : A.handled = none) (D : ZipApart z TI TO i1 i2 l1 l2) (S : ZipS s.heap e z TI TO i1 i2 l1 l2 k)
    (hl1 : s.heap.IsList l1 xs) (hl2 : s.heap.IsList l2 ys) (hend : xs[k]? = none ∨ ys[k]? = none)
    (hQ : ∀ h', (∀ c o, c ≠ z → c ≠ TO → c ≠ i1 → c ≠ i2 → s.heap.get? c = some o → h'.get? c = some o) → Q none { s with heap := h' }) :
    wpAny (model prog w) A (pyNext (.ref e)) Q E s := by
  obtain ⟨⟨old, he⟩, ⟨v, f, hv, hz⟩, hTI, ⟨a, b, hTO⟩, h1, h2⟩ := S
  have hT : s.TypeIs (.ref e) "enumerate" := ⟨_, he, rfl⟩
  unfold pyNext
  refine wpAny_bind (wpAny_attempt (wpAny_callSpecial?_slot (name := Str.ofString "__next__") hT F.slot_enumerate_next (wpAny_call_entry F.slot_enumerate_next hT F.entry_enumerate_next ?_ (F.args_enumerate_next_1 _))))
  show wpAny _ _ (field (.ref e) 2 >>= _) _ _ _
  refine wpAny_bind (wpAny_field he rfl (x := .ref z) rfl ?_)
  refine wpAny_bind (nextOf_zip ⟨_, hz, rfl⟩ (zipG_end hh D hv hz hTI hTO h1 h2 hl1 hl2 hend fun h' x hk hx' => ?_))
  obtain ⟨o, ho, hc⟩ := hx'
  refine wpAny_bind (wpAny_isInstance (T := "StopIteration") (b := true) ⟨o, ho, hc⟩ isSubtype_stop ?_)
  exact wpAny_pure (hQ _ hk)
end
end Orn

set_option linter.all false
set_option maxRecDepth 100000
set_option maxHeartbeats 1000000
namespace PySem
open Sem (wp)
theorem meets_enumerate_newZ {z TI TO : Addr} :
    Meets (Builtin.«enumerate.__new__» ⟨[.type "enumerate", .ref z], []⟩) (fun _ R s => IsZip s.heap z TI TO .none ∧
      R (.ok (.ret (.ref s.heap.objs.size))) { s with heap := s.heap.push { cls := .type "enumerate", data := .fields #[.none, .bool false, .ref z, rawInt 0, .none, .none] } }) :=
  .of_wp fun prog w A R s h => by
    obtain ⟨hp, g, d, tk, os⟩ := s; obtain ⟨h1, h⟩ := h
    have hsub := sub_enumerate
    have q1 : ∀ {A' : Around} {E : Value → Shared → Prop} {Q : Value → Shared → Prop}, Q (.ref z) ⟨hp, g, d, tk, os⟩ → wpAny (model prog w) A' (pyIter (.ref z)) Q E ⟨hp, g, d, tk, os⟩ :=
      fun q => wpAny_pyIter_zip h1 q
    wp_walk using q1
    refine wpAny_stack_any fun st => wpAny_pure ?_
    split
    · rename_i c _ _ _ _ _
      cases (c == Value.type "enumerate")
      · wp_walk using q1
        exact ⟨_, rfl, h⟩
      · wp_walk using q1
        exact ⟨_, rfl, h⟩
    · wp_walk using q1
      exact ⟨_, rfl, h⟩
theorem enum_zip {prog : Program} {w : World} {A : Around} {E : Value → Shared → Prop} {s : Shared} {z TI TO : Addr} {Q : Value → Shared → Prop} (hz : IsZip s.heap z TI TO .none)
    (h : ∀ h', IsEnum h' s.heap.objs.size z 0 .none → (∀ b o, s.heap.get? b = some o → h'.get? b = some o) → Q (.ref s.heap.objs.size) { s with heap := h' }) :
    wpAny (model prog w) A (call (.type "enumerate") [.ref z]) Q E s := by
  refine callType_new F.called_enumerate (by decide) (F.typeCall_enumerate_1 _) (F.newCall_enumerate_1 _) (fun obj => F.args_object_init_2 obj _) F.entry_enumerate_new
    (meets_enumerate_newZ (z := z) (TI := TI) (TO := TO)) ⟨hz, ?_⟩
  have he : IsEnum (s.heap.push { cls := .type "enumerate", data := .fields #[.none, .bool false, .ref z, rawInt 0, .none, .none] }) s.heap.objs.size z 0 .none :=
    Heap.get?_push_size s.heap (o := { cls := .type "enumerate", data := .fields #[.none, .bool false, .ref z, rawInt 0, .none, .none] }) rfl
  exact ⟨⟨_, he, rfl⟩, h _ he fun b o x => Heap.get?_push_of_some _ x⟩
end PySem
namespace Orn
open L2 PySem PySem.Spec PyProof.Rows
/-- n turns, turn i giving a tuple of i and of the tuple f i -/
def ItEW (C : CW) : It :=
  ⟨fun i H => ∃ f n, C H f n ∧ i < n,
   fun i H v H' => ∃ T1 T o1 o, v = .ref T ∧ H T1 = none ∧ H T = none ∧ T ≠ T1 ∧ o1.dict = none ∧ o.dict = none ∧ ∀ f n, C H f n → H' = upd (upd H T1 (.frz o1 (.tup (f i)))) T (.frz o (.tup [.int (i : Nat), .ref T1])),
   fun i H => ∃ f, C H f i⟩
theorem walk_EW {C : CW} {f : Nat → List V} {n : Nat} : Walk (ItEW C) n (fun H => C H f n) (fun i H x H' => ∃ T1 T o1 o, x = .ref T ∧ H T1 = none ∧ H T = none ∧ T ≠ T1 ∧ o1.dict = none ∧ o.dict = none ∧ H' = upd (upd H T1 (.frz o1 (.tup (f i)))) T (.frz o (.tup [.int (i : Nat), .ref T1]))) :=
  ⟨fun i H hi h => ⟨f, n, h, hi⟩, fun H h => ⟨f, h⟩, fun i H x H' hi h ⟨T1, T, o1, o, h1, h2, h3, h4, h5, h6, h7⟩ => ⟨T1, T, o1, o, h1, h2, h3, h4, h5, h6, h7 f n h⟩⟩
theorem turn_enumZip {P : Program} {w : World} {K : PySem.W.Frag} {elts : List Expr} {kk : Nat} {tpos : Pos} {e z TI TO i1 i2 a b : Addr} (D : ZipApart z TI TO i1 i2 a b) (N : EnumApart e z TI TO i1 i2 a b) :
    Turn P w K (.Tuple elts kk tpos) (ItEW (CZ2 K true true a b)) [e, z, TI, TO, i1, i2] e (fun i h => ZipS h e z TI TO i1 i2 a b i) where
  mem := by simp
  obj := fun i h st c hc => by
    obtain ⟨⟨old, he⟩, ⟨v, f, hv, hz⟩, hTI, ⟨x, y, hTO⟩, h1, h2⟩ := st
    have e' : c = e ∨ c = z ∨ c = TI ∨ c = TO ∨ c = i1 ∨ c = i2 := by simpa using hc
    rcases e' with q | q | q | q | q | q
    · rw [q]; exact ⟨_, he, fun v q => nomatch q⟩
    · rw [q]; exact ⟨_, hz, fun v q => nomatch q⟩
    · rw [q]; exact ⟨_, hTI, fun v q => nomatch q⟩
    · rw [q]; exact ⟨_, hTO, fun v q => nomatch q⟩
    · rw [q]; exact IsIt.obj (k := true) h1
    · rw [q]; exact IsIt.obj (k := true) h2
  keep := fun i h h' st k => by
    obtain ⟨⟨old, he⟩, ⟨v, f, hv, hz⟩, hTI, ⟨x, y, hTO⟩, h1, h2⟩ := st
    exact ⟨⟨old, k e (by simp) _ he⟩, ⟨v, f, hv, k z (by simp) _ hz⟩, k TI (by simp) _ hTI, ⟨x, y, k TO (by simp) _ hTO⟩, h1.at fun o q => k i1 (by simp) o q, h2.at fun o q => k i2 (by simp) o q⟩
  item := by
    intro X hP hw hK hc i pins s σ H E I hf st hg
    subst hP hw hK
    obtain ⟨f, n, ⟨xs, ys, hqx, hqy, rfl, rfl⟩, hi⟩ := hg
    obtain ⟨its, rv, p, _⟩ := hqx.it I
    obtain ⟨its2, rv2, p2, _⟩ := hqy.it I
    have hi1 : i < xs.length := by omega
    have hi2 : i < ys.length := by omega
    obtain ⟨u, hu, ru⟩ := rv.get (List.getElem?_eq_getElem hi1)
    obtain ⟨u2, hu2, ru2⟩ := rv2.get (List.getElem?_eq_getElem hi2)
    have hel : e < s.heap.objs.size := by obtain ⟨_, q⟩ := st.en; exact Heap.lt_size q
    refine enumZ_next D N st p p2 (x := u) (y := u2) (by simpa using hu) (by simpa using hu2) fun h₁ h' tk x' t1 n1 k1 up ho z1 to1 a1 a2 q1 q2 => ?_
    refine ⟨_, rfl, wpAny_letOwnedTupleGo_enum (s := { s with heap := h', toks := tk + 1 }) ho fun h'' he' sb => ?_⟩
    have t2 : h''.get? (s.heap.objs.size + 1) = some { cls := .type "tuple", data := .seq #[.int i tk, .ref s.heap.objs.size] } := (sb.2 _ (Nat.ne_of_gt (Nat.lt_succ_of_lt hel))).trans q2
    have new1 : ObjOk X.prog X.w (upd H s.heap.objs.size (.frz { cls := .type "tuple", data := .seq #[u, u2] } (.tup [xs[i], ys[i]]))) h₁ s.heap.objs.size (.frz { cls := .type "tuple", data := .seq #[u, u2] } (.tup [xs[i], ys[i]])) :=
      ⟨t1, by show 2 ≤ sizeLine; decide, [u, u2], .cons ru (.cons ru2 .nil), ⟨_, t1, rfl, _, rfl⟩⟩
    have I1 := I.turnedNew (t' := tk) (ch := [e, z, TI, TO, i1, i2]) (fun c o hb q => k1 c o (fun q' => hb (by simp [q'])) (fun q' => hb (by simp [q'])) (fun q' => hb (by simp [q'])) (fun q' => hb (by simp [q'])) q) hf (Nat.le_refl _) new1
    have fe : ∀ b ∈ [e], FpOk X pins (upd H s.heap.objs.size (.frz { cls := .type "tuple", data := .seq #[u, u2] } (.tup [xs[i], ys[i]]))) b := fun b hb => by
      rw [List.mem_singleton.mp hb]
      obtain ⟨f0, f1⟩ := hf e (by simp)
      exact ⟨by rw [upd_ne (Nat.ne_of_lt hel)]; exact f0, f1⟩
    have new2 : ObjOk X.prog X.w (upd (upd H s.heap.objs.size (.frz { cls := .type "tuple", data := .seq #[u, u2] } (.tup [xs[i], ys[i]]))) (s.heap.objs.size + 1) (.frz { cls := .type "tuple", data := .seq #[.int i tk, .ref s.heap.objs.size] } (.tup [.int (i : Nat), .ref s.heap.objs.size]))) h'' (s.heap.objs.size + 1) (.frz { cls := .type "tuple", data := .seq #[.int i tk, .ref s.heap.objs.size] } (.tup [.int (i : Nat), .ref s.heap.objs.size])) :=
      ⟨t2, by show 2 ≤ sizeLine; decide, [.int i tk, .ref s.heap.objs.size], .cons ⟨_, rfl⟩ (.cons rfl .nil), ⟨_, t2, rfl, _, rfl⟩⟩
    have I2 := I1.turnedNew (h' := h'') (t' := tk + 1) (ch := [e]) (T := s.heap.objs.size + 1) (fun c o hb q => by
      have hce : c ≠ e := fun q' => hb (by simp [q'])
      exact (sb.2 c hce).trans (up c o hce q)) fe (by show h₁.objs.size ≤ _; rw [n1]; exact Nat.le_refl _) new2
    refine ⟨.ref (s.heap.objs.size + 1), _, I2, rfl, ⟨s.heap.objs.size, s.heap.objs.size + 1, { cls := .type "tuple", data := .seq #[u, u2] }, { cls := .type "tuple", data := .seq #[.int i tk, .ref s.heap.objs.size] }, rfl, I.hok.fresh (Nat.le_refl _), I.hok.fresh (Nat.le_succ _), Nat.succ_ne_self _, rfl, rfl, fun f n ⟨as, bs, h3, h4, _, ef⟩ => ?_⟩, ?_, fun c hcm => ?_⟩
    · have e1 := h3.inj I hqx
      have e2 := h4.inj I hqy
      subst e1
      subst e2
      subst ef
      unfold at2
      rw [List.getElem?_eq_getElem hi1, List.getElem?_eq_getElem hi2]
    · obtain ⟨v, f, hv, hz⟩ := z1
      obtain ⟨x0, y0, hTO⟩ := to1
      obtain ⟨_, _, hTI, _, _, _⟩ := st
      refine ⟨⟨x', by have e1 : ((i + 1 : Nat) : Int) = (i : Int) + 1 := by omega
                      rw [e1]; exact he'⟩, ⟨v, f, hv, (sb.2 _ N.ez.symm).trans hz⟩, (sb.2 _ N.eTI.symm).trans (up _ _ N.eTI.symm (k1 _ _ D.TIz D.TITO D.TIi1 D.TIi2 hTI)), ⟨x0, y0, (sb.2 _ N.eTO.symm).trans hTO⟩, a1.at fun o q => (sb.2 _ N.ei1.symm).trans q, a2.at fun o q => (sb.2 _ N.ei2.symm).trans q⟩
    · have hlt : c < s.heap.objs.size := by
        obtain ⟨⟨old, he⟩, ⟨v, f, hv, hz⟩, hTI, ⟨x, y, hTO⟩, h1, h2⟩ := st
        have e' : c = e ∨ c = z ∨ c = TI ∨ c = TO ∨ c = i1 ∨ c = i2 := by simpa using hcm
        rcases e' with q | q | q | q | q | q
        · rw [q]; exact hel
        · rw [q]; exact Heap.lt_size hz
        · rw [q]; exact Heap.lt_size hTI
        · rw [q]; exact Heap.lt_size hTO
        · rw [q]; obtain ⟨_, e1, _⟩ := IsIt.obj (k := true) h1; exact Heap.lt_size e1
        · rw [q]; obtain ⟨_, e2, _⟩ := IsIt.obj (k := true) h2; exact Heap.lt_size e2
      rw [upd_ne (Nat.ne_of_lt (Nat.lt_succ_of_lt hlt)), upd_ne (Nat.ne_of_lt hlt)]
      exact (hf c hcm).1
  done := by
    intro X hP hw hK hc i pins s σ H E I hf st hg
    subst hP hw hK
    obtain ⟨f, xs, ys, hqx, hqy, hn, rfl⟩ := hg
    obtain ⟨its, rv, p, _⟩ := hqx.it I
    obtain ⟨its2, rv2, p2, _⟩ := hqy.it I
    have l1 := rv.length
    have l2 := rv2.length
    have hend : its.toArray[i]? = none ∨ its2.toArray[i]? = none := by
      rcases Nat.le_total xs.length ys.length with h | h
      · exact .inl (Array.getElem?_eq_none (by rw [List.size_toArray]; omega))
      · exact .inr (Array.getElem?_eq_none (by rw [List.size_toArray]; omega))
    exact enumZ_end (I.ok.hd hc) D st p p2 hend fun h' hk => ⟨rfl, I.turnedL (t' := s.toks) (ch := [e, z, TI, TO, i1, i2]) (fun c o hb q =>
      hk c o (fun q' => hb (by simp [q'])) (fun q' => hb (by simp [q'])) (fun q' => hb (by simp [q'])) (fun q' => hb (by simp [q'])) q) hf⟩
  self := fun A i s Q E st h => let ⟨_, he⟩ := st.en; wpAny_pyIter_enum he h
end Orn

set_option linter.all false
set_option maxRecDepth 100000
set_option maxHeartbeats 4000000
namespace Orn
open L2 PySem PySem.Spec PyProof.Rows
def iEnumZ (K : PySem.W.Frag) (ta : TA) : TI := fun σ H R => ta σ H fun vs H1 => ∃ a b xs ys, vs = [.ref a, .ref b] ∧ SqK true K H1 a xs ∧ SqK true K H1 b ys ∧ R (ItEW (CZ2 K true true a b)) H1
theorem ea_new {n l1 l2 : Addr} (h1 : l1 < n) (h2 : l2 < n) : EnumApart (n + 5) (n + 4) (n + 2) (n + 3) n (n + 1) l1 l2 where
  ez := Nat.ne_of_gt (Nat.add_lt_add_left (by decide) n)
  eTI := Nat.ne_of_gt (Nat.add_lt_add_left (by decide) n)
  eTO := Nat.ne_of_gt (Nat.add_lt_add_left (by decide) n)
  ei1 := Nat.ne_of_gt (Nat.lt_add_of_pos_right (by decide))
  ei2 := Nat.ne_of_gt (Nat.add_lt_add_left (by decide) n)
  el1 := Nat.ne_of_gt (Nat.lt_of_lt_of_le h1 (Nat.le_add_right _ _))
  el2 := Nat.ne_of_gt (Nat.lt_of_lt_of_le h2 (Nat.le_add_right _ _))
theorem pi_enumZip {X : Cx} {e e2 : Expr} {ta : TA} {p p2 pos pos2 tpos : Pos} {elts : List Expr} {kk : Nat} (hg : Gl X "enumerate") (hm : X.mg "enumerate" = none) (hg2 : Gl X "zip") (hm2 : X.mg "zip" = none) (ha : PA X [e, e2] ta)
    (hs : starEach [e, e2] X.env = (false, eval e X.env) :: starEach [e2] X.env := by rfl) (hpl : (backTo pos2 (starEach [e2] X.env)).any (·.1) = false := by rfl)
    (hs0 : starEach [Expr.Call (.Name "zip" p2) [e, e2] [] pos2] X.env = [(false, eval (.Call (.Name "zip" p2) [e, e2] [] pos2) X.env)] := by rfl) :
    PI X (.Tuple elts kk tpos) (.Call (.Name "enumerate" p) [.Call (.Name "zip" p2) [e, e2] [] pos2] [] pos) (iEnumZ X.K ta) := by
  refine ⟨fun pins s σ H R I h => ?_⟩
  refine Call_ (ld_blt I hg hm boot_enumerate (PyProof.Rows.callWith_type1 ?_ hs0 rfl))
  rw [hs0]
  show wpAny _ _ (spliced [(false, eval (.Call (.Name "zip" p2) [e, e2] [] pos2) X.env)]) _ _ s
  refine Calls.spliced_cons ?_
  refine Call_ (ld_blt I hg2 hm2 PyProof.Rows.boot_zip (PyProof.Rows.callWith_type1 (thn (ha.run pos2 pins s σ H _ I h) fun us s1 ⟨vs, H1, I1, r1, q1⟩ => ?_) hs hpl))
  obtain ⟨a, b, xs, ys, ex, hqx, hqy, q⟩ := q1
  subst ex
  cases r1 with
  | cons r rr =>
    cases rr with
    | cons r' rr =>
      cases rr
      cases r
      cases r'
      obtain ⟨its, rv, p1, _⟩ := hqx.it I1
      obtain ⟨its2, rv2, p2, _⟩ := hqy.it I1
      have la := p1.lt
      have lb := p2.lt
      refine zip_begins2 (begins_seqK true a its.toArray) (begins_seqK true b its2.toArray) p1 p2 fun h' hz hTI hTO h1 h2 hsz hk => ?_
      refine Calls.spliced_nil ?_
      refine enum_zip (s := { s1 with heap := h' }) hz fun h'' he hk2 => wpAny_pyIter_enum he ?_
      have I2 : Inv X pins σ H1 { s1 with heap := h'' } := I1.kept (t' := s1.toks) fun c o e => hk2 c o (hk c o e)
      replace he : IsEnum h'' h'.objs.size (s1.heap.objs.size + 4) 0 .none := he
      rw [hsz] at he
      show PIE X pins σ _ _ (.ref h'.objs.size) _
      rw [hsz]
      have D : ZipApart (s1.heap.objs.size + 4) (s1.heap.objs.size + 2) (s1.heap.objs.size + 3) s1.heap.objs.size (s1.heap.objs.size + 1) a b := zipApart_new la lb
      have N : EnumApart (s1.heap.objs.size + 5) (s1.heap.objs.size + 4) (s1.heap.objs.size + 2) (s1.heap.objs.size + 3) s1.heap.objs.size (s1.heap.objs.size + 1) a b :=
        ea_new la lb
      refine ⟨s1.heap.objs.size + 5, [s1.heap.objs.size + 5, s1.heap.objs.size + 4, s1.heap.objs.size + 2, s1.heap.objs.size + 3, s1.heap.objs.size, s1.heap.objs.size + 1], _, _, H1, rfl, I2, turn_enumZip D N, ⟨⟨.none, he⟩, ⟨.none, false, .inl rfl, hk2 _ _ hz⟩, hk2 _ _ hTI, ⟨_, _, hk2 _ _ hTO⟩, IsIt.mk0 (k := true) (hk2 _ _ h1), IsIt.mk0 (k := true) (hk2 _ _ h2)⟩, fun c hcm => ?_, q⟩
      have hle : s1.heap.objs.size ≤ c := by
        simp only [List.mem_cons, List.not_mem_nil, or_false] at hcm
        rcases hcm with z | z | z | z | z | z <;> rw [z]
        · exact Nat.le_add_right _ _
        · exact Nat.le_add_right _ _
        · exact Nat.le_add_right _ _
        · exact Nat.le_add_right _ _
        · exact Nat.le_refl _
        · exact Nat.le_add_right _ _
      exact I1.fpOk hle (I1.hok.fresh hle)
/-! ### as data -/
def lstItems : D → Option (List D)
  | .lst xs => some xs
  | .rol xs => some xs
  | _ => none
def ezg : List D → Rs (List D)
  | [a, b] => match lstItems a, lstItems b with
    | some xs, some ys => .ok ((zip2 xs ys).mapIdx fun i x => .tup [.int (i : Nat), x])
    | _, _ => .bad
  | _ => .bad
section
variable {K : PySem.W.Frag} {mg : Str → Option Value} {R : Addr → Prop} {H0 : HZ} {F H H1 H' : Hp} {σ : L2.St} {env : En} {W : L2.WX} {nw : Bool} {g : En → Rs Fl}
theorem Dv.sql {v : V} {d : D} {xs : List D} (h : Dv K mg F v d) (e : lstItems d = some xs) : ∃ a ws, v = .ref a ∧ SqK true K F a ws ∧ Dvs K mg F ws xs := by
  cases d <;> simp only [lstItems, reduceCtorEq, Option.some.injEq] at e
  · subst e
    obtain ⟨p, ws, rfl, hp, hs⟩ := Dv.lst_of h
    exact ⟨p, ws, rfl, .inl (.inl hp), hs⟩
  · subst e
    obtain ⟨p, ws, rfl, hp, hs⟩ := Dv.rol_of h
    exact ⟨p, ws, rfl, hp, hs⟩
theorem ezg_src {vs : List V} {ds zs : List D} (h : Dvs K mg F vs ds) (e : ezg ds = .ok zs) : ∃ a b ws us, vs = [.ref a, .ref b] ∧ SqK true K F a ws ∧ SqK true K F b us ∧ min ws.length us.length = zs.length ∧ ∀ i, i < min ws.length us.length → ∃ ys, zs[i]? = some (.tup [.int (i : Nat), .tup ys]) ∧ Dvs K mg F (at2 ws us i) ys := by
  unfold ezg at e
  split at e
  · rename_i d d2
    cases h with
    | cons h r =>
      cases r with
      | cons h2 r =>
        cases r
        split at e
        · rename_i xs ys hx hy
          injection e with e
          subst e
          obtain ⟨a, ws, rfl, hq, hs⟩ := h.sql hx
          obtain ⟨b, us, rfl, hq2, hs2⟩ := h2.sql hy
          refine ⟨a, b, ws, us, rfl, hq, hq2, by rw [List.length_mapIdx, zip2_len, hs.len, hs2.len], fun i hi => ?_⟩
          have hi1 : i < ws.length := by omega
          have hi2 : i < us.length := by omega
          obtain ⟨x, hx, hv⟩ := hs.getV (List.getElem?_eq_getElem hi1)
          obtain ⟨y, hy, hv2⟩ := hs2.getV (List.getElem?_eq_getElem hi2)
          refine ⟨[x, y], by rw [List.getElem?_mapIdx, zip2_at _ _ _ _ _ hx hy]; rfl, ?_⟩
          unfold at2
          rw [List.getElem?_eq_getElem hi1, List.getElem?_eq_getElem hi2]
          exact .cons hv (.cons hv2 .nil)
        · cases e
  · cases e
theorem same_two {T1 T : Addr} {o1 o : HO} (h1 : H T1 = none) (h2 : H T = none) (ne : T ≠ T1) : Same H (upd (upd H T1 o1) T o) :=
  (same_new h1).trans (same_new (by rw [upd_ne ne]; exact h2))
theorem loop_EW {C : CW} {f : Nat → List V} {n : Nat} {R0 : Addr → Prop} {Fs : Hp} {Dd : Ends} {t : Tg} {xs : List D} (hC : ∀ H, Same Fs H → C H f n) (hn : n = xs.length) (hf : ∀ i, i < n → ∃ ds, xs[i]? = some (.tup [.int (i : Nat), .tup ds]) ∧ Dvs K mg Fs (f i) ds)
    (L0 : LoopAt K mg W nw R0 H0 Fs Dd t.put g xs 0 σ H) :
    ∃ Wn : Nat → Nat → L2.St → Hp → Prop, (∃ m, Wn 0 m σ H) ∧ ∀ i m σ H, Wn i m σ H →
      ((ItEW C).stop i H ∧ Dd.nx σ H) ∨ ((ItEW C).go i H ∧ ∃ N : L2.St → Hp → Prop, (∀ σ' H', N σ' H' → ∃ m', m' < m ∧ Wn (i + 1) m' σ' H') ∧ ∀ x H', (ItEW C).yld i H x H' → rdG K mg t.slots t.put x σ H' fun σ2 H2 => rdS K mg W nw g { Dd with nx := N, ct := N, bk := Dd.nx } σ2 H2) := by
  refine for_it (walk_EW (C := C) (f := f) (n := n)) (LoopAt K mg W nw R0 H0 Fs Dd t.put g xs) L0 (fun i σ H _ L => ?_) (fun i x σ H H' hi L y => ?_) (fun σ H L => ?_)
  · obtain ⟨R, env, sb, S, f, q⟩ := L
    exact hC H (f.trans hid_le)
  · obtain ⟨T1, T, o1, o, rfl, hT1, hT, ne, hd1, hd, rfl⟩ := y
    obtain ⟨ds, hx, hv⟩ := hf i hi
    have sm := same_two (o1 := .frz o1 (.tup (f i))) (o := .frz o (.tup [.int (i : Nat), .ref T1])) hT1 hT ne
    refine loop_turnW hx sm L fun R env S f2 => ?_
    have e1 := (S.newF sm hT).trans upd_same
    have e2 := (S.newF sm hT1).trans ((upd_ne ne.symm).trans upd_same)
    exact Dv.tup (.inl ⟨o, e1, hd⟩) (.cons (.int _) (.cons (Dv.tup (.inl ⟨o1, e2, hd1⟩) ((hv.mono f2).mono (fz_same sm))) .nil))
  · rw [hn] at L
    exact loop_end L
end
section
variable {X : Cx} {W : L2.WX} {nw : Bool} {g : En → Rs Fl} {fs : En → Rs (List D)} {pos : Pos}
theorem prs_forEZ {t : Tg} {a b : Expr} {body : List Stmt} {p p2 pos2 pos3 tpos : Pos} {elts : List Expr} {kk : Nat} (hp : PassesOwn (model X.prog X.w) X.A X.env X.xe) (hc : X.calm = true) (gl : Gl X "enumerate") (hm : X.mg "enumerate" = none) (gl2 : Gl X "zip") (hm2 : X.mg "zip" = none) (ha : PRA X W [a, b] fs) (hg : PRG X (.Tuple elts kk tpos) t) (hb : PRB X W nw body g)
    (hs1 : starEach [a, b] X.env = (false, eval a X.env) :: starEach [b] X.env := by rfl) (hpl : (backTo pos3 (starEach [b] X.env)).any (·.1) = false := by rfl)
    (hs0 : starEach [Expr.Call (.Name "zip" p2) [a, b] [] pos3] X.env = [(false, eval (.Call (.Name "zip" p2) [a, b] [] pos3) X.env)] := by rfl)
    (hs : ∀ x, foldedSetIterable (.Call (.Name "enumerate" p) [.Call (.Name "zip" p2) [a, b] [] pos3] [] pos2) X.env x = pure x := by intro _; rfl) : PRS X W nw (.For (.Tuple elts kk tpos) (.Call (.Name "enumerate" p) [.Call (.Name "zip" p2) [a, b] [] pos3] [] pos2) body [] pos) (forR ezg t g fs) :=
  ps_imp (ps_for (pos := pos) hp hc (pi_enumZip (p := p) (p2 := p2) (pos := pos2) (pos2 := pos3) gl hm gl2 hm2 ha hs1 hpl hs0) hg hb hs) fun Dd σ H ⟨R0, R, H0, env, sb, S, q⟩ => by
  refine rdA_with sb S q fun vs ds H1 e1 S1 r1 q1 => ?_
  split at q1
  · rename_i xs hxs
    obtain ⟨a, b, ws, us, rfl, hq, hq2, hn, hf⟩ := ezg_src r1 hxs
    exact ⟨a, b, ws, us, rfl, hq.same hid_le, hq2.same hid_le, loop_EW (C := CZ2 X.K true true a b) (f := at2 ws us) (n := min ws.length us.length) (Fs := fz R σ env H1) (fun H e => ⟨ws, us, hq.same e, hq2.same e, rfl, rfl⟩) hn hf ⟨R, env, sb, S1, Same.refl _, q1⟩⟩
  · exact q1.elim
end
end Orn

set_option linter.all false
set_option maxRecDepth 100000
set_option maxHeartbeats 4000000
namespace Orn
open L2 PySem PySem.Spec PyProof.Rows
/-! ### in a list or a tuple, the items compared as data -/
def rInB (K : PySem.W.Frag) (neg : Bool) : R2 := fun x y H Q => ∃ d ds, Dp K H x d ∧ (Dp K H y (.list ds) ∨ Dp K H y (.tuple ds)) ∧ SeqAt.shaped d = true ∧ SeqAt.shaped (.list ds) = true ∧ Q (.bl ((ds.any fun z => PyData.eqv z d) != neg)) H
section
variable {X : Cx}
theorem op_inBr (hu : X.A.units + 65 < cLine) : OpR X (compareOp .In) (rInB X.K false) := by
  intro pins s σ H x y v u Q I rx ry h
  obtain ⟨d, ds, hd, he, sd, se, q⟩ := h
  obtain ⟨as, r1⟩ := Dp.reads I d x v hd rx
  have q' : Q (.bl (ds.any fun z => PyData.eqv z d)) H := by simpa using q
  rcases he with he | he
  · obtain ⟨bs, r2⟩ := Dp.reads I (.list ds) y u he ry
    exact SeqAt.in_list_reads r2 r1 (SeqAt.canLay_of_shaped se) (SeqAt.canLay_of_shaped sd) (room_in_shaped sd hu) ⟨.bl _, H, I, rfl, q'⟩
  · obtain ⟨bs, r2⟩ := Dp.reads I (.tuple ds) y u he ry
    exact SeqAt.in_tuple_reads r2 r1 (SeqAt.canLay_of_shaped se) (SeqAt.canLay_of_shaped sd) (room_in_shaped sd hu) ⟨.bl _, H, I, rfl, q'⟩
theorem op_notInBr (hu : X.A.units + 65 < cLine) : OpR X (compareOp .NotIn) (rInB X.K true) := by
  intro pins s σ H x y v u Q I rx ry h
  obtain ⟨d, ds, hd, he, sd, se, q⟩ := h
  obtain ⟨as, r1⟩ := Dp.reads I d x v hd rx
  have q' : Q (.bl (!ds.any fun z => PyData.eqv z d)) H := by simpa using q
  rcases he with he | he
  · obtain ⟨bs, r2⟩ := Dp.reads I (.list ds) y u he ry
    exact SeqAt.notIn_list_reads r2 r1 (SeqAt.canLay_of_shaped se) (SeqAt.canLay_of_shaped sd) (room_in_shaped sd hu) ⟨.bl _, H, I, rfl, q'⟩
  · obtain ⟨bs, r2⟩ := Dp.reads I (.tuple ds) y u he ry
    exact SeqAt.notIn_tuple_reads r2 r1 (SeqAt.canLay_of_shaped se) (SeqAt.canLay_of_shaped sd) (room_in_shaped sd hu) ⟨.bl _, H, I, rfl, q'⟩
end
def seqPy : PyData → Option (List PyData)
  | .list ds => some ds
  | .tuple ds => some ds
  | _ => none
def inBn (neg : Bool) : D → D → Rs D := fun x y => match toPy x, (toPy y).bind seqPy with
  | some d, some ds => if SeqAt.shaped d = true ∧ SeqAt.shaped (.list ds) = true then .ok (.bl ((ds.any fun z => PyData.eqv z d) != neg)) else .bad
  | _, _ => .bad
abbrev inB := inBn false
abbrev notInB := inBn true
section
variable {X : Cx} {W : L2.WX} {m ma mb : Md} {fa fb : En → Rs D} {a b : Expr} {pos : Pos} {K : PySem.W.Frag} {mg : Str → Option Value}
theorem op_inBD {neg : Bool} : Op2 K mg W ma mb .fz (inBn neg) (rInB K neg) := by
  intro R H0 σ env H Hs x y da db Q S ra rb q
  unfold inBn at q
  split at q
  · rename_i d ds hd hd'
    split at q
    · rename_i hs
      obtain ⟨e, he, hq⟩ := Option.bind_eq_some_iff.mp hd'
      refine ⟨d, ds, Dv.dp _ (ra.pk hid_le) hd, ?_, hs.1, hs.2, q.flat S rfl⟩
      cases e <;> simp only [seqPy, reduceCtorEq, Option.some.injEq] at hq
      · subst hq
        first | exact .inl (Dv.dp _ (rb.pk hid_le) he) | exact .inr (Dv.dp _ (rb.pk hid_le) he)
      · subst hq
        first | exact .inl (Dv.dp _ (rb.pk hid_le) he) | exact .inr (Dv.dp _ (rb.pk hid_le) he)
    · exact q.elim
  · exact q.elim
theorem pr_inB {k : Nat} (hr : Rm k X.A) (ha : PR X W ma a fa) (hb : PR X W mb b fb) (hm : behindInMarks .In b = false := by rfl) : PR X W .fz (.Compare a [.In] [b] pos) (op2 inB fa fb) := pr_cmp (op_inBr (by have := hr.r.un; omega)) op_inBD ha hb hm
theorem pr_notInB {k : Nat} (hr : Rm k X.A) (ha : PR X W ma a fa) (hb : PR X W mb b fb) (hm : behindInMarks .NotIn b = false := by rfl) : PR X W .fz (.Compare a [.NotIn] [b] pos) (op2 notInB fa fb) := pr_cmp (op_notInBr (by have := hr.r.un; omega)) op_inBD ha hb hm
theorem ptc_inB {k : Nat} (hr : Rm k X.A) (ha : PR X W ma a fa) (hb : PR X W mb b fb) (hm : behindInMarks .In b = false := by rfl) : PRT X W (.Compare a [.In] [b] pos) (tcmp inB fa fb) := pt_cmp (op_inBr (by have := hr.r.un; omega)) op_inBD ha hb hm
theorem ptc_notInB {k : Nat} (hr : Rm k X.A) (ha : PR X W ma a fa) (hb : PR X W mb b fb) (hm : behindInMarks .NotIn b = false := by rfl) : PRT X W (.Compare a [.NotIn] [b] pos) (tcmp notInB fa fb) := pt_cmp (op_notInBr (by have := hr.r.un; omega)) op_inBD ha hb hm
end
end Orn

set_option linter.all false
set_option maxRecDepth 100000
set_option maxHeartbeats 4000000
namespace Orn
open L2 PySem PySem.Spec PyProof.Rows
noncomputable section
def topS (i : Nat) : Stmt := PySem.Challenge.pw_orderneed_k08_what_promises_keep.main.body.getD i (.Pass ⟨0, 0, 0, 0⟩)
structure Blt (mg : Str → Option Value) : Prop where
  n_all : mg "all" = none
  n_any : mg "any" = none
  n_bool : mg "bool" = none
  n_enumerate : mg "enumerate" = none
  n_int : mg "int" = none
  n_isinstance : mg "isinstance" = none
  n_len : mg "len" = none
  n_list : mg "list" = none
  n_max : mg "max" = none
  n_min : mg "min" = none
  n_range : mg "range" = none
  n_tuple : mg "tuple" = none
  n_zip : mg "zip" = none

section
variable {P : Program} {w : World} {K : PySem.W.Frag} {mg : Str → Option Value} {base : Heap}

/-! all_items -/
abbrev s_all_items : Stmt := topS 5
theorem sc_all_items : FnScope ["names", "items", "at", "name", "other", "relation"] ["names"] (defScope s_all_items) := ⟨rfl, rfl, rfl, by decide +kernel, rfl, by decide +kernel, by decide +kernel⟩
def b_all_items_0 : En → Rs Fl := extF 1 (compF (.nm 5) [5] (yesF) (tupF (consA (cF (.str "order")) (consA (varF 3) (consA (varF 4) (consA (varF 5) (nilA)))))) (cF (.tup [.str "less", .str "equal", .str "greater"])))
def b_all_items_1 : En → Rs Fl := seqS (appF 1 (tupF (consA (cF (.str "order")) (consA (varF 3) (consA (varF 3) (consA (cF (.str "less")) (nilA))))))) (forF (.nm 4) (b_all_items_0) (sliceF sliceD (varF 0) (someF (op2 addD (varF 2) (cF (.int 1)))) (noF)))
def f_all_items : En → Rs Fl := seqS (asgL 1 (lstF (nilA))) (seqS (forR eg (.tp [.nm 2, .nm 3]) (b_all_items_1) (consA (varF 0) (nilA))) (retF (op2 addL (varL 1) (compF (.nm 3) [3] (yesF) (tupF (consA (cF (.str "once")) (consA (varF 3) (nilA)))) (varF 0)))))
def m_all_items : List D → Rs D := runF 6 false f_all_items
theorem dn_all_items {f : Addr} {fd : FuncData} (F : Fun K "all_items" "all_items" s_all_items f fd) (hm : mg "all_items" = some (.ref f)) (B : Blt mg) (G_RELATIONS : GlD K mg "RELATIONS" (.tup [.str "less", .str "equal", .str "greater"])) : Dn P w K mg base 1 "all_items" 1 false m_all_items := by
  refine dn_of F sc_all_items rfl hm (F.binds fun _ _ _ _ _ _ us hl => match us, hl with | [_], _ => rfl) (fun cdv A outer s H E hr => ?_)
  have nd := sc_all_items.nd
  have tk : Takes (cxOf (L2.CX P w) P w K mg base ["names", "items", "at", "name", "other", "relation"] "all_items" (defScope s_all_items) f cdv A outer s H E) (fun cls d _ H => E cls d H) := takes_of rfl rfl rfl rfl
  have ps : PassesOwn (model P w) (A.deeper (envOfC "all_items" (defScope s_all_items) s.heap.objs.size f cdv)) (envOfC "all_items" (defScope s_all_items) s.heap.objs.size f cdv) (cxOf (L2.CX P w) P w K mg base ["names", "items", "at", "name", "other", "relation"] "all_items" (defScope s_all_items) f cdv A outer s H E).xe := passes_of (X := cxOf (L2.CX P w) P w K mg base ["names", "items", "at", "name", "other", "relation"] "all_items" (defScope s_all_items) f cdv A outer s H E) rfl
  exact (prb_cons (prs_asgL (ps_set (i := 1) nd rfl (by first | exact .inl rfl | exact .inr rfl) (pr_lst pra_nil))) (prb_cons (prs_forE (t := .tp [.nm 2, .nm 3]) ps rfl (by rfl) B.n_enumerate (pra_cons (pr_name (pv 0)) pra_nil) (prg_tp rfl (prgs_cons (prg_nm (pg_name (i := 2) nd rfl (by first | exact .inl rfl | exact .inr rfl))) (prgs_cons (prg_nm (pg_name (i := 3) nd rfl (by first | exact .inl rfl | exact .inr rfl))) prgs_nil))) (prb_cons (prs_app (ps_expr (pe_bm PySem.F.plainAttrs_list PySem.F.slot_list_append PySem.F.type_list_append mt_append (pv 1) (pa_cons (pr_tup (pra_cons (pr_c rfl pe_str) (pra_cons (pr_name (pv 3)) (pra_cons (pr_name (pv 3)) (pra_cons (pr_c rfl pe_str) pra_nil))))) pa_nil)))) (prb_one (prs_for (t := .nm 4) ps rfl (pr_slice (pr_name (pv 0)) (pr_some (pr_add (pr_name (pv 2)) (pr_c rfl pe_int))) pr_none) (prg_nm (pg_name (i := 4) nd rfl (by first | exact .inl rfl | exact .inr rfl))) (prb_one (prs_ext (ps_expr (pe_bm PySem.F.plainAttrs_list PySem.F.slot_list_extend PySem.F.type_list_extend mt_extend (pv 1) (pa_cons (pr_comp (own := [("relation", 5)]) (t := .nm 5) rfl nd (pr_globD (by rfl) G_RELATIONS) (blkOk_by (N := ["names", "items", "at", "name", "other", "relation"]) (sc := (defScope s_all_items)) (own := [("relation", 5)]) (by decide +kernel)) (fun _ _ _ _ _ => (prg_nm (pg_name (i := 5) nd rfl (by first | exact .inl rfl | exact .inr rfl)))) prtc_nil (fun _ _ _ _ _ => (pr_tup (pra_cons (pr_c rfl pe_str) (pra_cons (pr_name (pv 3)) (pra_cons (pr_name (pv 4)) (pra_cons (pr_name (pv 5)) pra_nil))))))) pa_nil))))))))) (prb_one (prs_retN (pr_addL (pr_nameL (pv 1)) (pr_comp (own := [("name", 3)]) (t := .nm 3) rfl nd (pr_name (pv 0)) (blkOk_by (N := ["names", "items", "at", "name", "other", "relation"]) (sc := (defScope s_all_items)) (own := [("name", 3)]) (by decide +kernel)) (fun _ _ _ _ _ => (prg_nm (pg_name (i := 3) nd rfl (by first | exact .inl rfl | exact .inr rfl)))) prtc_nil (fun _ _ _ _ _ => (pr_tup (pra_cons (pr_c rfl pe_str) (pra_cons (pr_name (pv 3)) pra_nil))))))))))

/-! relation_of -/
abbrev s_relation_of : Stmt := topS 8
theorem sc_relation_of : FnScope ["number", "other"] ["number", "other"] (defScope s_relation_of) := ⟨rfl, rfl, rfl, by decide +kernel, rfl, by decide +kernel, by decide +kernel⟩
def f_relation_of : En → Rs Fl := seqS (ifS (tcmp ltD (varF 0) (varF 1)) (retF (cF (.str "less"))) (nilS)) (retF (ifF (tcmp eqD (varF 0) (varF 1)) (cF (.str "equal")) (cF (.str "greater"))))
def m_relation_of : List D → Rs D := runF 2 false f_relation_of
theorem dn_relation_of {f : Addr} {fd : FuncData} (F : Fun K "relation_of" "relation_of" s_relation_of f fd) (hm : mg "relation_of" = some (.ref f)) (B : Blt mg) : Dn P w K mg base 1 "relation_of" 2 false m_relation_of := by
  refine dn_of F sc_relation_of rfl hm (F.binds fun _ _ _ _ _ _ us hl => match us, hl with | [_, _], _ => rfl) (fun cdv A outer s H E hr => ?_)
  have nd := sc_relation_of.nd
  have tk : Takes (cxOf (L2.CX P w) P w K mg base ["number", "other"] "relation_of" (defScope s_relation_of) f cdv A outer s H E) (fun cls d _ H => E cls d H) := takes_of rfl rfl rfl rfl
  have ps : PassesOwn (model P w) (A.deeper (envOfC "relation_of" (defScope s_relation_of) s.heap.objs.size f cdv)) (envOfC "relation_of" (defScope s_relation_of) s.heap.objs.size f cdv) (cxOf (L2.CX P w) P w K mg base ["number", "other"] "relation_of" (defScope s_relation_of) f cdv A outer s H E).xe := passes_of (X := cxOf (L2.CX P w) P w K mg base ["number", "other"] "relation_of" (defScope s_relation_of) f cdv A outer s H E) rfl
  exact (prb_cons (prs_if (ptc_lt (pr_name (pv 0)) (pr_name (pv 1))) (prb_one (prs_ret (pr_c rfl pe_str))) prb_nil) (prb_one (prs_ret (pr_if (ptc_eq hr (pr_name (pv 0)) (pr_name (pv 1))) (pr_c rfl pe_str) (pr_c rfl pe_str)))))

/-! _order_items -/
abbrev s_order_items : Stmt := topS 11
theorem sc_order_items : FnScope ["first", "second", "one", "other"] ["first", "second"] (defScope s_order_items) := ⟨rfl, rfl, rfl, by decide +kernel, rfl, by decide +kernel, by decide +kernel⟩
def f_order_items : En → Rs Fl := retF (compF (.tp [.nm 2, .nm 3]) [2, 3] (yesF) (tupF (consA (cF (.str "order")) (consA (op2 idxD (varF 2) (cF (.int 0))) (consA (op2 idxD (varF 3) (cF (.int 0))) (consA (callF m_relation_of (consA (op2 idxD (varF 2) (cF (.int 1))) (consA (op2 idxD (varF 3) (cF (.int 1))) (nilA)))) (nilA)))))) (tupF (consA (tupF (consA (varF 0) (consA (varF 1) (nilA)))) (consA (tupF (consA (varF 1) (consA (varF 0) (nilA)))) (nilA)))))
def m_order_items : List D → Rs D := runF 4 false f_order_items
theorem dn_order_items {f : Addr} {fd : FuncData} (F : Fun K "_order_items" "_order_items" s_order_items f fd) (hm : mg "_order_items" = some (.ref f)) (B : Blt mg) (D_relation_of : Dn P w K mg base 1 "relation_of" 2 false m_relation_of) : Dn P w K mg base 2 "_order_items" 2 false m_order_items := by
  refine dn_of F sc_order_items rfl hm (F.binds fun _ _ _ _ _ _ us hl => match us, hl with | [_, _], _ => rfl) (fun cdv A outer s H E hr => ?_)
  have nd := sc_order_items.nd
  have tk : Takes (cxOf (L2.CX P w) P w K mg base ["first", "second", "one", "other"] "_order_items" (defScope s_order_items) f cdv A outer s H E) (fun cls d _ H => E cls d H) := takes_of rfl rfl rfl rfl
  have ps : PassesOwn (model P w) (A.deeper (envOfC "_order_items" (defScope s_order_items) s.heap.objs.size f cdv)) (envOfC "_order_items" (defScope s_order_items) s.heap.objs.size f cdv) (cxOf (L2.CX P w) P w K mg base ["first", "second", "one", "other"] "_order_items" (defScope s_order_items) f cdv A outer s H E).xe := passes_of (X := cxOf (L2.CX P w) P w K mg base ["first", "second", "one", "other"] "_order_items" (defScope s_order_items) f cdv A outer s H E) rfl
  exact (prb_one (prs_retN (pr_comp (own := [("one", 2), ("other", 3)]) (t := .tp [.nm 2, .nm 3]) rfl nd (pr_tup (pra_cons (pr_tup (pra_cons (pr_name (pv 0)) (pra_cons (pr_name (pv 1)) pra_nil))) (pra_cons (pr_tup (pra_cons (pr_name (pv 1)) (pra_cons (pr_name (pv 0)) pra_nil))) pra_nil))) (blkOk_by (N := ["first", "second", "one", "other"]) (sc := (defScope s_order_items)) (own := [("one", 2), ("other", 3)]) (by decide +kernel)) (fun _ _ _ _ _ => (prg_tp rfl (prgs_cons (prg_nm (pg_name (i := 2) nd rfl (by first | exact .inl rfl | exact .inr rfl))) (prgs_cons (prg_nm (pg_name (i := 3) nd rfl (by first | exact .inl rfl | exact .inr rfl))) prgs_nil)))) prtc_nil (fun _ _ _ _ _ => (pr_tup (pra_cons (pr_c rfl pe_str) (pra_cons (pr_idx (pr_name (pv 2)) (pr_c rfl pe_int)) (pra_cons (pr_idx (pr_name (pv 3)) (pr_c rfl pe_int)) (pra_cons (pr_call D_relation_of (hr.mono (by decide)) (by rfl) takes0 (pra_cons (pr_idx (pr_name (pv 2)) (pr_c rfl pe_int)) (pra_cons (pr_idx (pr_name (pv 3)) (pr_c rfl pe_int)) pra_nil)) (consA_len (consA_len nilA_len))) pra_nil)))))))))

/-! keeps -/
abbrev s_keeps : Stmt := topS 7
theorem sc_keeps : FnScope ["promise", "first", "second", "item"] ["promise", "first", "second"] (defScope s_keeps) := ⟨rfl, rfl, rfl, by decide +kernel, rfl, by decide +kernel, by decide +kernel⟩
def f_keeps : En → Rs Fl := retF (op1 anyD (compF (.nm 3) [3] (yesF) (op2 inB (varF 3) (op1 (attrD "Promise" "entries") (varF 0))) (callF m_order_items (consA (varF 1) (consA (varF 2) (nilA))))))
def m_keeps : List D → Rs D := runF 4 false f_keeps
theorem dn_keeps {f : Addr} {fd : FuncData} (F : Fun K "keeps" "keeps" s_keeps f fd) (hm : mg "keeps" = some (.ref f)) (B : Blt mg) (D_order_items : Dn P w K mg base 2 "_order_items" 2 false m_order_items) (A_Promise : ∀ f ∈ (["names", "entries"] : List Str), ∀ C, mg "Promise" = some (.ref C) → Cls K C ∧ NoAttr K C f) : Dn P w K mg base 3 "keeps" 3 false m_keeps := by
  refine dn_of F sc_keeps rfl hm (F.binds fun _ _ _ _ _ _ us hl => match us, hl with | [_, _, _], _ => rfl) (fun cdv A outer s H E hr => ?_)
  have nd := sc_keeps.nd
  have tk : Takes (cxOf (L2.CX P w) P w K mg base ["promise", "first", "second", "item"] "keeps" (defScope s_keeps) f cdv A outer s H E) (fun cls d _ H => E cls d H) := takes_of rfl rfl rfl rfl
  have ps : PassesOwn (model P w) (A.deeper (envOfC "keeps" (defScope s_keeps) s.heap.objs.size f cdv)) (envOfC "keeps" (defScope s_keeps) s.heap.objs.size f cdv) (cxOf (L2.CX P w) P w K mg base ["promise", "first", "second", "item"] "keeps" (defScope s_keeps) f cdv A outer s H E).xe := passes_of (X := cxOf (L2.CX P w) P w K mg base ["promise", "first", "second", "item"] "keeps" (defScope s_keeps) f cdv A outer s H E) rfl
  exact (prb_one (prs_ret (pr_b1 (cr_any rfl) (op_any (by decide)) (by rfl) B.n_any (by decide +kernel) (pr_comp (own := [("item", 3)]) (t := .nm 3) rfl nd (pr_call D_order_items (hr.mono (by decide)) (by rfl) tk (pra_cons (pr_name (pv 1)) (pra_cons (pr_name (pv 2)) pra_nil)) (consA_len (consA_len nilA_len))) (blkOk_by (N := ["promise", "first", "second", "item"]) (sc := (defScope s_keeps)) (own := [("item", 3)]) (by decide +kernel)) (fun _ _ _ _ _ => (prg_nm (pg_name (i := 3) nd rfl (by first | exact .inl rfl | exact .inr rfl)))) prtc_nil (fun _ _ _ _ _ => (pr_inB hr (pr_name (pv 3)) (pr_attr (c := "Promise") (A_Promise "entries" (by decide)) (pr_name (pv 0)))))))))

/-! _common_length -/
abbrev s_common_length : Stmt := topS 14
theorem sc_common_length : FnScope ["before", "after", "at", "one", "other"] ["before", "after"] (defScope s_common_length) := ⟨rfl, rfl, rfl, by decide +kernel, rfl, by decide +kernel, by decide +kernel⟩
def b_common_length_0 : En → Rs Fl := ifS (tcmp neD (varF 3) (varF 4)) (retF (varF 2)) (nilS)
def f_common_length : En → Rs Fl := seqS (forR ezg (.tp [.nm 2, .tp [.nm 3, .nm 4]]) (b_common_length_0) (consA (varF 0) (consA (varF 1) (nilA)))) (retF (op2 min2D (op1 lenD (varF 0)) (op1 lenD (varF 1))))
def m_common_length : List D → Rs D := runF 5 false f_common_length
theorem dn_common_length {f : Addr} {fd : FuncData} (F : Fun K "_common_length" "_common_length" s_common_length f fd) (hm : mg "_common_length" = some (.ref f)) (B : Blt mg) : Dn P w K mg base 1 "_common_length" 2 false m_common_length := by
  refine dn_of F sc_common_length rfl hm (F.binds fun _ _ _ _ _ _ us hl => match us, hl with | [_, _], _ => rfl) (fun cdv A outer s H E hr => ?_)
  have nd := sc_common_length.nd
  have tk : Takes (cxOf (L2.CX P w) P w K mg base ["before", "after", "at", "one", "other"] "_common_length" (defScope s_common_length) f cdv A outer s H E) (fun cls d _ H => E cls d H) := takes_of rfl rfl rfl rfl
  have ps : PassesOwn (model P w) (A.deeper (envOfC "_common_length" (defScope s_common_length) s.heap.objs.size f cdv)) (envOfC "_common_length" (defScope s_common_length) s.heap.objs.size f cdv) (cxOf (L2.CX P w) P w K mg base ["before", "after", "at", "one", "other"] "_common_length" (defScope s_common_length) f cdv A outer s H E).xe := passes_of (X := cxOf (L2.CX P w) P w K mg base ["before", "after", "at", "one", "other"] "_common_length" (defScope s_common_length) f cdv A outer s H E) rfl
  exact (prb_cons (prs_forEZ (t := .tp [.nm 2, .tp [.nm 3, .nm 4]]) ps rfl (by rfl) B.n_enumerate (by rfl) B.n_zip (pra_cons (pr_name (pv 0)) (pra_cons (pr_name (pv 1)) pra_nil)) (prg_tp rfl (prgs_cons (prg_nm (pg_name (i := 2) nd rfl (by first | exact .inl rfl | exact .inr rfl))) (prgs_cons (prg_tp rfl (prgs_cons (prg_nm (pg_name (i := 3) nd rfl (by first | exact .inl rfl | exact .inr rfl))) (prgs_cons (prg_nm (pg_name (i := 4) nd rfl (by first | exact .inl rfl | exact .inr rfl))) prgs_nil))) prgs_nil))) (prb_one (prs_if (ptc_ne hr (pr_name (pv 3)) (pr_name (pv 4))) (prb_one (prs_ret (pr_name (pv 2)))) prb_nil))) (prb_one (prs_ret (pr_b2 (call_min2 rfl) op_two (by rfl) B.n_min (by decide +kernel) (pr_b1 call_lenBoth op_lenD (by rfl) B.n_len PySem.boot_len (pr_name (pv 0))) (pr_b1 call_lenBoth op_lenD (by rfl) B.n_len PySem.boot_len (pr_name (pv 1)))))))

/-! _is_again -/
abbrev s_is_again : Stmt := topS 13
theorem sc_is_again : FnScope ["name", "before", "after", "at"] ["name", "before", "after"] (defScope s_is_again) := ⟨rfl, rfl, rfl, by decide +kernel, rfl, by decide +kernel, by decide +kernel⟩
def f_is_again : En → Rs Fl := seqS (asgF 3 (callF m_common_length (consA (varF 1) (consA (varF 2) (nilA))))) (retF (andF (op2 eqD (op1 lenD (varF 2)) (op2 addD (op1 lenD (varF 1)) (cF (.int 1)))) (andF (op2 eqD (sliceF sliceD (varF 2) (someF (op2 addD (varF 3) (cF (.int 1)))) (noF)) (sliceF sliceD (varF 1) (someF (varF 3)) (noF))) (andF (op2 eqD (op2 idxD (op2 idxD (varF 2) (varF 3)) (cF (.int 0))) (varF 0)) (op2 inE (op2 idxD (varF 2) (varF 3)) (sliceF sliceD (varF 1) (noF) (someF (varF 3))))))))
def m_is_again : List D → Rs D := runF 4 false f_is_again
theorem dn_is_again {f : Addr} {fd : FuncData} (F : Fun K "_is_again" "_is_again" s_is_again f fd) (hm : mg "_is_again" = some (.ref f)) (B : Blt mg) (D_common_length : Dn P w K mg base 1 "_common_length" 2 false m_common_length) : Dn P w K mg base 2 "_is_again" 3 false m_is_again := by
  refine dn_of F sc_is_again rfl hm (F.binds fun _ _ _ _ _ _ us hl => match us, hl with | [_, _, _], _ => rfl) (fun cdv A outer s H E hr => ?_)
  have nd := sc_is_again.nd
  have tk : Takes (cxOf (L2.CX P w) P w K mg base ["name", "before", "after", "at"] "_is_again" (defScope s_is_again) f cdv A outer s H E) (fun cls d _ H => E cls d H) := takes_of rfl rfl rfl rfl
  have ps : PassesOwn (model P w) (A.deeper (envOfC "_is_again" (defScope s_is_again) s.heap.objs.size f cdv)) (envOfC "_is_again" (defScope s_is_again) s.heap.objs.size f cdv) (cxOf (L2.CX P w) P w K mg base ["name", "before", "after", "at"] "_is_again" (defScope s_is_again) f cdv A outer s H E).xe := passes_of (X := cxOf (L2.CX P w) P w K mg base ["name", "before", "after", "at"] "_is_again" (defScope s_is_again) f cdv A outer s H E) rfl
  exact (prb_cons (prs_asg (ps_set (i := 3) nd rfl (by first | exact .inl rfl | exact .inr rfl) (pr_call D_common_length (hr.mono (by decide)) (by rfl) tk (pra_cons (pr_name (pv 1)) (pra_cons (pr_name (pv 2)) pra_nil)) (consA_len (consA_len nilA_len))))) (prb_one (prs_ret (pr_and (pr_eq hr (pr_b1 call_lenBoth op_lenD (by rfl) B.n_len PySem.boot_len (pr_name (pv 2))) (pr_add (pr_b1 call_lenBoth op_lenD (by rfl) B.n_len PySem.boot_len (pr_name (pv 1))) (pr_c rfl pe_int))) (pr_and (pr_eq hr (pr_slice (pr_name (pv 2)) (pr_some (pr_add (pr_name (pv 3)) (pr_c rfl pe_int))) pr_none) (pr_slice (pr_name (pv 1)) (pr_some (pr_name (pv 3))) pr_none)) (pr_and (pr_eq hr (pr_idx (pr_idx (pr_name (pv 2)) (pr_name (pv 3))) (pr_c rfl pe_int)) (pr_name (pv 0))) (pr_one (pr_inE hr (pr_idx (pr_name (pv 2)) (pr_name (pv 3))) (pr_slice (pr_name (pv 1)) pr_none (pr_some (pr_name (pv 3))))))))))))

/-! _is_exchange -/
abbrev s_is_exchange : Stmt := topS 12
theorem sc_is_exchange : FnScope ["item", "before", "after", "at", "moved"] ["item", "before", "after"] (defScope s_is_exchange) := ⟨rfl, rfl, rfl, by decide +kernel, rfl, by decide +kernel, by decide +kernel⟩
def f_is_exchange : En → Rs Fl := seqS (asgF 3 (callF m_common_length (consA (varF 1) (consA (varF 2) (nilA))))) (seqS (asgF 4 (sliceF sliceD (varF 1) (someF (varF 3)) (someF (op2 addD (varF 3) (cF (.int 2)))))) (retF (andF (op2 eqD (op1 lenD (varF 4)) (cF (.int 2))) (andF (op2 eqD (varF 2) (op2 addL (op2 addL (sliceF sliceD (varF 1) (noF) (someF (varF 3))) (op1 revL (varF 4))) (sliceF sliceD (varF 1) (someF (op2 addD (varF 3) (cF (.int 2)))) (noF)))) (op2 inE (varF 0) (callF m_order_items (consA (op2 idxD (varF 4) (cF (.int 0))) (consA (op2 idxD (varF 4) (cF (.int 1))) (nilA)))))))))
def m_is_exchange : List D → Rs D := runF 5 false f_is_exchange
theorem dn_is_exchange {f : Addr} {fd : FuncData} (F : Fun K "_is_exchange" "_is_exchange" s_is_exchange f fd) (hm : mg "_is_exchange" = some (.ref f)) (B : Blt mg) (D_common_length : Dn P w K mg base 1 "_common_length" 2 false m_common_length) (D_order_items : Dn P w K mg base 2 "_order_items" 2 false m_order_items) : Dn P w K mg base 3 "_is_exchange" 3 false m_is_exchange := by
  refine dn_of F sc_is_exchange rfl hm (F.binds fun _ _ _ _ _ _ us hl => match us, hl with | [_, _, _], _ => rfl) (fun cdv A outer s H E hr => ?_)
  have nd := sc_is_exchange.nd
  have tk : Takes (cxOf (L2.CX P w) P w K mg base ["item", "before", "after", "at", "moved"] "_is_exchange" (defScope s_is_exchange) f cdv A outer s H E) (fun cls d _ H => E cls d H) := takes_of rfl rfl rfl rfl
  have ps : PassesOwn (model P w) (A.deeper (envOfC "_is_exchange" (defScope s_is_exchange) s.heap.objs.size f cdv)) (envOfC "_is_exchange" (defScope s_is_exchange) s.heap.objs.size f cdv) (cxOf (L2.CX P w) P w K mg base ["item", "before", "after", "at", "moved"] "_is_exchange" (defScope s_is_exchange) f cdv A outer s H E).xe := passes_of (X := cxOf (L2.CX P w) P w K mg base ["item", "before", "after", "at", "moved"] "_is_exchange" (defScope s_is_exchange) f cdv A outer s H E) rfl
  exact (prb_cons (prs_asg (ps_set (i := 3) nd rfl (by first | exact .inl rfl | exact .inr rfl) (pr_call D_common_length (hr.mono (by decide)) (by rfl) tk (pra_cons (pr_name (pv 1)) (pra_cons (pr_name (pv 2)) pra_nil)) (consA_len (consA_len nilA_len))))) (prb_cons (prs_asg (ps_set (i := 4) nd rfl (by first | exact .inl rfl | exact .inr rfl) (pr_slice (pr_name (pv 1)) (pr_some (pr_name (pv 3))) (pr_some (pr_add (pr_name (pv 3)) (pr_c rfl pe_int)))))) (prb_one (prs_ret (pr_and (pr_eq hr (pr_b1 call_lenBoth op_lenD (by rfl) B.n_len PySem.boot_len (pr_name (pv 4))) (pr_c rfl pe_int)) (pr_and (pr_eq hr (pr_name (pv 2)) (pr_addL (pr_addL (pr_slice (pr_name (pv 1)) pr_none (pr_some (pr_name (pv 3)))) (pr_revL (pr_name (pv 4)))) (pr_slice (pr_name (pv 1)) (pr_some (pr_add (pr_name (pv 3)) (pr_c rfl pe_int))) pr_none))) (pr_one (pr_inE hr (pr_name (pv 0)) (pr_call D_order_items (hr.mono (by decide)) (by rfl) tk (pra_cons (pr_idx (pr_name (pv 4)) (pr_c rfl pe_int)) (pra_cons (pr_idx (pr_name (pv 4)) (pr_c rfl pe_int)) pra_nil)) (consA_len (consA_len nilA_len)))))))))))

/-! shows_harm -/
abbrev s_shows_harm : Stmt := topS 9
theorem sc_shows_harm : FnScope ["item", "sent", "came", "before", "after", "message"] ["item", "sent", "came"] (defScope s_shows_harm) := ⟨rfl, rfl, rfl, by decide +kernel, rfl, by decide +kernel, by decide +kernel⟩
def f_shows_harm : En → Rs Fl := seqS (asgF 3 (compF (.nm 5) [5] (yesF) (op1 tupleD (varF 5)) (varF 1))) (seqS (asgF 4 (compF (.nm 5) [5] (yesF) (op1 tupleD (varF 5)) (varF 2))) (seqS (ifS (tcmp eqD (op2 idxD (varF 0) (cF (.int 0))) (cF (.str "order"))) (retF (callF m_is_exchange (consA (op1 tupleD (varF 0)) (consA (varF 3) (consA (varF 4) (nilA)))))) (nilS)) (retF (callF m_is_again (consA (op2 idxD (varF 0) (cF (.int 1))) (consA (varF 3) (consA (varF 4) (nilA))))))))
def m_shows_harm : List D → Rs D := runF 6 false f_shows_harm
theorem dn_shows_harm {f : Addr} {fd : FuncData} (F : Fun K "shows_harm" "shows_harm" s_shows_harm f fd) (hm : mg "shows_harm" = some (.ref f)) (B : Blt mg) (D_is_again : Dn P w K mg base 2 "_is_again" 3 false m_is_again) (D_is_exchange : Dn P w K mg base 3 "_is_exchange" 3 false m_is_exchange) : Dn P w K mg base 4 "shows_harm" 3 false m_shows_harm := by
  refine dn_of F sc_shows_harm rfl hm (F.binds fun _ _ _ _ _ _ us hl => match us, hl with | [_, _, _], _ => rfl) (fun cdv A outer s H E hr => ?_)
  have nd := sc_shows_harm.nd
  have tk : Takes (cxOf (L2.CX P w) P w K mg base ["item", "sent", "came", "before", "after", "message"] "shows_harm" (defScope s_shows_harm) f cdv A outer s H E) (fun cls d _ H => E cls d H) := takes_of rfl rfl rfl rfl
  have ps : PassesOwn (model P w) (A.deeper (envOfC "shows_harm" (defScope s_shows_harm) s.heap.objs.size f cdv)) (envOfC "shows_harm" (defScope s_shows_harm) s.heap.objs.size f cdv) (cxOf (L2.CX P w) P w K mg base ["item", "sent", "came", "before", "after", "message"] "shows_harm" (defScope s_shows_harm) f cdv A outer s H E).xe := passes_of (X := cxOf (L2.CX P w) P w K mg base ["item", "sent", "came", "before", "after", "message"] "shows_harm" (defScope s_shows_harm) f cdv A outer s H E) rfl
  exact (prb_cons (prs_setComp (i := 3) (own := [("message", 5)]) (t := .nm 5) rfl nd rfl rfl (sw_true rfl rfl rfl (by decide +kernel)) (pr_name (pv 1)) (blkOk_by (N := ["item", "sent", "came", "before", "after", "message"]) (sc := (defScope s_shows_harm)) (own := [("message", 5)]) (by decide +kernel)) (fun _ _ _ _ _ => (prg_nm (pg_name (i := 5) nd rfl (by first | exact .inl rfl | exact .inr rfl)))) prtc_nil (fun _ _ _ _ _ => (pr_ty1 call_tupleG (op_tupleD (by decide)) (by rfl) B.n_tuple boot_tuple (pr_name (pv 5))))) (prb_cons (prs_setComp (i := 4) (own := [("message", 5)]) (t := .nm 5) rfl nd rfl rfl (sw_true rfl rfl rfl (by decide +kernel)) (pr_name (pv 2)) (blkOk_by (N := ["item", "sent", "came", "before", "after", "message"]) (sc := (defScope s_shows_harm)) (own := [("message", 5)]) (by decide +kernel)) (fun _ _ _ _ _ => (prg_nm (pg_name (i := 5) nd rfl (by first | exact .inl rfl | exact .inr rfl)))) prtc_nil (fun _ _ _ _ _ => (pr_ty1 call_tupleG (op_tupleD (by decide)) (by rfl) B.n_tuple boot_tuple (pr_name (pv 5))))) (prb_cons (prs_if (ptc_eq hr (pr_idx (pr_name (pv 0)) (pr_c rfl pe_int)) (pr_c rfl pe_str)) (prb_one (prs_ret (pr_call D_is_exchange (hr.mono (by decide)) (by rfl) tk (pra_cons (pr_ty1 call_tupleG (op_tupleD (by decide)) (by rfl) B.n_tuple boot_tuple (pr_name (pv 0))) (pra_cons (pr_name (pv 3)) (pra_cons (pr_name (pv 4)) pra_nil))) (consA_len (consA_len (consA_len nilA_len)))))) prb_nil) (prb_one (prs_ret (pr_call D_is_again (hr.mono (by decide)) (by rfl) tk (pra_cons (pr_idx (pr_name (pv 0)) (pr_c rfl pe_int)) (pra_cons (pr_name (pv 3)) (pra_cons (pr_name (pv 4)) pra_nil))) (consA_len (consA_len (consA_len nilA_len)))))))))

/-! _are_rows -/
abbrev s_are_rows : Stmt := topS 10
theorem sc_are_rows : FnScope ["items", "item"] ["items"] (defScope s_are_rows) := ⟨rfl, rfl, rfl, by decide +kernel, rfl, by decide +kernel, by decide +kernel⟩
def f_are_rows : En → Rs Fl := retF (andF (op1 (isi2D "list" "tuple") (varF 0)) (op1 allD (compF (.nm 1) [1] (yesF) (op1 (isi2D "list" "tuple") (varF 1)) (varF 0))))
def m_are_rows : List D → Rs D := runF 2 false f_are_rows
theorem dn_are_rows {f : Addr} {fd : FuncData} (F : Fun K "_are_rows" "_are_rows" s_are_rows f fd) (hm : mg "_are_rows" = some (.ref f)) (B : Blt mg) : Dn P w K mg base 1 "_are_rows" 1 false m_are_rows := by
  refine dn_of F sc_are_rows rfl hm (F.binds fun _ _ _ _ _ _ us hl => match us, hl with | [_], _ => rfl) (fun cdv A outer s H E hr => ?_)
  have nd := sc_are_rows.nd
  have tk : Takes (cxOf (L2.CX P w) P w K mg base ["items", "item"] "_are_rows" (defScope s_are_rows) f cdv A outer s H E) (fun cls d _ H => E cls d H) := takes_of rfl rfl rfl rfl
  have ps : PassesOwn (model P w) (A.deeper (envOfC "_are_rows" (defScope s_are_rows) s.heap.objs.size f cdv)) (envOfC "_are_rows" (defScope s_are_rows) s.heap.objs.size f cdv) (cxOf (L2.CX P w) P w K mg base ["items", "item"] "_are_rows" (defScope s_are_rows) f cdv A outer s H E).xe := passes_of (X := cxOf (L2.CX P w) P w K mg base ["items", "item"] "_are_rows" (defScope s_are_rows) f cdv A outer s H E) rfl
  exact (prb_one (prs_ret (pr_and (pr_isi2 (n1 := "list") (n2 := "tuple") (by rfl) B.n_isinstance boot_isinstance (by rfl) B.n_list boot_list (by rfl) B.n_tuple boot_tuple (pr_name (pv 0))) (pr_one (pr_b1 (cr_all rfl) (op_all (by decide)) (by rfl) B.n_all (by decide +kernel) (pr_comp (own := [("item", 1)]) (t := .nm 1) rfl nd (pr_name (pv 0)) (blkOk_by (N := ["items", "item"]) (sc := (defScope s_are_rows)) (own := [("item", 1)]) (by decide +kernel)) (fun _ _ _ _ _ => (prg_nm (pg_name (i := 1) nd rfl (by first | exact .inl rfl | exact .inr rfl)))) prtc_nil (fun _ _ _ _ _ => (pr_isi2 (n1 := "list") (n2 := "tuple") (by rfl) B.n_isinstance boot_isinstance (by rfl) B.n_list boot_list (by rfl) B.n_tuple boot_tuple (pr_name (pv 1))))))))))

/-! _law_cell -/
abbrev s_law_cell : Stmt := topS 16
theorem sc_law_cell : FnScope ["script", "k"] ["script", "k"] (defScope s_law_cell) := ⟨rfl, rfl, rfl, by decide +kernel, rfl, by decide +kernel, by decide +kernel⟩
def f_law_cell : En → Rs Fl := seqS (ifS (tcmp ltD (varF 1) (op1 lenD (varF 0))) (retF (op2 idxD (varF 0) (varF 1))) (nilS)) (retF (cF (.int 0)))
def m_law_cell : List D → Rs D := runF 2 false f_law_cell
theorem dn_law_cell {f : Addr} {fd : FuncData} (F : Fun K "_law_cell" "_law_cell" s_law_cell f fd) (hm : mg "_law_cell" = some (.ref f)) (B : Blt mg) : Dn P w K mg base 1 "_law_cell" 2 false m_law_cell := by
  refine dn_of F sc_law_cell rfl hm (F.binds fun _ _ _ _ _ _ us hl => match us, hl with | [_, _], _ => rfl) (fun cdv A outer s H E hr => ?_)
  have nd := sc_law_cell.nd
  have tk : Takes (cxOf (L2.CX P w) P w K mg base ["script", "k"] "_law_cell" (defScope s_law_cell) f cdv A outer s H E) (fun cls d _ H => E cls d H) := takes_of rfl rfl rfl rfl
  have ps : PassesOwn (model P w) (A.deeper (envOfC "_law_cell" (defScope s_law_cell) s.heap.objs.size f cdv)) (envOfC "_law_cell" (defScope s_law_cell) s.heap.objs.size f cdv) (cxOf (L2.CX P w) P w K mg base ["script", "k"] "_law_cell" (defScope s_law_cell) f cdv A outer s H E).xe := passes_of (X := cxOf (L2.CX P w) P w K mg base ["script", "k"] "_law_cell" (defScope s_law_cell) f cdv A outer s H E) rfl
  exact (prb_cons (prs_if (ptc_lt (pr_name (pv 1)) (pr_b1 call_lenBoth op_lenD (by rfl) B.n_len PySem.boot_len (pr_name (pv 0)))) (prb_one (prs_ret (pr_idx (pr_name (pv 0)) (pr_name (pv 1))))) prb_nil) (prb_one (prs_ret (pr_c rfl pe_int))))

/-! _law_row -/
abbrev s_law_row : Stmt := topS 17
theorem sc_law_row : FnScope ["cell", "count", "row", "rest", "seed", "k"] ["cell", "count"] (defScope s_law_row) := ⟨rfl, rfl, rfl, by decide +kernel, rfl, by decide +kernel, by decide +kernel⟩
def b_law_row_0 : En → Rs Fl := ifS (tcmp geD (varF 0) (op2 powD (cF (.int 10)) (cF (.int 18)))) (seqS (appF 2 (op2 modD (op1 toIntD (varF 3)) (cF (.int 840)))) (asgF 3 (op2 divD (varF 3) (cF (.int 840))))) (seqS (asgF 4 (op2 modD (op1 toIntD (op2 addD (op2 mulD (varF 4) (cF (.int 48271))) (varF 5))) (cF (.int 2147483647)))) (appF 2 (op2 modD (op2 divD (op2 modD (op1 toIntD (op2 mulD (varF 4) (cF (.int 69621)))) (cF (.int 2147483629))) (cF (.int 7))) (cF (.int 840)))))
def f_law_row : En → Rs Fl := seqS (asgL 2 (lstF (nilA))) (seqS (asgF 3 (varF 0)) (seqS (asgF 4 (op2 addD (op2 modD (op1 toIntD (varF 0)) (cF (.int 2147483629))) (cF (.int 1)))) (seqS (forR rg1 (.nm 5) (b_law_row_0) (consA (varF 1) (nilA))) (retL 2))))
def m_law_row : List D → Rs D := runF 6 false f_law_row
theorem dn_law_row {f : Addr} {fd : FuncData} (F : Fun K "_law_row" "_law_row" s_law_row f fd) (hm : mg "_law_row" = some (.ref f)) (B : Blt mg) : Dn P w K mg base 1 "_law_row" 2 false m_law_row := by
  refine dn_of F sc_law_row rfl hm (F.binds fun _ _ _ _ _ _ us hl => match us, hl with | [_, _], _ => rfl) (fun cdv A outer s H E hr => ?_)
  have nd := sc_law_row.nd
  have tk : Takes (cxOf (L2.CX P w) P w K mg base ["cell", "count", "row", "rest", "seed", "k"] "_law_row" (defScope s_law_row) f cdv A outer s H E) (fun cls d _ H => E cls d H) := takes_of rfl rfl rfl rfl
  have ps : PassesOwn (model P w) (A.deeper (envOfC "_law_row" (defScope s_law_row) s.heap.objs.size f cdv)) (envOfC "_law_row" (defScope s_law_row) s.heap.objs.size f cdv) (cxOf (L2.CX P w) P w K mg base ["cell", "count", "row", "rest", "seed", "k"] "_law_row" (defScope s_law_row) f cdv A outer s H E).xe := passes_of (X := cxOf (L2.CX P w) P w K mg base ["cell", "count", "row", "rest", "seed", "k"] "_law_row" (defScope s_law_row) f cdv A outer s H E) rfl
  exact (prb_cons (prs_asgL (ps_set (i := 2) nd rfl (by first | exact .inl rfl | exact .inr rfl) (pr_lst pra_nil))) (prb_cons (prs_asg (ps_set (i := 3) nd rfl (by first | exact .inl rfl | exact .inr rfl) (pr_name (pv 0)))) (prb_cons (prs_asg (ps_set (i := 4) nd rfl (by first | exact .inl rfl | exact .inr rfl) (pr_add (pr_mod (pr_ty1 call_int1 op_toIntD (by rfl) B.n_int boot_int (pr_name (pv 0))) (pr_c rfl pe_int)) (pr_c rfl pe_int)))) (prb_cons (prs_forR1 (t := .nm 5) ps rfl (by rfl) B.n_range (pra_cons (pr_name (pv 1)) pra_nil) (prg_nm (pg_name (i := 5) nd rfl (by first | exact .inl rfl | exact .inr rfl))) (prb_one (prs_if (ptc_ge (pr_name (pv 0)) (pr_pow (pr_c rfl pe_int) (pr_c rfl pe_int))) (prb_cons (prs_app (ps_expr (pe_bm PySem.F.plainAttrs_list PySem.F.slot_list_append PySem.F.type_list_append mt_append (pv 2) (pa_cons (pr_mod (pr_ty1 call_int1 op_toIntD (by rfl) B.n_int boot_int (pr_name (pv 3))) (pr_c rfl pe_int)) pa_nil)))) (prb_one (prs_asg (ps_set (i := 3) nd rfl (by first | exact .inl rfl | exact .inr rfl) (pr_div (pr_name (pv 3)) (pr_c rfl pe_int)))))) (prb_cons (prs_asg (ps_set (i := 4) nd rfl (by first | exact .inl rfl | exact .inr rfl) (pr_mod (pr_ty1 call_int1 op_toIntD (by rfl) B.n_int boot_int (pr_add (pr_mul (pr_name (pv 4)) (pr_c rfl pe_int)) (pr_name (pv 5)))) (pr_c rfl pe_int)))) (prb_one (prs_app (ps_expr (pe_bm PySem.F.plainAttrs_list PySem.F.slot_list_append PySem.F.type_list_append mt_append (pv 2) (pa_cons (pr_mod (pr_div (pr_mod (pr_ty1 call_int1 op_toIntD (by rfl) B.n_int boot_int (pr_mul (pr_name (pv 4)) (pr_c rfl pe_int))) (pr_c rfl pe_int)) (pr_c rfl pe_int)) (pr_c rfl pe_int)) pa_nil))))))))) (prb_one (prs_retL (pv 2)))))))

/-! _law_word -/
abbrev s_law_word : Stmt := topS 18
theorem sc_law_word : FnScope ["number", "letters", "word"] ["number"] (defScope s_law_word) := ⟨rfl, rfl, rfl, by decide +kernel, rfl, by decide +kernel, by decide +kernel⟩
def f_law_word : En → Rs Fl := seqS (asgF 1 (cF (.str "abcdefghijklmnopqrstuvwxyz"))) (seqS (asgF 2 (op2 idxD (varF 1) (op2 modD (varF 0) (cF (.int 26))))) (seqS (ifS (tcmp gtD (op2 modD (op2 divD (varF 0) (cF (.int 26))) (cF (.int 3))) (cF (.int 0))) (asgF 2 (op2 addD (varF 2) (op2 idxD (varF 1) (op2 modD (op2 divD (varF 0) (cF (.int 3))) (cF (.int 26)))))) (nilS)) (seqS (ifS (tcmp eqD (op2 modD (op2 divD (varF 0) (cF (.int 26))) (cF (.int 3))) (cF (.int 2))) (asgF 2 (op2 addD (op2 addD (op2 addD (varF 2) (op2 idxD (varF 1) (op2 modD (op2 divD (varF 0) (cF (.int 5))) (cF (.int 26))))) (op2 idxD (varF 1) (op2 modD (op2 divD (varF 0) (cF (.int 11))) (cF (.int 26))))) (op2 idxD (varF 1) (op2 modD (op2 divD (varF 0) (cF (.int 2))) (cF (.int 26)))))) (nilS)) (retF (varF 2)))))
def m_law_word : List D → Rs D := runF 3 false f_law_word
theorem dn_law_word {f : Addr} {fd : FuncData} (F : Fun K "_law_word" "_law_word" s_law_word f fd) (hm : mg "_law_word" = some (.ref f)) (B : Blt mg) : Dn P w K mg base 1 "_law_word" 1 false m_law_word := by
  refine dn_of F sc_law_word rfl hm (F.binds fun _ _ _ _ _ _ us hl => match us, hl with | [_], _ => rfl) (fun cdv A outer s H E hr => ?_)
  have nd := sc_law_word.nd
  have tk : Takes (cxOf (L2.CX P w) P w K mg base ["number", "letters", "word"] "_law_word" (defScope s_law_word) f cdv A outer s H E) (fun cls d _ H => E cls d H) := takes_of rfl rfl rfl rfl
  have ps : PassesOwn (model P w) (A.deeper (envOfC "_law_word" (defScope s_law_word) s.heap.objs.size f cdv)) (envOfC "_law_word" (defScope s_law_word) s.heap.objs.size f cdv) (cxOf (L2.CX P w) P w K mg base ["number", "letters", "word"] "_law_word" (defScope s_law_word) f cdv A outer s H E).xe := passes_of (X := cxOf (L2.CX P w) P w K mg base ["number", "letters", "word"] "_law_word" (defScope s_law_word) f cdv A outer s H E) rfl
  exact (prb_cons (prs_asg (ps_set (i := 1) nd rfl (by first | exact .inl rfl | exact .inr rfl) (pr_c rfl pe_str))) (prb_cons (prs_asg (ps_set (i := 2) nd rfl (by first | exact .inl rfl | exact .inr rfl) (pr_idx (pr_name (pv 1)) (pr_mod (pr_name (pv 0)) (pr_c rfl pe_int))))) (prb_cons (prs_if (ptc_gt (pr_mod (pr_div (pr_name (pv 0)) (pr_c rfl pe_int)) (pr_c rfl pe_int)) (pr_c rfl pe_int)) (prb_one (prs_asg (ps_set (i := 2) nd rfl (by first | exact .inl rfl | exact .inr rfl) (pr_add (pr_name (pv 2)) (pr_idx (pr_name (pv 1)) (pr_mod (pr_div (pr_name (pv 0)) (pr_c rfl pe_int)) (pr_c rfl pe_int))))))) prb_nil) (prb_cons (prs_if (ptc_eq hr (pr_mod (pr_div (pr_name (pv 0)) (pr_c rfl pe_int)) (pr_c rfl pe_int)) (pr_c rfl pe_int)) (prb_one (prs_asg (ps_set (i := 2) nd rfl (by first | exact .inl rfl | exact .inr rfl) (pr_add (pr_add (pr_add (pr_name (pv 2)) (pr_idx (pr_name (pv 1)) (pr_mod (pr_div (pr_name (pv 0)) (pr_c rfl pe_int)) (pr_c rfl pe_int)))) (pr_idx (pr_name (pv 1)) (pr_mod (pr_div (pr_name (pv 0)) (pr_c rfl pe_int)) (pr_c rfl pe_int)))) (pr_idx (pr_name (pv 1)) (pr_mod (pr_div (pr_name (pv 0)) (pr_c rfl pe_int)) (pr_c rfl pe_int))))))) prb_nil) (prb_one (prs_ret (pr_name (pv 2))))))))

/-! _law_words -/
abbrev s_law_words : Stmt := topS 19
theorem sc_law_words : FnScope ["row", "count", "letters", "words", "k", "sign", "word", "at"] ["row", "count"] (defScope s_law_words) := ⟨rfl, rfl, rfl, by decide +kernel, rfl, by decide +kernel, by decide +kernel⟩
def b_law_words_0 : En → Rs Fl := seqS (asgF 5 (op2 idxD (varF 2) (op2 modD (op2 addD (op2 idxD (varF 0) (cF (.int 1))) (varF 4)) (cF (.int 26))))) (seqS (asgF 6 (callF m_law_word (consA (op2 idxD (varF 0) (cF (.int 0))) (nilA)))) (seqS (asgF 7 (op2 idxD (lstF (consA (op1 lenD (varF 6)) (consA (cF (.int 0)) (consA (op2 modD (op2 divD (op2 idxD (varF 0) (cF (.int 2))) (cF (.int 3))) (op2 addD (op1 lenD (varF 6)) (cF (.int 1)))) (nilA))))) (op2 modD (op2 idxD (varF 0) (cF (.int 2))) (cF (.int 3))))) (appF 3 (op2 addD (op2 addD (sliceF sliceD (varF 6) (noF) (someF (varF 7))) (varF 5)) (sliceF sliceD (varF 6) (someF (varF 7)) (noF))))))
def f_law_words : En → Rs Fl := seqS (asgF 2 (cF (.str "abcdefghijklmnopqrstuvwxyz"))) (seqS (asgL 3 (lstF (nilA))) (seqS (forR rg1 (.nm 4) (b_law_words_0) (consA (varF 1) (nilA))) (retL 3)))
def m_law_words : List D → Rs D := runF 8 false f_law_words
theorem dn_law_words {f : Addr} {fd : FuncData} (F : Fun K "_law_words" "_law_words" s_law_words f fd) (hm : mg "_law_words" = some (.ref f)) (B : Blt mg) (D_law_word : Dn P w K mg base 1 "_law_word" 1 false m_law_word) : Dn P w K mg base 2 "_law_words" 2 false m_law_words := by
  refine dn_of F sc_law_words rfl hm (F.binds fun _ _ _ _ _ _ us hl => match us, hl with | [_, _], _ => rfl) (fun cdv A outer s H E hr => ?_)
  have nd := sc_law_words.nd
  have tk : Takes (cxOf (L2.CX P w) P w K mg base ["row", "count", "letters", "words", "k", "sign", "word", "at"] "_law_words" (defScope s_law_words) f cdv A outer s H E) (fun cls d _ H => E cls d H) := takes_of rfl rfl rfl rfl
  have ps : PassesOwn (model P w) (A.deeper (envOfC "_law_words" (defScope s_law_words) s.heap.objs.size f cdv)) (envOfC "_law_words" (defScope s_law_words) s.heap.objs.size f cdv) (cxOf (L2.CX P w) P w K mg base ["row", "count", "letters", "words", "k", "sign", "word", "at"] "_law_words" (defScope s_law_words) f cdv A outer s H E).xe := passes_of (X := cxOf (L2.CX P w) P w K mg base ["row", "count", "letters", "words", "k", "sign", "word", "at"] "_law_words" (defScope s_law_words) f cdv A outer s H E) rfl
  exact (prb_cons (prs_asg (ps_set (i := 2) nd rfl (by first | exact .inl rfl | exact .inr rfl) (pr_c rfl pe_str))) (prb_cons (prs_asgL (ps_set (i := 3) nd rfl (by first | exact .inl rfl | exact .inr rfl) (pr_lst pra_nil))) (prb_cons (prs_forR1 (t := .nm 4) ps rfl (by rfl) B.n_range (pra_cons (pr_name (pv 1)) pra_nil) (prg_nm (pg_name (i := 4) nd rfl (by first | exact .inl rfl | exact .inr rfl))) (prb_cons (prs_asg (ps_set (i := 5) nd rfl (by first | exact .inl rfl | exact .inr rfl) (pr_idx (pr_name (pv 2)) (pr_mod (pr_add (pr_idx (pr_name (pv 0)) (pr_c rfl pe_int)) (pr_name (pv 4))) (pr_c rfl pe_int))))) (prb_cons (prs_asg (ps_set (i := 6) nd rfl (by first | exact .inl rfl | exact .inr rfl) (pr_call D_law_word (hr.mono (by decide)) (by rfl) tk (pra_cons (pr_idx (pr_name (pv 0)) (pr_c rfl pe_int)) pra_nil) (consA_len nilA_len)))) (prb_cons (prs_asg (ps_set (i := 7) nd rfl (by first | exact .inl rfl | exact .inr rfl) (pr_idx (pr_lst (pra_cons (pr_b1 call_lenBoth op_lenD (by rfl) B.n_len PySem.boot_len (pr_name (pv 6))) (pra_cons (pr_c rfl pe_int) (pra_cons (pr_mod (pr_div (pr_idx (pr_name (pv 0)) (pr_c rfl pe_int)) (pr_c rfl pe_int)) (pr_add (pr_b1 call_lenBoth op_lenD (by rfl) B.n_len PySem.boot_len (pr_name (pv 6))) (pr_c rfl pe_int))) pra_nil)))) (pr_mod (pr_idx (pr_name (pv 0)) (pr_c rfl pe_int)) (pr_c rfl pe_int))))) (prb_one (prs_app (ps_expr (pe_bm PySem.F.plainAttrs_list PySem.F.slot_list_append PySem.F.type_list_append mt_append (pv 3) (pa_cons (pr_add (pr_add (pr_slice (pr_name (pv 6)) pr_none (pr_some (pr_name (pv 7)))) (pr_name (pv 5))) (pr_slice (pr_name (pv 6)) (pr_some (pr_name (pv 7))) pr_none)) pa_nil))))))))) (prb_one (prs_retL (pv 3))))))

/-! _law_names -/
abbrev s_law_names : Stmt := topS 20
theorem sc_law_names : FnScope ["row"] ["row"] (defScope s_law_names) := ⟨rfl, rfl, rfl, by decide +kernel, rfl, by decide +kernel, by decide +kernel⟩
def f_law_names : En → Rs Fl := retF (callF m_law_words (consA (sliceF sliceD (varF 0) (noF) (someF (cF (.int 3)))) (consA (op2 addD (cF (.int 1)) (op2 modD (op2 idxD (varF 0) (cF (.int 3))) (cF (.int 4)))) (nilA))))
def m_law_names : List D → Rs D := runF 1 false f_law_names
theorem dn_law_names {f : Addr} {fd : FuncData} (F : Fun K "_law_names" "_law_names" s_law_names f fd) (hm : mg "_law_names" = some (.ref f)) (B : Blt mg) (D_law_words : Dn P w K mg base 2 "_law_words" 2 false m_law_words) : Dn P w K mg base 3 "_law_names" 1 false m_law_names := by
  refine dn_of F sc_law_names rfl hm (F.binds fun _ _ _ _ _ _ us hl => match us, hl with | [_], _ => rfl) (fun cdv A outer s H E hr => ?_)
  have nd := sc_law_names.nd
  have tk : Takes (cxOf (L2.CX P w) P w K mg base ["row"] "_law_names" (defScope s_law_names) f cdv A outer s H E) (fun cls d _ H => E cls d H) := takes_of rfl rfl rfl rfl
  have ps : PassesOwn (model P w) (A.deeper (envOfC "_law_names" (defScope s_law_names) s.heap.objs.size f cdv)) (envOfC "_law_names" (defScope s_law_names) s.heap.objs.size f cdv) (cxOf (L2.CX P w) P w K mg base ["row"] "_law_names" (defScope s_law_names) f cdv A outer s H E).xe := passes_of (X := cxOf (L2.CX P w) P w K mg base ["row"] "_law_names" (defScope s_law_names) f cdv A outer s H E) rfl
  exact (prb_one (prs_ret (pr_call D_law_words (hr.mono (by decide)) (by rfl) tk (pra_cons (pr_slice (pr_name (pv 0)) pr_none (pr_some (pr_c rfl pe_int))) (pra_cons (pr_add (pr_c rfl pe_int) (pr_mod (pr_idx (pr_name (pv 0)) (pr_c rfl pe_int)) (pr_c rfl pe_int))) pra_nil)) (consA_len (consA_len nilA_len)))))

/-! _law_items -/
abbrev s_law_items : Stmt := topS 21
theorem sc_law_items : FnScope ["names", "items", "k", "other", "relation", "name"] ["names"] (defScope s_law_items) := ⟨rfl, rfl, rfl, by decide +kernel, rfl, by decide +kernel, by decide +kernel⟩
def b_law_items_0 : En → Rs Fl := appF 1 (tupF (consA (cF (.str "order")) (consA (op2 idxD (varF 0) (varF 2)) (consA (varF 3) (consA (varF 4) (nilA))))))
def b_law_items_1 : En → Rs Fl := forF (.nm 4) (b_law_items_0) (lstF (consA (cF (.str "less")) (consA (cF (.str "equal")) (consA (cF (.str "greater")) (nilA)))))
def b_law_items_2 : En → Rs Fl := seqS (appF 1 (tupF (consA (cF (.str "order")) (consA (op2 idxD (varF 0) (varF 2)) (consA (op2 idxD (varF 0) (varF 2)) (consA (cF (.str "less")) (nilA))))))) (forF (.nm 3) (b_law_items_1) (sliceF sliceD (varF 0) (someF (op2 addD (varF 2) (cF (.int 1)))) (noF)))
def f_law_items : En → Rs Fl := seqS (asgL 1 (lstF (nilA))) (seqS (forR rg1 (.nm 2) (b_law_items_2) (consA (op1 lenD (varF 0)) (nilA))) (retF (op2 addL (varL 1) (compF (.nm 5) [5] (yesF) (tupF (consA (cF (.str "once")) (consA (varF 5) (nilA)))) (varF 0)))))
def m_law_items : List D → Rs D := runF 6 false f_law_items
theorem dn_law_items {f : Addr} {fd : FuncData} (F : Fun K "_law_items" "_law_items" s_law_items f fd) (hm : mg "_law_items" = some (.ref f)) (B : Blt mg) : Dn P w K mg base 1 "_law_items" 1 false m_law_items := by
  refine dn_of F sc_law_items rfl hm (F.binds fun _ _ _ _ _ _ us hl => match us, hl with | [_], _ => rfl) (fun cdv A outer s H E hr => ?_)
  have nd := sc_law_items.nd
  have tk : Takes (cxOf (L2.CX P w) P w K mg base ["names", "items", "k", "other", "relation", "name"] "_law_items" (defScope s_law_items) f cdv A outer s H E) (fun cls d _ H => E cls d H) := takes_of rfl rfl rfl rfl
  have ps : PassesOwn (model P w) (A.deeper (envOfC "_law_items" (defScope s_law_items) s.heap.objs.size f cdv)) (envOfC "_law_items" (defScope s_law_items) s.heap.objs.size f cdv) (cxOf (L2.CX P w) P w K mg base ["names", "items", "k", "other", "relation", "name"] "_law_items" (defScope s_law_items) f cdv A outer s H E).xe := passes_of (X := cxOf (L2.CX P w) P w K mg base ["names", "items", "k", "other", "relation", "name"] "_law_items" (defScope s_law_items) f cdv A outer s H E) rfl
  exact (prb_cons (prs_asgL (ps_set (i := 1) nd rfl (by first | exact .inl rfl | exact .inr rfl) (pr_lst pra_nil))) (prb_cons (prs_forR1 (t := .nm 2) ps rfl (by rfl) B.n_range (pra_cons (pr_b1 call_lenBoth op_lenD (by rfl) B.n_len PySem.boot_len (pr_name (pv 0))) pra_nil) (prg_nm (pg_name (i := 2) nd rfl (by first | exact .inl rfl | exact .inr rfl))) (prb_cons (prs_app (ps_expr (pe_bm PySem.F.plainAttrs_list PySem.F.slot_list_append PySem.F.type_list_append mt_append (pv 1) (pa_cons (pr_tup (pra_cons (pr_c rfl pe_str) (pra_cons (pr_idx (pr_name (pv 0)) (pr_name (pv 2))) (pra_cons (pr_idx (pr_name (pv 0)) (pr_name (pv 2))) (pra_cons (pr_c rfl pe_str) pra_nil))))) pa_nil)))) (prb_one (prs_for (t := .nm 3) ps rfl (pr_slice (pr_name (pv 0)) (pr_some (pr_add (pr_name (pv 2)) (pr_c rfl pe_int))) pr_none) (prg_nm (pg_name (i := 3) nd rfl (by first | exact .inl rfl | exact .inr rfl))) (prb_one (prs_for (t := .nm 4) ps rfl (pr_fz (pr_lst (pra_cons (pr_c rfl pe_str) (pra_cons (pr_c rfl pe_str) (pra_cons (pr_c rfl pe_str) pra_nil))))) (prg_nm (pg_name (i := 4) nd rfl (by first | exact .inl rfl | exact .inr rfl))) (prb_one (prs_app (ps_expr (pe_bm PySem.F.plainAttrs_list PySem.F.slot_list_append PySem.F.type_list_append mt_append (pv 1) (pa_cons (pr_tup (pra_cons (pr_c rfl pe_str) (pra_cons (pr_idx (pr_name (pv 0)) (pr_name (pv 2))) (pra_cons (pr_name (pv 3)) (pra_cons (pr_name (pv 4)) pra_nil))))) pa_nil))))))))))) (prb_one (prs_retN (pr_addL (pr_nameL (pv 1)) (pr_comp (own := [("name", 5)]) (t := .nm 5) rfl nd (pr_name (pv 0)) (blkOk_by (N := ["names", "items", "k", "other", "relation", "name"]) (sc := (defScope s_law_items)) (own := [("name", 5)]) (by decide +kernel)) (fun _ _ _ _ _ => (prg_nm (pg_name (i := 5) nd rfl (by first | exact .inl rfl | exact .inr rfl)))) prtc_nil (fun _ _ _ _ _ => (pr_tup (pra_cons (pr_c rfl pe_str) (pra_cons (pr_name (pv 5)) pra_nil))))))))))

/-! _law_relation -/
abbrev s_law_relation : Stmt := topS 22
theorem sc_law_relation : FnScope ["first", "second"] ["first", "second"] (defScope s_law_relation) := ⟨rfl, rfl, rfl, by decide +kernel, rfl, by decide +kernel, by decide +kernel⟩
def f_law_relation : En → Rs Fl := seqS (ifS (tcmp ltD (varF 0) (varF 1)) (retF (cF (.str "less"))) (nilS)) (seqS (ifS (tcmp ltD (varF 1) (varF 0)) (retF (cF (.str "greater"))) (nilS)) (retF (cF (.str "equal"))))
def m_law_relation : List D → Rs D := runF 2 false f_law_relation
theorem dn_law_relation {f : Addr} {fd : FuncData} (F : Fun K "_law_relation" "_law_relation" s_law_relation f fd) (hm : mg "_law_relation" = some (.ref f)) (B : Blt mg) : Dn P w K mg base 1 "_law_relation" 2 false m_law_relation := by
  refine dn_of F sc_law_relation rfl hm (F.binds fun _ _ _ _ _ _ us hl => match us, hl with | [_, _], _ => rfl) (fun cdv A outer s H E hr => ?_)
  have nd := sc_law_relation.nd
  have tk : Takes (cxOf (L2.CX P w) P w K mg base ["first", "second"] "_law_relation" (defScope s_law_relation) f cdv A outer s H E) (fun cls d _ H => E cls d H) := takes_of rfl rfl rfl rfl
  have ps : PassesOwn (model P w) (A.deeper (envOfC "_law_relation" (defScope s_law_relation) s.heap.objs.size f cdv)) (envOfC "_law_relation" (defScope s_law_relation) s.heap.objs.size f cdv) (cxOf (L2.CX P w) P w K mg base ["first", "second"] "_law_relation" (defScope s_law_relation) f cdv A outer s H E).xe := passes_of (X := cxOf (L2.CX P w) P w K mg base ["first", "second"] "_law_relation" (defScope s_law_relation) f cdv A outer s H E) rfl
  exact (prb_cons (prs_if (ptc_lt (pr_name (pv 0)) (pr_name (pv 1))) (prb_one (prs_ret (pr_c rfl pe_str))) prb_nil) (prb_cons (prs_if (ptc_lt (pr_name (pv 1)) (pr_name (pv 0))) (prb_one (prs_ret (pr_c rfl pe_str))) prb_nil) (prb_one (prs_ret (pr_c rfl pe_str)))))

/-! _law_item_keeps -/
abbrev s_law_item_keeps : Stmt := topS 23
theorem sc_law_item_keeps : FnScope ["item", "first", "second"] ["item", "first", "second"] (defScope s_law_item_keeps) := ⟨rfl, rfl, rfl, by decide +kernel, rfl, by decide +kernel, by decide +kernel⟩
def f_law_item_keeps : En → Rs Fl := seqS (ifS (tcmp eqD (op2 idxD (varF 0) (cF (.int 0))) (cF (.str "once"))) (retF (cF (.bl false))) (nilS)) (seqS (ifS (tcmp eqD (op2 idxD (varF 0) (cF (.int 1))) (op2 idxD (varF 0) (cF (.int 2)))) (retF (andF (op2 eqD (op2 idxD (varF 1) (cF (.int 0))) (op2 idxD (varF 0) (cF (.int 1)))) (andF (op2 eqD (op2 idxD (varF 2) (cF (.int 0))) (op2 idxD (varF 0) (cF (.int 1)))) (op2 neD (op2 idxD (varF 1) (cF (.int 1))) (op2 idxD (varF 2) (cF (.int 1))))))) (nilS)) (seqS (ifS (tcmp eqD (tupF (consA (op2 idxD (varF 1) (cF (.int 0))) (consA (op2 idxD (varF 2) (cF (.int 0))) (nilA)))) (tupF (consA (op2 idxD (varF 0) (cF (.int 1))) (consA (op2 idxD (varF 0) (cF (.int 2))) (nilA))))) (retF (op2 eqD (callF m_law_relation (consA (op2 idxD (varF 1) (cF (.int 1))) (consA (op2 idxD (varF 2) (cF (.int 1))) (nilA)))) (op2 idxD (varF 0) (cF (.int 3))))) (nilS)) (seqS (ifS (tcmp eqD (tupF (consA (op2 idxD (varF 2) (cF (.int 0))) (consA (op2 idxD (varF 1) (cF (.int 0))) (nilA)))) (tupF (consA (op2 idxD (varF 0) (cF (.int 1))) (consA (op2 idxD (varF 0) (cF (.int 2))) (nilA))))) (retF (op2 eqD (callF m_law_relation (consA (op2 idxD (varF 2) (cF (.int 1))) (consA (op2 idxD (varF 1) (cF (.int 1))) (nilA)))) (op2 idxD (varF 0) (cF (.int 3))))) (nilS)) (retF (cF (.bl false))))))
def m_law_item_keeps : List D → Rs D := runF 3 false f_law_item_keeps
theorem dn_law_item_keeps {f : Addr} {fd : FuncData} (F : Fun K "_law_item_keeps" "_law_item_keeps" s_law_item_keeps f fd) (hm : mg "_law_item_keeps" = some (.ref f)) (B : Blt mg) (D_law_relation : Dn P w K mg base 1 "_law_relation" 2 false m_law_relation) : Dn P w K mg base 2 "_law_item_keeps" 3 false m_law_item_keeps := by
  refine dn_of F sc_law_item_keeps rfl hm (F.binds fun _ _ _ _ _ _ us hl => match us, hl with | [_, _, _], _ => rfl) (fun cdv A outer s H E hr => ?_)
  have nd := sc_law_item_keeps.nd
  have tk : Takes (cxOf (L2.CX P w) P w K mg base ["item", "first", "second"] "_law_item_keeps" (defScope s_law_item_keeps) f cdv A outer s H E) (fun cls d _ H => E cls d H) := takes_of rfl rfl rfl rfl
  have ps : PassesOwn (model P w) (A.deeper (envOfC "_law_item_keeps" (defScope s_law_item_keeps) s.heap.objs.size f cdv)) (envOfC "_law_item_keeps" (defScope s_law_item_keeps) s.heap.objs.size f cdv) (cxOf (L2.CX P w) P w K mg base ["item", "first", "second"] "_law_item_keeps" (defScope s_law_item_keeps) f cdv A outer s H E).xe := passes_of (X := cxOf (L2.CX P w) P w K mg base ["item", "first", "second"] "_law_item_keeps" (defScope s_law_item_keeps) f cdv A outer s H E) rfl
  exact (prb_cons (prs_if (ptc_eq hr (pr_idx (pr_name (pv 0)) (pr_c rfl pe_int)) (pr_c rfl pe_str)) (prb_one (prs_ret (pr_c rfl pe_bl))) prb_nil) (prb_cons (prs_if (ptc_eq hr (pr_idx (pr_name (pv 0)) (pr_c rfl pe_int)) (pr_idx (pr_name (pv 0)) (pr_c rfl pe_int))) (prb_one (prs_ret (pr_and (pr_eq hr (pr_idx (pr_name (pv 1)) (pr_c rfl pe_int)) (pr_idx (pr_name (pv 0)) (pr_c rfl pe_int))) (pr_and (pr_eq hr (pr_idx (pr_name (pv 2)) (pr_c rfl pe_int)) (pr_idx (pr_name (pv 0)) (pr_c rfl pe_int))) (pr_one (pr_ne hr (pr_idx (pr_name (pv 1)) (pr_c rfl pe_int)) (pr_idx (pr_name (pv 2)) (pr_c rfl pe_int)))))))) prb_nil) (prb_cons (prs_if (ptc_eq hr (pr_tup (pra_cons (pr_idx (pr_name (pv 1)) (pr_c rfl pe_int)) (pra_cons (pr_idx (pr_name (pv 2)) (pr_c rfl pe_int)) pra_nil))) (pr_tup (pra_cons (pr_idx (pr_name (pv 0)) (pr_c rfl pe_int)) (pra_cons (pr_idx (pr_name (pv 0)) (pr_c rfl pe_int)) pra_nil)))) (prb_one (prs_ret (pr_eq hr (pr_call D_law_relation (hr.mono (by decide)) (by rfl) tk (pra_cons (pr_idx (pr_name (pv 1)) (pr_c rfl pe_int)) (pra_cons (pr_idx (pr_name (pv 2)) (pr_c rfl pe_int)) pra_nil)) (consA_len (consA_len nilA_len))) (pr_idx (pr_name (pv 0)) (pr_c rfl pe_int))))) prb_nil) (prb_cons (prs_if (ptc_eq hr (pr_tup (pra_cons (pr_idx (pr_name (pv 2)) (pr_c rfl pe_int)) (pra_cons (pr_idx (pr_name (pv 1)) (pr_c rfl pe_int)) pra_nil))) (pr_tup (pra_cons (pr_idx (pr_name (pv 0)) (pr_c rfl pe_int)) (pra_cons (pr_idx (pr_name (pv 0)) (pr_c rfl pe_int)) pra_nil)))) (prb_one (prs_ret (pr_eq hr (pr_call D_law_relation (hr.mono (by decide)) (by rfl) tk (pra_cons (pr_idx (pr_name (pv 2)) (pr_c rfl pe_int)) (pra_cons (pr_idx (pr_name (pv 1)) (pr_c rfl pe_int)) pra_nil)) (consA_len (consA_len nilA_len))) (pr_idx (pr_name (pv 0)) (pr_c rfl pe_int))))) prb_nil) (prb_one (prs_ret (pr_c rfl pe_bl)))))))

/-! _law_keeps -/
abbrev s_law_keeps : Stmt := topS 24
theorem sc_law_keeps : FnScope ["items", "first", "second", "item"] ["items", "first", "second"] (defScope s_law_keeps) := ⟨rfl, rfl, rfl, by decide +kernel, rfl, by decide +kernel, by decide +kernel⟩
def f_law_keeps : En → Rs Fl := retF (op2 gtD (op1 lenD (compF (.nm 3) [3] (tstF (callF m_law_item_keeps (consA (varF 3) (consA (varF 1) (consA (varF 2) (nilA)))))) (varF 3) (varF 0))) (cF (.int 0)))
def m_law_keeps : List D → Rs D := runF 4 false f_law_keeps
theorem dn_law_keeps {f : Addr} {fd : FuncData} (F : Fun K "_law_keeps" "_law_keeps" s_law_keeps f fd) (hm : mg "_law_keeps" = some (.ref f)) (B : Blt mg) (D_law_item_keeps : Dn P w K mg base 2 "_law_item_keeps" 3 false m_law_item_keeps) : Dn P w K mg base 3 "_law_keeps" 3 false m_law_keeps := by
  refine dn_of F sc_law_keeps rfl hm (F.binds fun _ _ _ _ _ _ us hl => match us, hl with | [_, _, _], _ => rfl) (fun cdv A outer s H E hr => ?_)
  have nd := sc_law_keeps.nd
  have tk : Takes (cxOf (L2.CX P w) P w K mg base ["items", "first", "second", "item"] "_law_keeps" (defScope s_law_keeps) f cdv A outer s H E) (fun cls d _ H => E cls d H) := takes_of rfl rfl rfl rfl
  have ps : PassesOwn (model P w) (A.deeper (envOfC "_law_keeps" (defScope s_law_keeps) s.heap.objs.size f cdv)) (envOfC "_law_keeps" (defScope s_law_keeps) s.heap.objs.size f cdv) (cxOf (L2.CX P w) P w K mg base ["items", "first", "second", "item"] "_law_keeps" (defScope s_law_keeps) f cdv A outer s H E).xe := passes_of (X := cxOf (L2.CX P w) P w K mg base ["items", "first", "second", "item"] "_law_keeps" (defScope s_law_keeps) f cdv A outer s H E) rfl
  exact (prb_one (prs_ret (pr_gt (pr_b1 call_lenBoth op_lenD (by rfl) B.n_len PySem.boot_len (pr_comp (own := [("item", 3)]) (t := .nm 3) rfl nd (pr_name (pv 0)) (blkOk_by (N := ["items", "first", "second", "item"]) (sc := (defScope s_law_keeps)) (own := [("item", 3)]) (by decide +kernel)) (fun _ _ _ _ _ => (prg_nm (pg_name (i := 3) nd rfl (by first | exact .inl rfl | exact .inr rfl)))) (prtc_one (fun _ _ _ _ _ => (pt_v (pr_call D_law_item_keeps (hr.mono (by decide)) (by rfl) takes0 (pra_cons (pr_name (pv 3)) (pra_cons (pr_name (pv 1)) (pra_cons (pr_name (pv 2)) pra_nil))) (consA_len (consA_len (consA_len nilA_len))))))) (fun _ _ _ _ _ => (pr_name (pv 3))))) (pr_c rfl pe_int))))

/-! _law_shows -/
abbrev s_law_shows : Stmt := topS 25
theorem sc_law_shows : FnScope ["item", "sent", "came", "k", "found"] ["item", "sent", "came"] (defScope s_law_shows) := ⟨rfl, rfl, rfl, by decide +kernel, rfl, by decide +kernel, by decide +kernel⟩
def b_law_shows_0 : En → Rs Fl := ifS (tand (tcmp eqD (op2 addL (op2 addL (sliceF sliceD (varF 1) (noF) (someF (varF 3))) (lstF (consA (op2 idxD (varF 1) (op2 addD (varF 3) (cF (.int 1)))) (consA (op2 idxD (varF 1) (varF 3)) (nilA))))) (sliceF sliceD (varF 1) (someF (op2 addD (varF 3) (cF (.int 2)))) (noF))) (varF 2)) (tcmp neD (varF 1) (varF 2))) (retF (callF m_law_item_keeps (consA (varF 0) (consA (op2 idxD (varF 1) (varF 3)) (consA (op2 idxD (varF 1) (op2 addD (varF 3) (cF (.int 1)))) (nilA)))))) (nilS)
def f_law_shows : En → Rs Fl := seqS (ifS (tcmp eqD (op2 idxD (varF 0) (cF (.int 0))) (cF (.str "once"))) (seqS (asgF 4 (compR rg1 (.nm 3) [3] (tand (tcmp eqD (op2 addD (sliceF sliceD (varF 2) (noF) (someF (varF 3))) (sliceF sliceD (varF 2) (someF (op2 addD (varF 3) (cF (.int 1)))) (noF))) (varF 1)) (tcmp inE (op2 idxD (varF 2) (varF 3)) (sliceF sliceD (varF 2) (noF) (someF (varF 3))))) (varF 3) (consA (op1 lenD (varF 2)) (nilA)))) (retF (andF (op2 eqD (op1 lenD (varF 2)) (op2 addD (op1 lenD (varF 1)) (cF (.int 1)))) (op2 gtD (op1 lenD (compF (.nm 3) [3] (tcmp eqD (op2 idxD (op2 idxD (varF 2) (varF 3)) (cF (.int 0))) (op2 idxD (varF 0) (cF (.int 1)))) (varF 3) (varF 4))) (cF (.int 0)))))) (nilS)) (seqS (ifS (tcmp neD (op1 lenD (varF 1)) (op1 lenD (varF 2))) (retF (cF (.bl false))) (nilS)) (seqS (forR rg1 (.nm 3) (b_law_shows_0) (consA (op2 subD (op1 lenD (varF 1)) (cF (.int 1))) (nilA))) (retF (cF (.bl false)))))
def m_law_shows : List D → Rs D := runF 5 false f_law_shows
theorem dn_law_shows {f : Addr} {fd : FuncData} (F : Fun K "_law_shows" "_law_shows" s_law_shows f fd) (hm : mg "_law_shows" = some (.ref f)) (B : Blt mg) (D_law_item_keeps : Dn P w K mg base 2 "_law_item_keeps" 3 false m_law_item_keeps) : Dn P w K mg base 3 "_law_shows" 3 false m_law_shows := by
  refine dn_of F sc_law_shows rfl hm (F.binds fun _ _ _ _ _ _ us hl => match us, hl with | [_, _, _], _ => rfl) (fun cdv A outer s H E hr => ?_)
  have nd := sc_law_shows.nd
  have tk : Takes (cxOf (L2.CX P w) P w K mg base ["item", "sent", "came", "k", "found"] "_law_shows" (defScope s_law_shows) f cdv A outer s H E) (fun cls d _ H => E cls d H) := takes_of rfl rfl rfl rfl
  have ps : PassesOwn (model P w) (A.deeper (envOfC "_law_shows" (defScope s_law_shows) s.heap.objs.size f cdv)) (envOfC "_law_shows" (defScope s_law_shows) s.heap.objs.size f cdv) (cxOf (L2.CX P w) P w K mg base ["item", "sent", "came", "k", "found"] "_law_shows" (defScope s_law_shows) f cdv A outer s H E).xe := passes_of (X := cxOf (L2.CX P w) P w K mg base ["item", "sent", "came", "k", "found"] "_law_shows" (defScope s_law_shows) f cdv A outer s H E) rfl
  exact (prb_cons (prs_if (ptc_eq hr (pr_idx (pr_name (pv 0)) (pr_c rfl pe_int)) (pr_c rfl pe_str)) (prb_cons (prs_setCompR1 (i := 4) (own := [("k", 3)]) (t := .nm 3) rfl nd rfl rfl (sw_true rfl rfl rfl (by decide +kernel)) (by rfl) B.n_range (pra_cons (pr_b1 call_lenBoth op_lenD (by rfl) B.n_len PySem.boot_len (pr_name (pv 2))) pra_nil) (blkOk_by (N := ["item", "sent", "came", "k", "found"]) (sc := (defScope s_law_shows)) (own := [("k", 3)]) (by decide +kernel)) (fun _ _ _ _ _ => (prg_nm (pg_name (i := 3) nd rfl (by first | exact .inl rfl | exact .inr rfl)))) (prtc_one (fun _ _ _ _ _ => (prt_w (prw_and (ptc_eq hr (pr_add (pr_slice (pr_name (pv 2)) pr_none (pr_some (pr_name (pv 3)))) (pr_slice (pr_name (pv 2)) (pr_some (pr_add (pr_name (pv 3)) (pr_c rfl pe_int))) pr_none)) (pr_name (pv 1))) (prw_and1 (ptc_inE hr (pr_idx (pr_name (pv 2)) (pr_name (pv 3))) (pr_slice (pr_name (pv 2)) pr_none (pr_some (pr_name (pv 3)))))))))) (fun _ _ _ _ _ => (pr_name (pv 3)))) (prb_one (prs_ret (pr_and (pr_eq hr (pr_b1 call_lenBoth op_lenD (by rfl) B.n_len PySem.boot_len (pr_name (pv 2))) (pr_add (pr_b1 call_lenBoth op_lenD (by rfl) B.n_len PySem.boot_len (pr_name (pv 1))) (pr_c rfl pe_int))) (pr_one (pr_gt (pr_b1 call_lenBoth op_lenD (by rfl) B.n_len PySem.boot_len (pr_comp (own := [("k", 3)]) (t := .nm 3) rfl nd (pr_name (pv 4)) (blkOk_by (N := ["item", "sent", "came", "k", "found"]) (sc := (defScope s_law_shows)) (own := [("k", 3)]) (by decide +kernel)) (fun _ _ _ _ _ => (prg_nm (pg_name (i := 3) nd rfl (by first | exact .inl rfl | exact .inr rfl)))) (prtc_one (fun _ _ _ _ _ => (ptc_eq hr (pr_idx (pr_idx (pr_name (pv 2)) (pr_name (pv 3))) (pr_c rfl pe_int)) (pr_idx (pr_name (pv 0)) (pr_c rfl pe_int))))) (fun _ _ _ _ _ => (pr_name (pv 3))))) (pr_c rfl pe_int))))))) prb_nil) (prb_cons (prs_if (ptc_ne hr (pr_b1 call_lenBoth op_lenD (by rfl) B.n_len PySem.boot_len (pr_name (pv 1))) (pr_b1 call_lenBoth op_lenD (by rfl) B.n_len PySem.boot_len (pr_name (pv 2)))) (prb_one (prs_ret (pr_c rfl pe_bl))) prb_nil) (prb_cons (prs_forR1 (t := .nm 3) ps rfl (by rfl) B.n_range (pra_cons (pr_sub (pr_b1 call_lenBoth op_lenD (by rfl) B.n_len PySem.boot_len (pr_name (pv 1))) (pr_c rfl pe_int)) pra_nil) (prg_nm (pg_name (i := 3) nd rfl (by first | exact .inl rfl | exact .inr rfl))) (prb_one (prs_if (prt_w (prw_and (ptc_eq hr (pr_addL (pr_addL (pr_slice (pr_name (pv 1)) pr_none (pr_some (pr_name (pv 3)))) (pr_lst (pra_cons (pr_idx (pr_name (pv 1)) (pr_add (pr_name (pv 3)) (pr_c rfl pe_int))) (pra_cons (pr_idx (pr_name (pv 1)) (pr_name (pv 3))) pra_nil)))) (pr_slice (pr_name (pv 1)) (pr_some (pr_add (pr_name (pv 3)) (pr_c rfl pe_int))) pr_none)) (pr_name (pv 2))) (prw_and1 (ptc_ne hr (pr_name (pv 1)) (pr_name (pv 2)))))) (prb_one (prs_ret (pr_call D_law_item_keeps (hr.mono (by decide)) (by rfl) tk (pra_cons (pr_name (pv 0)) (pra_cons (pr_idx (pr_name (pv 1)) (pr_name (pv 3))) (pra_cons (pr_idx (pr_name (pv 1)) (pr_add (pr_name (pv 3)) (pr_c rfl pe_int))) pra_nil))) (consA_len (consA_len (consA_len nilA_len)))))) prb_nil))) (prb_one (prs_ret (pr_c rfl pe_bl))))))

/-! _law_some_items -/
abbrev s_law_some_items : Stmt := topS 26
theorem sc_law_some_items : FnScope ["names", "row", "items", "k"] ["names", "row"] (defScope s_law_some_items) := ⟨rfl, rfl, rfl, by decide +kernel, rfl, by decide +kernel, by decide +kernel⟩
def f_law_some_items : En → Rs Fl := seqS (asgF 2 (callF m_law_items (consA (varF 0) (nilA)))) (retF (compR rg1 (.nm 3) [3] (tcmp eqD (op2 modD (op2 idxD (varF 1) (op2 modD (varF 3) (op1 lenD (varF 1)))) (cF (.int 2))) (cF (.int 0))) (op2 idxD (varF 2) (varF 3)) (consA (op1 lenD (varF 2)) (nilA))))
def m_law_some_items : List D → Rs D := runF 4 false f_law_some_items
theorem dn_law_some_items {f : Addr} {fd : FuncData} (F : Fun K "_law_some_items" "_law_some_items" s_law_some_items f fd) (hm : mg "_law_some_items" = some (.ref f)) (B : Blt mg) (D_law_items : Dn P w K mg base 1 "_law_items" 1 false m_law_items) : Dn P w K mg base 2 "_law_some_items" 2 false m_law_some_items := by
  refine dn_of F sc_law_some_items rfl hm (F.binds fun _ _ _ _ _ _ us hl => match us, hl with | [_, _], _ => rfl) (fun cdv A outer s H E hr => ?_)
  have nd := sc_law_some_items.nd
  have tk : Takes (cxOf (L2.CX P w) P w K mg base ["names", "row", "items", "k"] "_law_some_items" (defScope s_law_some_items) f cdv A outer s H E) (fun cls d _ H => E cls d H) := takes_of rfl rfl rfl rfl
  have ps : PassesOwn (model P w) (A.deeper (envOfC "_law_some_items" (defScope s_law_some_items) s.heap.objs.size f cdv)) (envOfC "_law_some_items" (defScope s_law_some_items) s.heap.objs.size f cdv) (cxOf (L2.CX P w) P w K mg base ["names", "row", "items", "k"] "_law_some_items" (defScope s_law_some_items) f cdv A outer s H E).xe := passes_of (X := cxOf (L2.CX P w) P w K mg base ["names", "row", "items", "k"] "_law_some_items" (defScope s_law_some_items) f cdv A outer s H E) rfl
  exact (prb_cons (prs_asg (ps_set (i := 2) nd rfl (by first | exact .inl rfl | exact .inr rfl) (pr_call D_law_items (hr.mono (by decide)) (by rfl) tk (pra_cons (pr_name (pv 0)) pra_nil) (consA_len nilA_len)))) (prb_one (prs_retN (pr_compR1 (own := [("k", 3)]) (t := .nm 3) rfl nd (by rfl) B.n_range (pra_cons (pr_b1 call_lenBoth op_lenD (by rfl) B.n_len PySem.boot_len (pr_name (pv 2))) pra_nil) (blkOk_by (N := ["names", "row", "items", "k"]) (sc := (defScope s_law_some_items)) (own := [("k", 3)]) (by decide +kernel)) (fun _ _ _ _ _ => (prg_nm (pg_name (i := 3) nd rfl (by first | exact .inl rfl | exact .inr rfl)))) (prtc_one (fun _ _ _ _ _ => (ptc_eq hr (pr_mod (pr_idx (pr_name (pv 1)) (pr_mod (pr_name (pv 3)) (pr_b1 call_lenBoth op_lenD (by rfl) B.n_len PySem.boot_len (pr_name (pv 1))))) (pr_c rfl pe_int)) (pr_c rfl pe_int)))) (fun _ _ _ _ _ => (pr_idx (pr_name (pv 2)) (pr_name (pv 3))))))))

/-! _law_changed -/
abbrev s_law_changed : Stmt := topS 27
theorem sc_law_changed : FnScope ["sent", "row", "names", "scale", "came", "k", "at", "kind"] ["sent", "row", "names", "scale"] (defScope s_law_changed) := ⟨rfl, rfl, rfl, by decide +kernel, rfl, by decide +kernel, by decide +kernel⟩
def b_law_changed_0 : En → Rs Fl := seqS (asgF 6 (op2 modD (op2 idxD (varF 1) (op2 addD (cF (.int 1)) (op2 mulD (cF (.int 3)) (varF 5)))) (op2 addD (op1 lenD (varF 4)) (cF (.int 1))))) (seqS (asgF 7 (op2 modD (op2 idxD (varF 1) (op2 addD (cF (.int 2)) (op2 mulD (cF (.int 3)) (varF 5)))) (cF (.int 5)))) (ifS (tcmp eqD (varF 7) (cF (.int 0))) (asgF 4 (op2 addL (op2 addL (sliceF sliceD (varF 4) (noF) (someF (varF 6))) (op1 revL (sliceF sliceD (varF 4) (someF (varF 6)) (someF (op2 addD (varF 6) (cF (.int 2))))))) (sliceF sliceD (varF 4) (someF (op2 addD (varF 6) (cF (.int 2)))) (noF)))) (ifS (tand (tcmp eqD (varF 7) (cF (.int 1))) (tcmp gtD (varF 6) (cF (.int 0)))) (asgF 4 (op2 addL (op2 addL (sliceF sliceD (varF 4) (noF) (someF (varF 6))) (lstF (consA (op2 idxD (varF 4) (op2 modD (op2 idxD (varF 1) (op2 addD (cF (.int 3)) (op2 mulD (cF (.int 3)) (varF 5)))) (varF 6))) (nilA)))) (sliceF sliceD (varF 4) (someF (varF 6)) (noF)))) (ifS (tcmp eqD (varF 7) (cF (.int 2))) (asgF 4 (op2 addL (op2 addL (sliceF sliceD (varF 4) (noF) (someF (varF 6))) (lstF (consA (tupF (consA (op2 idxD (varF 2) (op2 modD (op2 idxD (varF 1) (op2 addD (cF (.int 3)) (op2 mulD (cF (.int 3)) (varF 5)))) (op1 lenD (varF 2)))) (consA (op2 mulD (op2 modD (op2 divD (op2 idxD (varF 1) (op2 addD (cF (.int 3)) (op2 mulD (cF (.int 3)) (varF 5)))) (cF (.int 4))) (cF (.int 5))) (varF 3)) (nilA)))) (nilA)))) (sliceF sliceD (varF 4) (someF (varF 6)) (noF)))) (ifS (tcmp eqD (varF 7) (cF (.int 3))) (asgF 4 (op2 addD (sliceF sliceD (varF 4) (noF) (someF (varF 6))) (sliceF sliceD (varF 4) (someF (op2 addD (varF 6) (cF (.int 1)))) (noF)))) (nilS))))))
def f_law_changed : En → Rs Fl := seqS (asgF 4 (op1 listD (varF 0))) (seqS (forR rg1 (.nm 5) (b_law_changed_0) (consA (op2 modD (op2 idxD (varF 1) (cF (.int 0))) (cF (.int 4))) (nilA))) (retF (varF 4)))
def m_law_changed : List D → Rs D := runF 8 false f_law_changed
theorem dn_law_changed {f : Addr} {fd : FuncData} (F : Fun K "_law_changed" "_law_changed" s_law_changed f fd) (hm : mg "_law_changed" = some (.ref f)) (B : Blt mg) : Dn P w K mg base 1 "_law_changed" 4 false m_law_changed := by
  refine dn_of F sc_law_changed rfl hm (F.binds fun _ _ _ _ _ _ us hl => match us, hl with | [_, _, _, _], _ => rfl) (fun cdv A outer s H E hr => ?_)
  have nd := sc_law_changed.nd
  have tk : Takes (cxOf (L2.CX P w) P w K mg base ["sent", "row", "names", "scale", "came", "k", "at", "kind"] "_law_changed" (defScope s_law_changed) f cdv A outer s H E) (fun cls d _ H => E cls d H) := takes_of rfl rfl rfl rfl
  have ps : PassesOwn (model P w) (A.deeper (envOfC "_law_changed" (defScope s_law_changed) s.heap.objs.size f cdv)) (envOfC "_law_changed" (defScope s_law_changed) s.heap.objs.size f cdv) (cxOf (L2.CX P w) P w K mg base ["sent", "row", "names", "scale", "came", "k", "at", "kind"] "_law_changed" (defScope s_law_changed) f cdv A outer s H E).xe := passes_of (X := cxOf (L2.CX P w) P w K mg base ["sent", "row", "names", "scale", "came", "k", "at", "kind"] "_law_changed" (defScope s_law_changed) f cdv A outer s H E) rfl
  exact (prb_cons (prs_asg (ps_set (i := 4) nd rfl (by first | exact .inl rfl | exact .inr rfl) (pr_fz (pr_ty1 call_list_of (op_listD (by decide)) (by rfl) B.n_list boot_list (pr_name (pv 0)))))) (prb_cons (prs_forR1 (t := .nm 5) ps rfl (by rfl) B.n_range (pra_cons (pr_mod (pr_idx (pr_name (pv 1)) (pr_c rfl pe_int)) (pr_c rfl pe_int)) pra_nil) (prg_nm (pg_name (i := 5) nd rfl (by first | exact .inl rfl | exact .inr rfl))) (prb_cons (prs_asg (ps_set (i := 6) nd rfl (by first | exact .inl rfl | exact .inr rfl) (pr_mod (pr_idx (pr_name (pv 1)) (pr_add (pr_c rfl pe_int) (pr_mul (pr_c rfl pe_int) (pr_name (pv 5))))) (pr_add (pr_b1 call_lenBoth op_lenD (by rfl) B.n_len PySem.boot_len (pr_name (pv 4))) (pr_c rfl pe_int))))) (prb_cons (prs_asg (ps_set (i := 7) nd rfl (by first | exact .inl rfl | exact .inr rfl) (pr_mod (pr_idx (pr_name (pv 1)) (pr_add (pr_c rfl pe_int) (pr_mul (pr_c rfl pe_int) (pr_name (pv 5))))) (pr_c rfl pe_int)))) (prb_one (prs_if (ptc_eq hr (pr_name (pv 7)) (pr_c rfl pe_int)) (prb_one (prs_asg (ps_set (i := 4) nd rfl (by first | exact .inl rfl | exact .inr rfl) (pr_fz (pr_addL (pr_addL (pr_slice (pr_name (pv 4)) pr_none (pr_some (pr_name (pv 6)))) (pr_revL (pr_slice (pr_name (pv 4)) (pr_some (pr_name (pv 6))) (pr_some (pr_add (pr_name (pv 6)) (pr_c rfl pe_int)))))) (pr_slice (pr_name (pv 4)) (pr_some (pr_add (pr_name (pv 6)) (pr_c rfl pe_int))) pr_none)))))) (prb_one (prs_if (prt_w (prw_and (ptc_eq hr (pr_name (pv 7)) (pr_c rfl pe_int)) (prw_and1 (ptc_gt (pr_name (pv 6)) (pr_c rfl pe_int))))) (prb_one (prs_asg (ps_set (i := 4) nd rfl (by first | exact .inl rfl | exact .inr rfl) (pr_fz (pr_addL (pr_addL (pr_slice (pr_name (pv 4)) pr_none (pr_some (pr_name (pv 6)))) (pr_lst (pra_cons (pr_idx (pr_name (pv 4)) (pr_mod (pr_idx (pr_name (pv 1)) (pr_add (pr_c rfl pe_int) (pr_mul (pr_c rfl pe_int) (pr_name (pv 5))))) (pr_name (pv 6)))) pra_nil))) (pr_slice (pr_name (pv 4)) (pr_some (pr_name (pv 6))) pr_none)))))) (prb_one (prs_if (ptc_eq hr (pr_name (pv 7)) (pr_c rfl pe_int)) (prb_one (prs_asg (ps_set (i := 4) nd rfl (by first | exact .inl rfl | exact .inr rfl) (pr_fz (pr_addL (pr_addL (pr_slice (pr_name (pv 4)) pr_none (pr_some (pr_name (pv 6)))) (pr_lst (pra_cons (pr_tup (pra_cons (pr_idx (pr_name (pv 2)) (pr_mod (pr_idx (pr_name (pv 1)) (pr_add (pr_c rfl pe_int) (pr_mul (pr_c rfl pe_int) (pr_name (pv 5))))) (pr_b1 call_lenBoth op_lenD (by rfl) B.n_len PySem.boot_len (pr_name (pv 2))))) (pra_cons (pr_mul (pr_mod (pr_div (pr_idx (pr_name (pv 1)) (pr_add (pr_c rfl pe_int) (pr_mul (pr_c rfl pe_int) (pr_name (pv 5))))) (pr_c rfl pe_int)) (pr_c rfl pe_int)) (pr_name (pv 3))) pra_nil))) pra_nil))) (pr_slice (pr_name (pv 4)) (pr_some (pr_name (pv 6))) pr_none)))))) (prb_one (prs_if (ptc_eq hr (pr_name (pv 7)) (pr_c rfl pe_int)) (prb_one (prs_asg (ps_set (i := 4) nd rfl (by first | exact .inl rfl | exact .inr rfl) (pr_add (pr_slice (pr_name (pv 4)) pr_none (pr_some (pr_name (pv 6)))) (pr_slice (pr_name (pv 4)) (pr_some (pr_add (pr_name (pv 6)) (pr_c rfl pe_int))) pr_none))))) prb_nil))))))))))) (prb_one (prs_ret (pr_name (pv 4))))))

/-! Promise -/
abbrev s_Promise_init : Stmt := inClass (topS 6) 0
theorem sc_Promise_init : FnScope ["self", "names", "items", "given", "entries", "item"] ["self", "names", "items"] (defScope s_Promise_init) := ⟨rfl, rfl, rfl, by decide +kernel, rfl, by decide +kernel, by decide +kernel⟩
def mk_Promise (ds : List D) : Rs (List (Str × D)) := if ds.length = 2 then (ifI (tnot (tstF (callF m_are_rows (consA (varF 2) (nilA))))) "InvalidPromise" (setI 3 (compF (.nm 5) [5] (yesF) (op1 tupleD (varF 5)) (varF 2)) (setI 4 (compF (.nm 5) [5] (tcmp inE (varF 5) (varF 3)) (varF 5) (callF m_all_items (consA (varF 1) (nilA)))) (ifI (tcmp neD (op1 lenD (varF 4)) (op1 lenD (varF 3))) "InvalidPromise" (fldI "names" (op1 tupleD (varF 1)) (fldI "entries" (op1 tupleD (varF 4)) (endI))))))) (argsI ds 5) [] else .bad
theorem mn_Promise {C f : Addr} {fd : FuncData} (F : Fun K "__init__" "Promise.__init__" s_Promise_init f fd) (M : Mk K C f) (hm : mg "Promise" = some (.ref C)) (cl : Cls K C) (nA : ∀ f ∈ (["names", "entries"] : List Str), NoAttr K C f) (B : Blt mg) (D_are_rows : Dn P w K mg base 1 "_are_rows" 1 false m_are_rows) (D_all_items : Dn P w K mg base 1 "all_items" 1 false m_all_items) (Ex_InvalidPromise : Exk K mg "InvalidPromise") : MnX P w K mg base 2 "Promise" 2 mk_Promise := by
  refine ⟨C, f, fd, ["self", "names", "items"], M, hm, F.binds fun _ _ _ _ _ _ us hl => match us, hl with | [_, _, _], _ => rfl, ?_⟩
  refine okG F sc_Promise_init (fun vs H Q E h => ?_) (fun cdv A outer s H vs Q E hr h => ?_)
  · obtain ⟨R, ds, x0, dx, rest, rfl, hl, _⟩ := h
    rw [List.length_cons, hl]
    rfl
  · obtain ⟨R, ds, x0, dx, rest, rfl, hl, hx, hR0, hR, hv, q0⟩ := h
    have hdl : ds.length = 2 := hv.len ▸ hl
    unfold mk_Promise at q0
    rw [if_pos hdl] at q0
    have nd := sc_Promise_init.nd
    have tk : Takes (cxOf (L2.CX P w) P w K mg base ["self", "names", "items", "given", "entries", "item"] "Promise.__init__" (defScope s_Promise_init) f cdv A outer s H E) (fun cls d _ H => E cls d H) := takes_of rfl rfl rfl rfl
    refine ⟨_, (pss_cons (psi_raise rfl tk Ex_InvalidPromise (by rfl) (prt_not (pt_v (pr_call D_are_rows (hr.mono (by decide)) (by rfl) tk (pra_cons (pr_name (pv 2)) pra_nil) (consA_len nilA_len))))) (pss_cons (psi_set (W := fun cls d _ H => E cls d H) (ps_set (i := 3) nd rfl (by first | exact .inl rfl | exact .inr rfl) (pr_fz (pr_comp (own := [("item", 5)]) (t := .nm 5) rfl nd (pr_name (pv 2)) (blkOk_by (N := ["self", "names", "items", "given", "entries", "item"]) (sc := (defScope s_Promise_init)) (own := [("item", 5)]) (by decide +kernel)) (fun _ _ _ _ _ => (prg_nm (pg_name (i := 5) nd rfl (by first | exact .inl rfl | exact .inr rfl)))) prtc_nil (fun _ _ _ _ _ => (pr_ty1 call_tupleG (op_tupleD (by decide)) (by rfl) B.n_tuple boot_tuple (pr_name (pv 5)))))))) (pss_cons (psi_comp (W := fun cls d _ H => E cls d H) (i := 4) (own := [("item", 5)]) (t := .nm 5) rfl nd rfl rfl (sw_true rfl rfl rfl (by decide +kernel)) (pr_call D_all_items (hr.mono (by decide)) (by rfl) tk (pra_cons (pr_name (pv 1)) pra_nil) (consA_len nilA_len)) (blkOk_by (N := ["self", "names", "items", "given", "entries", "item"]) (sc := (defScope s_Promise_init)) (own := [("item", 5)]) (by decide +kernel)) (fun _ _ _ _ _ => (prg_nm (pg_name (i := 5) nd rfl (by first | exact .inl rfl | exact .inr rfl)))) (prtc_one (fun _ _ _ _ _ => (ptc_inE hr (pr_name (pv 5)) (pr_name (pv 3))))) (fun _ _ _ _ _ => (pr_name (pv 5)))) (pss_cons (psi_raise rfl tk Ex_InvalidPromise (by rfl) (ptc_ne hr (pr_b1 call_lenBoth op_lenD (by rfl) B.n_len PySem.boot_len (pr_name (pv 4))) (pr_b1 call_lenBoth op_lenD (by rfl) B.n_len PySem.boot_len (pr_name (pv 3))))) (pss_cons (ps_fld (pv 0) (pr_ty1 (W := fun cls d _ H => E cls d H) call_tupleG (op_tupleD (by decide)) (by rfl) B.n_tuple boot_tuple (pr_name (pv 1))) rfl) (pss_one (ps_fld (pv 0) (pr_ty1 (W := fun cls d _ H => E cls d H) call_tupleG (op_tupleD (by decide)) (by rfl) B.n_tuple boot_tuple (pr_name (pv 4))) rfl))))))), ?_⟩
    have I0 : InitAt K mg R ⟨lessH H x0, x0⟩ C dx x0 (L2.start ["self", "names", "items", "given", "entries", "item"] (.ref x0 :: rest)) (argsI ds (rest.length + 3)) H [] := init_start3 (by rw [hl]; rfl) hx hR0 hR hv
    rw [hl] at I0
    have q0 : PostI K mg R C dx x0 Q E H ((ifI (tnot (tstF (callF m_are_rows (consA (varF 2) (nilA))))) "InvalidPromise" (setI 3 (compF (.nm 5) [5] (yesF) (op1 tupleD (varF 5)) (varF 2)) (setI 4 (compF (.nm 5) [5] (tcmp inE (varF 5) (varF 3)) (varF 5) (callF m_all_items (consA (varF 1) (nilA)))) (ifI (tcmp neD (op1 lenD (varF 4)) (op1 lenD (varF 3))) "InvalidPromise" (fldI "names" (op1 tupleD (varF 1)) (fldI "entries" (op1 tupleD (varF 4)) (endI))))))) (argsI ds 5) []) := q0
    refine init_ifr Ex_InvalidPromise I0 q0 fun H1 I1 q1 => ?_
    refine init_set (i := 3) (by decide) I1 q1 fun v1 H2 d1 _ I2 q2 => ?_
    refine init_set (i := 4) (by decide) I2 q2 fun v2 H3 d2 _ I3 q3 => ?_
    refine init_ifr Ex_InvalidPromise I3 q3 fun H4 I4 q4 => ?_
    refine init_fld I4 cl (nA "names" (by decide)) (by decide : 0 < 1000) q4 fun H5 d4 I5 q5 => ?_
    refine init_fld I5 cl (nA "entries" (by decide)) (putD_lt (by decide : 0 < 999)) q5 fun H6 d5 I6 q6 => ?_
    exact init_end (Dd := { nx := fun _ H' => Q .non H', rt := Q }) I6 q6

/-! law -/
abbrev s_law : Stmt := topS 28
theorem sc_law : FnScope ["script", "names", "row", "items", "promise", "scale", "messages", "first", "cell", "second", "part", "sent", "came", "given", "item", "number", "said", "name", "message"] ["script"] (defScope s_law) := ⟨rfl, rfl, rfl, by decide +kernel, rfl, by decide +kernel, by decide +kernel⟩
def b_law_0 : En → Rs Fl := seqS (asgF 16 (callF m_keeps (consA (varF 4) (consA (varF 7) (consA (varF 9) (nilA)))))) (seqS (ifS (tor (tnot (tstF (op1 (isiD "bool") (varF 16)))) (tcmp neD (varF 16) (callF m_law_keeps (consA (varF 3) (consA (varF 7) (consA (varF 9) (nilA))))))) (retF (cF (.bl false))) (nilS)) (ifS (tor (tcmp neD (callF m_keeps (consA (varF 4) (consA (varF 9) (consA (varF 7) (nilA))))) (varF 16)) (tcmp neD (callF m_keeps (consA (varF 4) (consA (op1 listD (varF 7)) (consA (op1 listD (varF 9)) (nilA))))) (varF 16))) (retF (cF (.bl false))) (nilS)))
def b_law_1 : En → Rs Fl := forF (.nm 9) (b_law_0) (varF 6)
def b_law_2 : En → Rs Fl := seqS (asgF 16 (callF m_shows_harm (consA (varF 14) (consA (op2 idxD (varF 13) (cF (.int 0))) (consA (op2 idxD (varF 13) (cF (.int 1))) (nilA)))))) (seqS (ifS (tor (tnot (tstF (op1 (isiD "bool") (varF 16)))) (tor (tcmp neD (varF 16) (callF m_law_shows (consA (varF 14) (consA (varF 11) (consA (varF 12) (nilA)))))) (tcmp neD (varF 13) (lstF (consA (varF 11) (consA (varF 12) (nilA))))))) (retF (cF (.bl false))) (nilS)) (ifS (tcmp neD (callF m_shows_harm (consA (op1 listD (varF 14)) (consA (compF (.nm 18) [18] (yesF) (op1 listD (varF 18)) (varF 11)) (consA (op1 tupleD (varF 12)) (nilA))))) (varF 16)) (retF (cF (.bl false))) (nilS)))
def b_law_3 : En → Rs Fl := seqS (asgF 10 (callF m_law_row (consA (varF 8) (consA (cF (.int 28)) (nilA))))) (seqS (asgF 11 (compF (.nm 15) [15] (yesF) (tupF (consA (op2 idxD (varF 1) (op2 modD (varF 15) (op1 lenD (varF 1)))) (consA (op2 mulD (op2 modD (op2 divD (varF 15) (cF (.int 4))) (cF (.int 4))) (varF 5)) (nilA)))) (sliceF sliceD (varF 10) (someF (cF (.int 16))) (someF (op2 addD (cF (.int 16)) (op2 modD (op2 idxD (varF 10) (cF (.int 12))) (cF (.int 12)))))))) (seqS (asgF 12 (callF m_law_changed (consA (varF 11) (consA (varF 10) (consA (varF 1) (consA (varF 5) (nilA))))))) (seqS (asgF 13 (lstF (consA (op1 listD (varF 11)) (consA (op1 listD (varF 12)) (nilA))))) (forF (.nm 14) (b_law_2) (callF m_law_items (consA (varF 1) (nilA)))))))
def f_law : En → Rs Fl := seqS (asgF 1 (callF m_law_names (consA (callF m_law_row (consA (callF m_law_cell (consA (varF 0) (consA (cF (.int 0)) (nilA)))) (consA (cF (.int 4)) (nilA)))) (nilA)))) (seqS (asgF 2 (callF m_law_row (consA (callF m_law_cell (consA (varF 0) (consA (cF (.int 1)) (nilA)))) (consA (cF (.int 40)) (nilA))))) (seqS (asgF 3 (callF m_law_some_items (consA (varF 1) (consA (sliceF sliceD (varF 2) (noF) (someF (cF (.int 20)))) (nilA))))) (seqS (asgF 4 (makeX "Promise" mk_Promise (consA (varF 1) (consA (varF 3) (nilA))))) (seqS (asgF 5 (op2 idxD (lstF (consA (cF (.int 1)) (consA (cF (.int 1)) (consA (cF (.int 250000)) (consA (cF (.int 1001)) (nilA)))))) (op2 modD (op2 idxD (varF 2) (cF (.int 33))) (cF (.int 4))))) (seqS (asgF 6 (compF (.nm 15) [15] (yesF) (tupF (consA (op2 idxD (varF 1) (op2 modD (varF 15) (op1 lenD (varF 1)))) (consA (op2 addD (op2 mulD (op2 subD (op2 modD (op2 divD (varF 15) (cF (.int 4))) (cF (.int 9))) (cF (.int 4))) (varF 5)) (op2 mulD (op2 modD (op2 idxD (varF 2) (cF (.int 34))) (cF (.int 9))) (op1 toIntD (op2 gtD (varF 5) (cF (.int 1)))))) (nilA)))) (sliceF sliceD (varF 2) (someF (cF (.int 20))) (someF (cF (.int 32)))))) (seqS (asgF 6 (compF (.tp [.nm 17, .nm 15]) [17, 15] (yesF) (tupF (consA (varF 17) (consA (op2 max2D (op1 negD (cF (.int 1000000))) (op2 min2D (varF 15) (cF (.int 1000000)))) (nilA)))) (varF 6))) (seqS (forF (.nm 7) (b_law_1) (sliceF sliceD (varF 6) (noF) (someF (cF (.int 6))))) (seqS (forF (.nm 8) (b_law_3) (op2 addL (lstF (consA (callF m_law_cell (consA (varF 0) (consA (cF (.int 2)) (nilA)))) (consA (callF m_law_cell (consA (varF 0) (consA (cF (.int 3)) (nilA)))) (nilA)))) (sliceF sliceD (varF 0) (someF (cF (.int 4))) (someF (cF (.int 8)))))) (retF (cF (.bl true)))))))))))
def m_law : List D → Rs D := runF 19 false f_law
theorem fn_law {f : Addr} {fd : FuncData} (F : Fun K "law" "law" s_law f fd) (B : Blt mg) (D_law_cell : Dn P w K mg base 1 "_law_cell" 2 false m_law_cell) (D_law_changed : Dn P w K mg base 1 "_law_changed" 4 false m_law_changed) (D_law_items : Dn P w K mg base 1 "_law_items" 1 false m_law_items) (D_law_keeps : Dn P w K mg base 3 "_law_keeps" 3 false m_law_keeps) (D_law_names : Dn P w K mg base 3 "_law_names" 1 false m_law_names) (D_law_row : Dn P w K mg base 1 "_law_row" 2 false m_law_row) (D_law_shows : Dn P w K mg base 3 "_law_shows" 3 false m_law_shows) (D_law_some_items : Dn P w K mg base 2 "_law_some_items" 2 false m_law_some_items) (D_keeps : Dn P w K mg base 3 "keeps" 3 false m_keeps) (D_shows_harm : Dn P w K mg base 4 "shows_harm" 3 false m_shows_harm) (M_Promise : MnX P w K mg base 2 "Promise" 2 mk_Promise) : FnG P w K mg base 5 f fd ["script"] (spD K mg 1 false m_law) := by
  refine ok_def F sc_law rfl (fun cdv A outer s H E hr => ?_)
  have nd := sc_law.nd
  have tk : Takes (cxOf (L2.CX P w) P w K mg base ["script", "names", "row", "items", "promise", "scale", "messages", "first", "cell", "second", "part", "sent", "came", "given", "item", "number", "said", "name", "message"] "law" (defScope s_law) f cdv A outer s H E) (fun cls d _ H => E cls d H) := takes_of rfl rfl rfl rfl
  have ps : PassesOwn (model P w) (A.deeper (envOfC "law" (defScope s_law) s.heap.objs.size f cdv)) (envOfC "law" (defScope s_law) s.heap.objs.size f cdv) (cxOf (L2.CX P w) P w K mg base ["script", "names", "row", "items", "promise", "scale", "messages", "first", "cell", "second", "part", "sent", "came", "given", "item", "number", "said", "name", "message"] "law" (defScope s_law) f cdv A outer s H E).xe := passes_of (X := cxOf (L2.CX P w) P w K mg base ["script", "names", "row", "items", "promise", "scale", "messages", "first", "cell", "second", "part", "sent", "came", "given", "item", "number", "said", "name", "message"] "law" (defScope s_law) f cdv A outer s H E) rfl
  exact (prb_cons (prs_asg (ps_set (i := 1) nd rfl (by first | exact .inl rfl | exact .inr rfl) (pr_call D_law_names (hr.mono (by decide)) (by rfl) tk (pra_cons (pr_call D_law_row (hr.mono (by decide)) (by rfl) tk (pra_cons (pr_call D_law_cell (hr.mono (by decide)) (by rfl) tk (pra_cons (pr_name (pv 0)) (pra_cons (pr_c rfl pe_int) pra_nil)) (consA_len (consA_len nilA_len))) (pra_cons (pr_c rfl pe_int) pra_nil)) (consA_len (consA_len nilA_len))) pra_nil) (consA_len nilA_len)))) (prb_cons (prs_asg (ps_set (i := 2) nd rfl (by first | exact .inl rfl | exact .inr rfl) (pr_call D_law_row (hr.mono (by decide)) (by rfl) tk (pra_cons (pr_call D_law_cell (hr.mono (by decide)) (by rfl) tk (pra_cons (pr_name (pv 0)) (pra_cons (pr_c rfl pe_int) pra_nil)) (consA_len (consA_len nilA_len))) (pra_cons (pr_c rfl pe_int) pra_nil)) (consA_len (consA_len nilA_len))))) (prb_cons (prs_asg (ps_set (i := 3) nd rfl (by first | exact .inl rfl | exact .inr rfl) (pr_call D_law_some_items (hr.mono (by decide)) (by rfl) tk (pra_cons (pr_name (pv 1)) (pra_cons (pr_slice (pr_name (pv 2)) pr_none (pr_some (pr_c rfl pe_int))) pra_nil)) (consA_len (consA_len nilA_len))))) (prb_cons (prs_asg (ps_set (i := 4) nd rfl (by first | exact .inl rfl | exact .inr rfl) (pr_makeX M_Promise (hr.mono (by decide)) (by rfl) tk (pra_cons (pr_name (pv 1)) (pra_cons (pr_name (pv 3)) pra_nil)) (consA_len (consA_len nilA_len))))) (prb_cons (prs_asg (ps_set (i := 5) nd rfl (by first | exact .inl rfl | exact .inr rfl) (pr_idx (pr_lst (pra_cons (pr_c rfl pe_int) (pra_cons (pr_c rfl pe_int) (pra_cons (pr_c rfl pe_int) (pra_cons (pr_c rfl pe_int) pra_nil))))) (pr_mod (pr_idx (pr_name (pv 2)) (pr_c rfl pe_int)) (pr_c rfl pe_int))))) (prb_cons (prs_setComp (i := 6) (own := [("number", 15)]) (t := .nm 15) rfl nd rfl rfl (sw_true rfl rfl rfl (by decide +kernel)) (pr_slice (pr_name (pv 2)) (pr_some (pr_c rfl pe_int)) (pr_some (pr_c rfl pe_int))) (blkOk_by (N := ["script", "names", "row", "items", "promise", "scale", "messages", "first", "cell", "second", "part", "sent", "came", "given", "item", "number", "said", "name", "message"]) (sc := (defScope s_law)) (own := [("number", 15)]) (by decide +kernel)) (fun _ _ _ _ _ => (prg_nm (pg_name (i := 15) nd rfl (by first | exact .inl rfl | exact .inr rfl)))) prtc_nil (fun _ _ _ _ _ => (pr_tup (pra_cons (pr_idx (pr_name (pv 1)) (pr_mod (pr_name (pv 15)) (pr_b1 call_lenBoth op_lenD (by rfl) B.n_len PySem.boot_len (pr_name (pv 1))))) (pra_cons (pr_add (pr_mul (pr_sub (pr_mod (pr_div (pr_name (pv 15)) (pr_c rfl pe_int)) (pr_c rfl pe_int)) (pr_c rfl pe_int)) (pr_name (pv 5))) (pr_mul (pr_mod (pr_idx (pr_name (pv 2)) (pr_c rfl pe_int)) (pr_c rfl pe_int)) (pr_ty1 call_int1 op_toIntD (by rfl) B.n_int boot_int (pr_gt (pr_name (pv 5)) (pr_c rfl pe_int))))) pra_nil))))) (prb_cons (prs_setComp (i := 6) (own := [("name", 17), ("number", 15)]) (t := .tp [.nm 17, .nm 15]) rfl nd rfl rfl (sw_true rfl rfl rfl (by decide +kernel)) (pr_name (pv 6)) (blkOk_by (N := ["script", "names", "row", "items", "promise", "scale", "messages", "first", "cell", "second", "part", "sent", "came", "given", "item", "number", "said", "name", "message"]) (sc := (defScope s_law)) (own := [("name", 17), ("number", 15)]) (by decide +kernel)) (fun _ _ _ _ _ => (prg_tp rfl (prgs_cons (prg_nm (pg_name (i := 17) nd rfl (by first | exact .inl rfl | exact .inr rfl))) (prgs_cons (prg_nm (pg_name (i := 15) nd rfl (by first | exact .inl rfl | exact .inr rfl))) prgs_nil)))) prtc_nil (fun _ _ _ _ _ => (pr_tup (pra_cons (pr_name (pv 17)) (pra_cons (pr_b2 (call_max2 rfl) op_two (by rfl) B.n_max (by decide +kernel) (pr_neg (pr_c rfl pe_int)) (pr_b2 (call_min2 rfl) op_two (by rfl) B.n_min (by decide +kernel) (pr_name (pv 15)) (pr_c rfl pe_int))) pra_nil))))) (prb_cons (prs_for (t := .nm 7) ps rfl (pr_slice (pr_name (pv 6)) pr_none (pr_some (pr_c rfl pe_int))) (prg_nm (pg_name (i := 7) nd rfl (by first | exact .inl rfl | exact .inr rfl))) (prb_one (prs_for (t := .nm 9) ps rfl (pr_name (pv 6)) (prg_nm (pg_name (i := 9) nd rfl (by first | exact .inl rfl | exact .inr rfl))) (prb_cons (prs_asg (ps_set (i := 16) nd rfl (by first | exact .inl rfl | exact .inr rfl) (pr_call D_keeps (hr.mono (by decide)) (by rfl) tk (pra_cons (pr_name (pv 4)) (pra_cons (pr_name (pv 7)) (pra_cons (pr_name (pv 9)) pra_nil))) (consA_len (consA_len (consA_len nilA_len)))))) (prb_cons (prs_if (prt_w (prw_or (prt_not (pt_v (pr_isi (n := "bool") (by rfl) B.n_isinstance boot_isinstance (by rfl) B.n_bool boot_bool (pr_name (pv 16))))) (prw_or1 (ptc_ne hr (pr_name (pv 16)) (pr_call D_law_keeps (hr.mono (by decide)) (by rfl) tk (pra_cons (pr_name (pv 3)) (pra_cons (pr_name (pv 7)) (pra_cons (pr_name (pv 9)) pra_nil))) (consA_len (consA_len (consA_len nilA_len)))))))) (prb_one (prs_ret (pr_c rfl pe_bl))) prb_nil) (prb_one (prs_if (prt_w (prw_or (ptc_ne hr (pr_call D_keeps (hr.mono (by decide)) (by rfl) tk (pra_cons (pr_name (pv 4)) (pra_cons (pr_name (pv 9)) (pra_cons (pr_name (pv 7)) pra_nil))) (consA_len (consA_len (consA_len nilA_len)))) (pr_name (pv 16))) (prw_or1 (ptc_ne hr (pr_call D_keeps (hr.mono (by decide)) (by rfl) tk (pra_cons (pr_name (pv 4)) (pra_cons (pr_fz (pr_ty1 call_list_of (op_listD (by decide)) (by rfl) B.n_list boot_list (pr_name (pv 7)))) (pra_cons (pr_fz (pr_ty1 call_list_of (op_listD (by decide)) (by rfl) B.n_list boot_list (pr_name (pv 9)))) pra_nil))) (consA_len (consA_len (consA_len nilA_len)))) (pr_name (pv 16)))))) (prb_one (prs_ret (pr_c rfl pe_bl))) prb_nil))))))) (prb_cons (prs_for (t := .nm 8) ps rfl (pr_fz (pr_addL (pr_lst (pra_cons (pr_call D_law_cell (hr.mono (by decide)) (by rfl) tk (pra_cons (pr_name (pv 0)) (pra_cons (pr_c rfl pe_int) pra_nil)) (consA_len (consA_len nilA_len))) (pra_cons (pr_call D_law_cell (hr.mono (by decide)) (by rfl) tk (pra_cons (pr_name (pv 0)) (pra_cons (pr_c rfl pe_int) pra_nil)) (consA_len (consA_len nilA_len))) pra_nil))) (pr_slice (pr_name (pv 0)) (pr_some (pr_c rfl pe_int)) (pr_some (pr_c rfl pe_int))))) (prg_nm (pg_name (i := 8) nd rfl (by first | exact .inl rfl | exact .inr rfl))) (prb_cons (prs_asg (ps_set (i := 10) nd rfl (by first | exact .inl rfl | exact .inr rfl) (pr_call D_law_row (hr.mono (by decide)) (by rfl) tk (pra_cons (pr_name (pv 8)) (pra_cons (pr_c rfl pe_int) pra_nil)) (consA_len (consA_len nilA_len))))) (prb_cons (prs_setComp (i := 11) (own := [("number", 15)]) (t := .nm 15) rfl nd rfl rfl (sw_true rfl rfl rfl (by decide +kernel)) (pr_slice (pr_name (pv 10)) (pr_some (pr_c rfl pe_int)) (pr_some (pr_add (pr_c rfl pe_int) (pr_mod (pr_idx (pr_name (pv 10)) (pr_c rfl pe_int)) (pr_c rfl pe_int))))) (blkOk_by (N := ["script", "names", "row", "items", "promise", "scale", "messages", "first", "cell", "second", "part", "sent", "came", "given", "item", "number", "said", "name", "message"]) (sc := (defScope s_law)) (own := [("number", 15)]) (by decide +kernel)) (fun _ _ _ _ _ => (prg_nm (pg_name (i := 15) nd rfl (by first | exact .inl rfl | exact .inr rfl)))) prtc_nil (fun _ _ _ _ _ => (pr_tup (pra_cons (pr_idx (pr_name (pv 1)) (pr_mod (pr_name (pv 15)) (pr_b1 call_lenBoth op_lenD (by rfl) B.n_len PySem.boot_len (pr_name (pv 1))))) (pra_cons (pr_mul (pr_mod (pr_div (pr_name (pv 15)) (pr_c rfl pe_int)) (pr_c rfl pe_int)) (pr_name (pv 5))) pra_nil))))) (prb_cons (prs_asg (ps_set (i := 12) nd rfl (by first | exact .inl rfl | exact .inr rfl) (pr_call D_law_changed (hr.mono (by decide)) (by rfl) tk (pra_cons (pr_name (pv 11)) (pra_cons (pr_name (pv 10)) (pra_cons (pr_name (pv 1)) (pra_cons (pr_name (pv 5)) pra_nil)))) (consA_len (consA_len (consA_len (consA_len nilA_len))))))) (prb_cons (prs_asg (ps_set (i := 13) nd rfl (by first | exact .inl rfl | exact .inr rfl) (pr_fz (pr_lst (pra_cons (pr_fz (pr_ty1 call_list_of (op_listD (by decide)) (by rfl) B.n_list boot_list (pr_name (pv 11)))) (pra_cons (pr_fz (pr_ty1 call_list_of (op_listD (by decide)) (by rfl) B.n_list boot_list (pr_name (pv 12)))) pra_nil)))))) (prb_one (prs_for (t := .nm 14) ps rfl (pr_call D_law_items (hr.mono (by decide)) (by rfl) tk (pra_cons (pr_name (pv 1)) pra_nil) (consA_len nilA_len)) (prg_nm (pg_name (i := 14) nd rfl (by first | exact .inl rfl | exact .inr rfl))) (prb_cons (prs_asg (ps_set (i := 16) nd rfl (by first | exact .inl rfl | exact .inr rfl) (pr_call D_shows_harm (hr.mono (by decide)) (by rfl) tk (pra_cons (pr_name (pv 14)) (pra_cons (pr_idx (pr_name (pv 13)) (pr_c rfl pe_int)) (pra_cons (pr_idx (pr_name (pv 13)) (pr_c rfl pe_int)) pra_nil))) (consA_len (consA_len (consA_len nilA_len)))))) (prb_cons (prs_if (prt_w (prw_or (prt_not (pt_v (pr_isi (n := "bool") (by rfl) B.n_isinstance boot_isinstance (by rfl) B.n_bool boot_bool (pr_name (pv 16))))) (prw_or (ptc_ne hr (pr_name (pv 16)) (pr_call D_law_shows (hr.mono (by decide)) (by rfl) tk (pra_cons (pr_name (pv 14)) (pra_cons (pr_name (pv 11)) (pra_cons (pr_name (pv 12)) pra_nil))) (consA_len (consA_len (consA_len nilA_len))))) (prw_or1 (ptc_ne hr (pr_name (pv 13)) (pr_lst (pra_cons (pr_name (pv 11)) (pra_cons (pr_name (pv 12)) pra_nil)))))))) (prb_one (prs_ret (pr_c rfl pe_bl))) prb_nil) (prb_one (prs_if (ptc_ne hr (pr_call D_shows_harm (hr.mono (by decide)) (by rfl) tk (pra_cons (pr_fz (pr_ty1 call_list_of (op_listD (by decide)) (by rfl) B.n_list boot_list (pr_name (pv 14)))) (pra_cons (pr_fz (pr_comp (own := [("message", 18)]) (t := .nm 18) rfl nd (pr_name (pv 11)) (blkOk_by (N := ["script", "names", "row", "items", "promise", "scale", "messages", "first", "cell", "second", "part", "sent", "came", "given", "item", "number", "said", "name", "message"]) (sc := (defScope s_law)) (own := [("message", 18)]) (by decide +kernel)) (fun _ _ _ _ _ => (prg_nm (pg_name (i := 18) nd rfl (by first | exact .inl rfl | exact .inr rfl)))) prtc_nil (fun _ _ _ _ _ => (pr_fz (pr_ty1 call_list_of (op_listD (by decide)) (by rfl) B.n_list boot_list (pr_name (pv 18))))))) (pra_cons (pr_ty1 call_tupleG (op_tupleD (by decide)) (by rfl) B.n_tuple boot_tuple (pr_name (pv 12))) pra_nil))) (consA_len (consA_len (consA_len nilA_len)))) (pr_name (pv 16))) (prb_one (prs_ret (pr_c rfl pe_bl))) prb_nil))))))))))) (prb_one (prs_ret (pr_c rfl pe_bl))))))))))))

end
end
end Orn

set_option linter.all false
set_option maxRecDepth 100000
set_option maxHeartbeats 1000000
namespace Orn
open L2 PySem PySem.Spec PyProof.Rows
/-! ### the mirrors' words, computed -/
theorem atI_nat {α : Type} (xs : List α) (k : Nat) : atI xs (k : Int) = xs[k]? := by
  unfold atI ixN
  rw [if_pos (Int.natCast_nonneg k)]
  by_cases h : k < xs.length
  · rw [if_pos (by omega)]
    rfl
  · rw [if_neg (by omega), List.getElem?_eq_none (by omega)]
    rfl
theorem atI_pos {α : Type} (xs : List α) (i : Int) (h : 0 ≤ i) : atI xs i = xs[i.toNat]? := by
  have e := atI_nat xs i.toNat
  rwa [Int.toNat_of_nonneg h] at e
theorem fmodP (i j : Int) (h : 0 < j) : i.fmod j = i % j := Int.fmod_eq_emod_of_nonneg i (Int.le_of_lt h)
theorem fdivP (i j : Int) (h : 0 < j) : i.fdiv j = i / j := Int.fdiv_eq_ediv_of_nonneg i (Int.le_of_lt h)
section
variable {fa fb : En → Rs D} {env : En} {a b d : D} {i j : Int}
theorem op2_ok {g : D → D → Rs D} (ha : fa env = .ok a) (hb : fb env = .ok b) : op2 g fa fb env = g a b := by unfold op2; rw [ha, Rs.bind_ok, hb, Rs.bind_ok]
theorem op1_ok {g : D → Rs D} (ha : fa env = .ok a) : op1 g fa env = g a := by unfold op1; rw [ha, Rs.bind_ok]
theorem withE_ok {k : D → En → Rs Fl} (ha : fa env = .ok a) : withE fa k env = k a env := by unfold withE; rw [ha]
end
@[simp] theorem add_ii (i j : Int) : addD (.int i) (.int j) = .ok (.int (i + j)) := rfl
@[simp] theorem sub_ii (i j : Int) : subD (.int i) (.int j) = .ok (.int (i - j)) := rfl
@[simp] theorem lt_ii (i j : Int) : ltD (.int i) (.int j) = .ok (.bl (decide (i < j))) := rfl
@[simp] theorem le_ii (i j : Int) : leD (.int i) (.int j) = .ok (.bl (decide (i ≤ j))) := rfl
@[simp] theorem gt_ii (i j : Int) : gtD (.int i) (.int j) = .ok (.bl (decide (j < i))) := rfl
@[simp] theorem ge_ii (i j : Int) : geD (.int i) (.int j) = .ok (.bl (decide (j ≤ i))) := rfl
@[simp] theorem eq_ii (i j : Int) : eqD (.int i) (.int j) = .ok (.bl (decide (i = j))) := by
  simp [eqD, Orn.flat, scal]
@[simp] theorem eq_ss (i j : Str) : eqD (.str i) (.str j) = .ok (.bl (decide (i = j))) := by
  simp [eqD, Orn.flat, scal]
theorem mod_ii (i j : Int) (h : 0 < j) : modD (.int i) (.int j) = .ok (.int (i % j)) := by
  unfold modD intDc
  dsimp only
  rw [if_pos (by omega), fmodP i j h]
theorem div_ii (i j : Int) (h : 0 < j) (h2 : j < 1073741824) : divD (.int i) (.int j) = .ok (.int (i / j)) := by
  unfold divD intDc
  dsimp only
  rw [if_pos (show CDivN i j from ⟨by omega, by omega⟩), fdivP i j h]
theorem mul_ii (i j : Int) (h : CMul i j) : mulD (.int i) (.int j) = .ok (.int (i * j)) := by
  unfold mulD intDc
  dsimp only
  rw [if_pos h]
theorem mul_l (i j : Int) (h : -(2 ^ 64) < i) (h2 : i < 2 ^ 64) : mulD (.int i) (.int j) = .ok (.int (i * j)) := mul_ii i j (.inl ⟨h, h2⟩)
theorem mul_r (i j : Int) (h : -(2 ^ 64) < j) (h2 : j < 2 ^ 64) : mulD (.int i) (.int j) = .ok (.int (i * j)) := mul_ii i j (.inr ⟨h, h2⟩)
theorem nil_ok (env : En) : lstF nilA env = .ok (.lst []) := by
  unfold lstF nilA
  rw [Rs.bind_ok, if_pos (show List.length [] ≤ SL from Nat.zero_le _)]
/-! ### loops -/
theorem loop_inv {t : D → En → Rs En} {g : En → Rs Fl} (I : Nat → En → Prop) : ∀ (xs : List D) (n : Nat) (env : En), I n env →
    (∀ i x e, xs[i]? = some x → I (n + i) e → ∃ e1 e2, t x e = .ok e1 ∧ g e1 = .ok (.next e2) ∧ I (n + i + 1) e2) → ∃ e', loopF t g xs env = .ok (.next e') ∧ I (n + xs.length) e'
  | [], n, env, h0, _ => ⟨env, rfl, h0⟩
  | x :: xs, n, env, h0, st => by
    obtain ⟨e1, e2, h1, h2, h3⟩ := st 0 x env rfl h0
    obtain ⟨e', h4, h5⟩ := loop_inv I xs (n + 1) e2 h3 fun i y e hy hi => by
      have := st (i + 1) y e (by simpa using hy)
      rw [show n + (i + 1) = n + 1 + i by omega] at this
      exact this hi
    refine ⟨e', ?_, ?_⟩
    · unfold loopF
      rw [h1]
      dsimp only
      unfold seqS
      rw [h2, Rs.bind_ok]
      exact h4
    · rw [List.length_cons, show n + (xs.length + 1) = n + 1 + xs.length by omega]
      exact h5
theorem loop_inv0 {t : D → En → Rs En} {g : En → Rs Fl} (I : Nat → En → Prop) (xs : List D) (env : En) (h0 : I 0 env)
    (st : ∀ i x e, xs[i]? = some x → I i e → ∃ e1 e2, t x e = .ok e1 ∧ g e1 = .ok (.next e2) ∧ I (i + 1) e2) : ∃ e', loopF t g xs env = .ok (.next e') ∧ I xs.length e' := by
  obtain ⟨e', h1, h2⟩ := loop_inv (t := t) (g := g) I xs 0 env h0 fun i x e hx hi => by
    rw [Nat.zero_add] at hi ⊢
    exact st i x e hx hi
  rw [Nat.zero_add] at h2
  exact ⟨e', h1, h2⟩
theorem range_inv {t : D → En → Rs En} {g : En → Rs Fl} (I : Nat → En → Prop) (n : Nat) (env : En) (h0 : I 0 env)
    (st : ∀ i e, i < n → I i e → ∃ e1 e2, t (.int i) e = .ok e1 ∧ g e1 = .ok (.next e2) ∧ I (i + 1) e2) : ∃ e', loopF t g (rangeL 0 n) env = .ok (.next e') ∧ I n e' := by
  obtain ⟨e', h1, h2⟩ := loop_inv0 (t := t) (g := g) I (rangeL 0 n) env h0 fun i x e hx hi => by
    have hl : i < n := by
      obtain ⟨h, _⟩ := List.getElem?_eq_some_iff.mp hx
      rwa [rangeL_len] at h
    rw [rangeL_at hl] at hx
    have hx := (Option.some.inj hx).symm
    rw [Int.zero_add] at hx
    subst hx
    exact st i e hl hi
  rw [rangeL_len] at h2
  exact ⟨e', h1, h2⟩
theorem seqS_ok {g1 g2 : En → Rs Fl} {env e1 : En} (h : g1 env = .ok (.next e1)) : seqS g1 g2 env = g2 e1 := by unfold seqS; rw [h, Rs.bind_ok]
theorem seqS_ret {g1 g2 : En → Rs Fl} {env : En} {d : D} (h : g1 env = .ok (.ret d)) : seqS g1 g2 env = .ok (.ret d) := by unfold seqS; rw [h, Rs.bind_ok]
theorem runF_ret {N : Nat} {nw : Bool} {g : En → Rs Fl} {ds : List D} {d : D} (h : g (args0 ds N) = .ok (.ret d)) : runF N nw g ds = .ok d := by
  unfold runF
  rw [h]
theorem forR_ok {rg : List D → Rs (List D)} {t : Tg} {g : En → Rs Fl} {fs : En → Rs (List D)} {env : En} {ds xs : List D} (h : fs env = .ok ds) (h2 : rg ds = .ok xs) : forR rg t g fs env = loopF t.put g xs env := by
  unfold forR withA
  rw [h]
  dsimp only
  rw [h2]
theorem forF_ok {t : Tg} {g : En → Rs Fl} {fa : En → Rs D} {env : En} {d : D} {xs : List D} (h : fa env = .ok d) (h2 : itemsD d = some xs) : forF t g fa env = loopF t.put g xs env := by
  unfold forF withE
  rw [h]
  dsimp only
  rw [h2]
theorem rg1_ok {n : Nat} (h : n ≤ 1000000) : rg1 [.int n] = .ok (rangeL 0 n) := by
  unfold rg1
  dsimp only
  rw [if_pos (by omega)]
  rfl
theorem rg1_int {i : Int} (h0 : i ≤ 1000000) (h1 : -1000000 ≤ i) : rg1 [.int i] = .ok (rangeL 0 i.toNat) := by
  unfold rg1
  dsimp only
  rw [if_pos (by omega)]
/-! ### comprehensions -/
theorem comp_map {α : Type} {t : Tg} {tt : En → Rs Bool} {fe : En → Rs D} {env : En} (e : α → D) (p : α → Bool) (f : α → D) : ∀ (l : List α)
    (h : ∀ x ∈ l, ∃ e1, t.put (e x) env = .ok e1 ∧ tt e1 = .ok (p x) ∧ (p x = true → fe e1 = .ok (f x))), compL t tt fe env (l.map e) = .ok ((l.filter p).map f)
  | [], _ => rfl
  | x :: l, h => by
    obtain ⟨e1, h1, h2, h3⟩ := h x List.mem_cons_self
    have ih := comp_map e p f l fun y hy => h y (List.mem_cons_of_mem _ hy)
    rw [List.map_cons]
    unfold compL
    rw [h1]
    dsimp only
    rw [h2]
    by_cases hp : p x = true
    · rw [hp]
      dsimp only
      rw [h3 hp]
      dsimp only
      rw [ih, Rs.bind_ok, List.filter_cons_of_pos hp, List.map_cons]
    · rw [Bool.not_eq_true] at hp
      rw [hp]
      dsimp only
      rw [ih, List.filter_cons_of_neg (by rw [hp]; intro z; cases z)]
theorem comp_yes {α : Type} {t : Tg} {fe : En → Rs D} {env : En} (e : α → D) (f : α → D) (l : List α)
    (h : ∀ x ∈ l, ∃ e1, t.put (e x) env = .ok e1 ∧ fe e1 = .ok (f x)) : compL t yesF fe env (l.map e) = .ok (l.map f) := by
  have q := comp_map (t := t) (tt := yesF) (fe := fe) (env := env) e (fun _ => true) f l fun x hx => by
    obtain ⟨e1, h1, h2⟩ := h x hx
    exact ⟨e1, h1, rfl, fun _ => h2⟩
  rw [q]
  congr 2
  exact List.filter_eq_self.mpr fun _ _ => rfl
theorem compF_ok {t : Tg} {vs : List Nat} {tt : En → Rs Bool} {fe fa : En → Rs D} {env : En} {d : D} {xs ys : List D} (h : fa env = .ok d) (h2 : itemsD d = some xs) (hn : noL env vs = true) (hl : xs.length ≤ SL)
    (h3 : compL t tt fe (wipeE env vs) xs = .ok ys) : compF t vs tt fe fa env = .ok (.lst ys) := by
  unfold compF compB
  rw [h, Rs.bind_ok, h2]
  dsimp only
  rw [if_pos ⟨hn, hl⟩, h3, Rs.bind_ok]
theorem compR_ok {rg : List D → Rs (List D)} {t : Tg} {vs : List Nat} {tt : En → Rs Bool} {fe : En → Rs D} {fs : En → Rs (List D)} {env : En} {ds xs ys : List D} (h : fs env = .ok ds) (h2 : rg ds = .ok xs) (hn : noL env vs = true) (hl : xs.length ≤ SL)
    (h3 : compL t tt fe (wipeE env vs) xs = .ok ys) : compR rg t vs tt fe fs env = .ok (.lst ys) := by
  unfold compR compB
  rw [h, Rs.bind_ok, h2]
  dsimp only
  rw [if_pos ⟨hn, hl⟩, h3, Rs.bind_ok]
/-! ### the law's draws -/
theorem law_cell_eq (ns : List Int) (k : Nat) : m_law_cell [.rol (ns.map D.int), .int k] = .ok (.int (ns.getD k 0)) := by
  unfold m_law_cell f_law_cell runF args0
  by_cases h : k < ns.length
  · simp [seqS, ifS, tcmp, op2, op1, varF, lenD, retF, withE, idxD, atI_nat, h]
  · simp [seqS, ifS, tcmp, op2, op1, varF, lenD, retF, withE, idxD, atI_nat, h, nilS, cF]
theorem pow1018 : powD (.int 10) (.int 18) = .ok (.int 1000000000000000000) := by
  unfold powD
  dsimp only
  rw [if_pos (by decide)]
  rfl
theorem law_row_ok (c : Int) (n : Nat) (hn : n ≤ 1000000) : ∃ row : List Int, m_law_row [.int c, .int n] = .ok (.lst (row.map D.int)) ∧ row.length = n ∧ ∀ x ∈ row, 0 ≤ x ∧ x < 840 := by
  obtain ⟨e', h1, row, rest, seed, kv, rfl, hl, hx⟩ := range_inv (t := (Tg.nm 5).put) (g := b_law_row_0) (fun i e => ∃ (row : List Int) (rest seed : Int) (kv : Option T), e = [some (.d (.int c)), some (.d (.int n)), some (.l (row.map D.int)), some (.d (.int rest)), some (.d (.int seed)), kv] ∧ row.length = i ∧ ∀ x ∈ row, 0 ≤ x ∧ x < 840) n
    [some (.d (.int c)), some (.d (.int n)), some (.l []), some (.d (.int c)), some (.d (.int (c % 2147483629 + 1))), none] ⟨[], c, _, _, rfl, rfl, fun x h => by cases h⟩ (by
      rintro i e hi ⟨row, rest, seed, kv, rfl, hl, hx⟩
      refine ⟨[some (.d (.int c)), some (.d (.int n)), some (.l (row.map D.int)), some (.d (.int rest)), some (.d (.int seed)), some (.d (.int i))], ?_⟩
      have hs : row.length < SL := by unfold SL; omega
      by_cases hc : 1000000000000000000 ≤ c
      · refine ⟨[some (.d (.int c)), some (.d (.int n)), some (.l ((row ++ [rest % 840]).map D.int)), some (.d (.int (rest / 840))), some (.d (.int seed)), some (.d (.int i))], rfl, ?_, row ++ [rest % 840], _, _, _, rfl, by simp [hl], ?_⟩
        · simp [b_law_row_0, ifS, tcmp, op2, op1, varF, cF, pow1018, hc, seqS, appF, withL, withE, toIntD, mod_ii, div_ii, hs, asgF]
        · intro x hx'
          rcases List.mem_append.mp hx' with h | h
          · exact hx x h
          · rw [List.mem_singleton.mp h]
            omega
      · refine ⟨[some (.d (.int c)), some (.d (.int n)), some (.l ((row ++ [((seed * 48271 + i) % 2147483647 * 69621) % 2147483629 / 7 % 840]).map D.int)), some (.d (.int rest)), some (.d (.int ((seed * 48271 + i) % 2147483647))), some (.d (.int i))], rfl, ?_, row ++ [((seed * 48271 + i) % 2147483647 * 69621) % 2147483629 / 7 % 840], _, _, _, rfl, by simp [hl], ?_⟩
        · simp [b_law_row_0, ifS, tcmp, op2, op1, varF, cF, pow1018, hc, seqS, appF, withL, withE, toIntD, mod_ii, div_ii, hs, asgF, mul_r]
        · intro x hx'
          rcases List.mem_append.mp hx' with h | h
          · exact hx x h
          · rw [List.mem_singleton.mp h]
            omega)
  refine ⟨row, ?_, hl, hx⟩
  refine runF_ret (g := f_law_row) (N := 6) ?_
  rw [show args0 [D.int c, D.int ↑n] 6 = [some (.d (.int c)), some (.d (.int n)), none, none, none, none] from rfl]
  unfold f_law_row
  rw [seqS_ok (e1 := [some (.d (.int c)), some (.d (.int n)), some (.l []), none, none, none]) (by simp [asgL, nil_ok, withE])]
  rw [seqS_ok (e1 := [some (.d (.int c)), some (.d (.int n)), some (.l []), some (.d (.int c)), none, none]) (by simp [asgF, withE, varF])]
  rw [seqS_ok (e1 := [some (.d (.int c)), some (.d (.int n)), some (.l []), some (.d (.int c)), some (.d (.int (c % 2147483629 + 1))), none]) (by simp [asgF, withE, varF, op2, op1, cF, toIntD, mod_ii])]
  rw [seqS_ok ((forR_ok (ds := [.int n]) (by simp [consA, varF, nilA]) (rg1_ok hn)).trans h1)]
  simp [retL]
def mkS (l : List Nat) : Str := ⟨l.toArray⟩
theorem mkS_inj {a b : List Nat} (h : mkS a = mkS b) : a = b := by
  have := congrArg (fun s : Str => s.cps.toList) h
  simpa [mkS] using this
theorem mkS_of (s : Str) : mkS s.cps.toList = s := by
  cases s
  simp [mkS]
theorem mkS_len (l : List Nat) : (mkS l).length = l.length := by simp [mkS, Str.length]
theorem mkS_app (a b : List Nat) : mkS a ++ mkS b = mkS (a ++ b) := by
  show Str.append _ _ = _
  simp [mkS, Str.append]
theorem add_ss (a b : List Nat) (h : a.length + b.length ≤ SL) : addD (.str (mkS a)) (.str (mkS b)) = .ok (.str (mkS (a ++ b))) := by
  unfold addD
  dsimp only
  rw [if_pos (by rw [mkS_len, mkS_len]; exact h), mkS_app]
theorem let_eq : (("abcdefghijklmnopqrstuvwxyz" : String) : Str) = mkS ((List.range 26).map (97 + ·)) := by decide +kernel
theorem idx_s (l : List Nat) (i : Int) (c : Nat) (hl : l.length ≤ SL) (h0 : 0 ≤ i) (h : l[i.toNat]? = some c) : idxD (.str (mkS l)) (.int i) = .ok (.str (mkS [c])) := by
  unfold idxD
  dsimp only
  rw [if_pos (by rw [mkS_len]; exact hl), atI_pos _ _ h0]
  rw [show (mkS l).cps.toList = l by simp [mkS], h]
  rfl
theorem let_at (i : Int) (h0 : 0 ≤ i) (h : i < 26) : idxD (.str (("abcdefghijklmnopqrstuvwxyz" : String) : Str)) (.int i) = .ok (.str (mkS [97 + i.toNat])) := by
  rw [let_eq]
  refine idx_s _ _ _ (by simp [SL]) h0 ?_
  rw [List.getElem?_map, List.getElem?_range (by omega)]
  rfl
theorem sIx_pos (n d : Nat) (k : Int) (h : 0 ≤ k) : HT.sIx n d (some k) = min k.toNat n := by
  have e := HT.sIx_nat n d k.toNat
  rwa [Int.toNat_of_nonneg h] at e
theorem cut_to {α : Type} (xs : List α) (k : Int) (h : 0 ≤ k) : cutD xs none (some k) = xs.take k.toNat := by
  unfold cutD
  rw [HT.sIx_none, sIx_pos _ _ _ h, List.drop_zero, Nat.sub_zero, List.take_eq_take_iff]
  omega
theorem cut_from {α : Type} (xs : List α) (k : Int) (h : 0 ≤ k) : cutD xs (some k) none = xs.drop k.toNat := by
  unfold cutD
  rw [HT.sIx_none, sIx_pos _ _ _ h]
  by_cases g : k.toNat ≤ xs.length
  · rw [Nat.min_eq_left g, List.take_of_length_le (by rw [List.length_drop]; omega)]
  · rw [Nat.min_eq_right (by omega), List.drop_eq_nil_of_le (Nat.le_refl _), List.drop_eq_nil_of_le (by omega), List.take_nil]
theorem cut_mid {α : Type} (xs : List α) (a b : Int) (h : 0 ≤ a) (h2 : 0 ≤ b) : cutD xs (some a) (some b) = (xs.drop a.toNat).take (b.toNat - a.toNat) := by
  unfold cutD
  rw [sIx_pos _ _ _ h, sIx_pos _ _ _ h2]
  by_cases g : a.toNat ≤ xs.length
  · rw [Nat.min_eq_left g, List.take_eq_take_iff, List.length_drop]
    omega
  · rw [Nat.min_eq_right (show xs.length ≤ a.toNat by omega), List.drop_eq_nil_of_le (Nat.le_refl _), List.drop_eq_nil_of_le (show xs.length ≤ a.toNat by omega), List.take_nil, List.take_nil]
theorem let_mod (i : Int) : idxD (.str (("abcdefghijklmnopqrstuvwxyz" : String) : Str)) (.int (i % 26)) = .ok (.str (mkS [97 + (i % 26).toNat])) := let_at _ (by omega) (by omega)
theorem cutS_eq (l : List Nat) (lo hi : Option Int) : cutS (mkS l) lo hi = mkS (cutD l lo hi) := by
  unfold cutS cutD
  rw [mkS_len]
  simp [mkS]
theorem law_word_ok (i : Int) (h0 : 0 ≤ i) : ∃ w : List Nat, m_law_word [.int i] = .ok (.str (mkS w)) ∧ 1 ≤ w.length ∧ w.length ≤ 5 ∧ ∀ c ∈ w, 97 ≤ c ∧ c < 123 := by
  have hw : ∃ w : List Nat, f_law_word [some (.d (.int i)), none, none] = .ok (.ret (.str (mkS w))) ∧ 1 ≤ w.length ∧ w.length ≤ 5 ∧ ∀ c ∈ w, 97 ≤ c ∧ c < 123 := by
    unfold f_law_word
    by_cases h1 : i / 26 % 3 = 0
    · refine ⟨[97 + (i % 26).toNat], ?_, by simp, by simp, fun c hc => by simp at hc; omega⟩
      simp [seqS, asgF, withE, cF, op2, varF, mod_ii, div_ii, let_mod, ifS, tcmp, h1, nilS, retF]
    · by_cases h2 : i / 26 % 3 = 2
      · refine ⟨[97 + (i % 26).toNat, 97 + (i / 3 % 26).toNat, 97 + (i / 5 % 26).toNat, 97 + (i / 11 % 26).toNat, 97 + (i / 2 % 26).toNat], ?_, by simp, by simp, fun c hc => by simp at hc; omega⟩
        simp [SL, seqS, asgF, withE, cF, op2, varF, mod_ii, div_ii, let_mod, ifS, tcmp, h1, h2, nilS, retF, add_ss]
      · have h3 : i / 26 % 3 = 1 := by omega
        refine ⟨[97 + (i % 26).toNat, 97 + (i / 3 % 26).toNat], ?_, by simp, by simp, fun c hc => by simp at hc; omega⟩
        simp [SL, seqS, asgF, withE, cF, op2, varF, mod_ii, div_ii, let_mod, ifS, tcmp, h3, nilS, retF, add_ss]
  obtain ⟨w, h1, h2⟩ := hw
  exact ⟨w, runF_ret (g := f_law_word) (N := 3) h1, h2⟩
theorem seq_asgF {i : Nat} {fa : En → Rs D} {g : En → Rs Fl} {env : En} {a : D} {r : Rs Fl} (ha : fa env = .ok a) (h : g (env.set i (some (.d a))) = r) : seqS (asgF i fa) g env = r := by
  unfold seqS asgF withE
  rw [ha, Rs.bind_ok]
  exact h
theorem seq_asgL {i : Nat} {fa : En → Rs D} {g : En → Rs Fl} {env : En} {xs : List D} {r : Rs Fl} (ha : fa env = .ok (.lst xs)) (h : g (env.set i (some (.l xs))) = r) : seqS (asgL i fa) g env = r := by
  unfold seqS asgL withE
  rw [ha]
  exact h
theorem asgF_ok {i : Nat} {fa : En → Rs D} {env : En} {a : D} (ha : fa env = .ok a) : asgF i fa env = .ok (.next (env.set i (some (.d a)))) := by
  unfold asgF withE
  rw [ha]
theorem callF_ok {g : List D → Rs D} {fs : En → Rs (List D)} {env : En} {ds : List D} {r : Rs D} (h : fs env = .ok ds) (h2 : g ds = r) : callF g fs env = r := by
  unfold callF
  rw [h, Rs.bind_ok, h2]
theorem retF_ok {fa : En → Rs D} {env : En} {a : D} (ha : fa env = .ok a) : retF fa env = .ok (.ret a) := by
  unfold retF withE
  rw [ha]
theorem appF_ok {i : Nat} {fa : En → Rs D} {env : En} {xs : List D} {d : D} (h : env[i]? = some (some (.l xs))) (ha : fa env = .ok d) (hl : xs.length < SL) : appF i fa env = .ok (.next (env.set i (some (.l (xs ++ [d]))))) := by
  unfold appF withL withE
  rw [h]
  dsimp only
  rw [ha]
  dsimp only
  rw [if_pos hl]
/-- small draws -/
def Draws (row : List Int) : Prop := ∀ x ∈ row, 0 ≤ x ∧ x < 840
theorem Draws.at {row : List Int} (h : Draws row) {k : Nat} (hk : k < row.length) : 0 ≤ row[k] ∧ row[k] < 840 := h _ (List.getElem_mem hk)
theorem Draws.take {row : List Int} (h : Draws row) (n : Nat) : Draws (row.take n) := fun x hx => h x (List.mem_of_mem_take hx)
theorem Draws.drop {row : List Int} (h : Draws row) (n : Nat) : Draws (row.drop n) := fun x hx => h x (List.mem_of_mem_drop hx)
theorem idx_row (row : List Int) (i : Int) (h0 : 0 ≤ i) (h : i.toNat < row.length) : idxD (.lst (row.map D.int)) (.int i) = .ok (.int row[i.toNat]) := by
  unfold idxD
  dsimp only
  rw [atI_pos _ _ h0, List.getElem?_map, List.getElem?_eq_getElem h]
  rfl
theorem idx_rowN (row : List Int) (k : Nat) (h : k < row.length) : idxD (.lst (row.map D.int)) (.int (k : Int)) = .ok (.int row[k]) := idx_row row k (by omega) (by simpa using h)
def okWord (w : Str) : Prop := ∃ l : List Nat, w = mkS l ∧ 1 ≤ l.length ∧ l.length ≤ 6 ∧ ∀ c ∈ l, 97 ≤ c ∧ c < 123
theorem law_words_ok2 (row : List Int) (n : Nat) (hr : Draws row) (hl : 3 ≤ row.length) (hn : n ≤ 26) :
    ∃ ws : List Str, m_law_words [.lst (row.map D.int), .int n] = .ok (.lst (ws.map D.str)) ∧ ws.length = n ∧ ws.Nodup ∧ (∀ w ∈ ws, okWord w) ∧ ∃ m, ∀ w ∈ ws, w.length = m := by
  obtain ⟨w, hw, hw1, hw5, hwc⟩ := law_word_ok row[0] (hr.at (by omega)).1
  obtain ⟨p, hp, hpe⟩ : ∃ p : Nat, p ≤ w.length ∧ idxD (.lst [.int w.length, .int 0, .int (row[2] / 3 % ((w.length : Int) + 1))]) (.int (row[2] % 3)) = .ok (.int p) := by
    have h2 := (hr.at (show 2 < row.length by omega)).1
    rcases (show row[2] % 3 = 0 ∨ row[2] % 3 = 1 ∨ row[2] % 3 = 2 by omega) with h | h | h <;> rw [h]
    · exact ⟨w.length, Nat.le_refl _, rfl⟩
    · exact ⟨0, Nat.zero_le _, rfl⟩
    · have a1 : 0 ≤ row[2] / 3 % ((w.length : Int) + 1) := Int.emod_nonneg _ (by omega)
      have a2 : row[2] / 3 % ((w.length : Int) + 1) < (w.length : Int) + 1 := Int.emod_lt_of_pos _ (by omega)
      refine ⟨(row[2] / 3 % ((w.length : Int) + 1)).toNat, by omega, ?_⟩
      rw [Int.toNat_of_nonneg a1]
      rfl
  let wd : Nat → List Nat := fun k => w.take p ++ [97 + ((row[1] + (k : Int)) % 26).toNat] ++ w.drop p
  have hwd : ∀ k, (wd k).length = w.length + 1 := fun k => by
    simp only [wd, List.length_append, List.length_take, List.length_drop, List.length_cons, List.length_nil]
    omega
  obtain ⟨e', h1, kv, sg, wo, at', rfl⟩ := range_inv (t := (Tg.nm 4).put) (g := b_law_words_0) (fun i e => ∃ (kv sg wo at' : Option T), e = [some (.d (.lst (row.map D.int))), some (.d (.int n)), some (.d (.str (("abcdefghijklmnopqrstuvwxyz" : String) : Str))), some (.l (((List.range i).map fun k => mkS (wd k)).map D.str)), kv, sg, wo, at']) n
    [some (.d (.lst (row.map D.int))), some (.d (.int n)), some (.d (.str (("abcdefghijklmnopqrstuvwxyz" : String) : Str))), some (.l []), none, none, none, none] ⟨none, none, none, none, rfl⟩ (by
      rintro i e hi ⟨kv, sg, wo, at', rfl⟩
      refine ⟨[some (.d (.lst (row.map D.int))), some (.d (.int n)), some (.d (.str (("abcdefghijklmnopqrstuvwxyz" : String) : Str))), some (.l (((List.range i).map fun k => mkS (wd k)).map D.str)), some (.d (.int i)), sg, wo, at'],
        [some (.d (.lst (row.map D.int))), some (.d (.int n)), some (.d (.str (("abcdefghijklmnopqrstuvwxyz" : String) : Str))), some (.l (((List.range (i + 1)).map fun k => mkS (wd k)).map D.str)), some (.d (.int i)), some (.d (.str (mkS [97 + ((row[1] + (i : Int)) % 26).toNat]))), some (.d (.str (mkS w))), some (.d (.int p))], rfl, ?_, _, _, _, _, rfl⟩
      unfold b_law_words_0
      have i1 := idx_rowN row 1 (by omega)
      have i0 := idx_rowN row 0 (by omega)
      have i2 := idx_rowN row 2 (by omega)
      refine seq_asgF (a := .str (mkS [97 + ((row[1] + (i : Int)) % 26).toNat])) ?_ ?_
      · simp at i1
        simp [op2, varF, cF, i1, mod_ii, let_mod]
      refine seq_asgF (a := .str (mkS w)) ?_ ?_
      · simp at i0
        simp [callF, consA, nilA, op2, varF, cF, i0, hw]
      refine seq_asgF (a := .int p) ?_ ?_
      · simp at i2
        have hs : lenD (.str (mkS w)) = .ok (.int w.length) := by
          unfold lenD
          dsimp only
          rw [mkS_len, if_pos (by unfold SL; omega)]
        have hm : modD (.int (row[2] / 3)) (.int ((w.length : Int) + 1)) = .ok (.int (row[2] / 3 % ((w.length : Int) + 1))) := mod_ii _ _ (by omega)
        simp [op2, op1, varF, cF, lstF, consA, nilA, SL, i2, div_ii, mod_ii, hs, hm, hpe]
      · have hc1 : cutS (mkS w) none (some (p : Int)) = mkS (w.take p) := by rw [cutS_eq, cut_to _ _ (by omega)]; rfl
        have hc2 : cutS (mkS w) (some (p : Int)) none = mkS (w.drop p) := by rw [cutS_eq, cut_from _ _ (by omega)]; rfl
        have hl1 : (mkS w).length ≤ SL := by rw [mkS_len]; unfold SL; omega
        have a1 := add_ss (w.take p) [97 + ((row[1] + (i : Int)) % 26).toNat] (by unfold SL; simp; omega)
        have a2 := add_ss (w.take p ++ [97 + ((row[1] + (i : Int)) % 26).toNat]) (w.drop p) (by unfold SL; simp; omega)
        rw [appF_ok (xs := ((List.range i).map fun k => mkS (wd k)).map D.str) (d := .str (mkS (wd i))) rfl (by
          simp [op2, sliceF, sliceD, varF, someF, noF, hc1, hc2, hl1, a1, wd]
          simpa using a2) (by unfold SL; simp; omega)]
        simp [List.range_succ])
  refine ⟨(List.range n).map fun k => mkS (wd k), ?_, by simp, ?_, ?_, w.length + 1, ?_⟩
  · refine runF_ret (g := f_law_words) (N := 8) ?_
    rw [show args0 [D.lst (row.map D.int), D.int ↑n] 8 = [some (.d (.lst (row.map D.int))), some (.d (.int n)), none, none, none, none, none, none] from rfl]
    unfold f_law_words
    refine seq_asgF (a := .str (("abcdefghijklmnopqrstuvwxyz" : String) : Str)) rfl ?_
    refine seq_asgL (xs := []) (nil_ok _) ?_
    refine (seqS_ok ((forR_ok (ds := [.int n]) rfl (rg1_ok (by omega))).trans h1)).trans ?_
    rfl
  · show List.Pairwise _ _
    rw [List.pairwise_map]
    refine List.Pairwise.imp_of_mem (R := (· ≠ ·)) (fun {a b} ha hb ne h => ne ?_) List.nodup_range
    rw [List.mem_range] at ha hb
    have h := mkS_inj h
    simp only [wd, List.append_assoc] at h
    have h := List.append_cancel_left h
    simp only [List.singleton_append, List.cons.injEq] at h
    omega
  · intro x hx
    obtain ⟨k, _, rfl⟩ := List.mem_map.mp hx
    refine ⟨wd k, rfl, by rw [hwd]; omega, by rw [hwd]; omega, fun c hc => ?_⟩
    simp only [wd, List.mem_append, List.mem_singleton] at hc
    rcases hc with (h | h) | h
    · exact hwc c (List.mem_of_mem_take h)
    · subst h; omega
    · exact hwc c (List.mem_of_mem_drop h)
  · intro x hx
    obtain ⟨k, _, rfl⟩ := List.mem_map.mp hx
    rw [mkS_len, hwd]
theorem law_words_ok (row : List Int) (n : Nat) (hr : Draws row) (hl : 3 ≤ row.length) (hn : n ≤ 26) :
    ∃ ws : List Str, m_law_words [.lst (row.map D.int), .int n] = .ok (.lst (ws.map D.str)) ∧ ws.length = n ∧ ws.Nodup ∧ ∀ w ∈ ws, okWord w :=
  let ⟨ws, h1, h2, h3, h4, _⟩ := law_words_ok2 row n hr hl hn
  ⟨ws, h1, h2, h3, h4⟩
structure Ru where
  tgt : Nat
  src : List Nat
  wr : List (Nat × Str × Nat)
def eI (k : Nat) : D := .int k
def eWr (w : Nat × Str × Nat) : D := .tup [.int w.1, .str w.2.1, .int w.2.2]
def eRu (r : Ru) : D := .tup [.int r.tgt, .tup (r.src.map eI), .tup (r.wr.map eWr)]
structure Pa where
  names : List Str
  outs : List (Str × List Str)
  sts : List (Str × Nat)
  rules : List (List (List Ru))
def eOut (o : Str × List Str) : D := .tup [.str o.1, .tup (o.2.map D.str)]
def eSt (s : Str × Nat) : D := .tup [.str s.1, .int s.2]
def eLine (l : List Ru) : D := .tup (l.map eRu)
def eRow (l : List (List Ru)) : D := .tup (l.map eLine)
def ePa (p : Pa) : D := .lst [.tup (p.names.map D.str), .tup (p.outs.map eOut), .tup (p.sts.map eSt), .tup (p.rules.map eRow)]
theorem sl_l (xs : List D) (lo hi : Option Int) : sliceD lo hi (.lst xs) = .ok (.lst (cutD xs lo hi)) := rfl
theorem tupF_ok {fs : En → Rs (List D)} {env : En} {ds : List D} (h : fs env = .ok ds) (hl : ds.length ≤ SL) : tupF fs env = .ok (.tup ds) := by
  unfold tupF
  rw [h, Rs.bind_ok, if_pos hl]
theorem lstF_ok {fs : En → Rs (List D)} {env : En} {ds : List D} (h : fs env = .ok ds) (hl : ds.length ≤ SL) : lstF fs env = .ok (.lst ds) := by
  unfold lstF
  rw [h, Rs.bind_ok, if_pos hl]
theorem consA_ok {fa : En → Rs D} {fs : En → Rs (List D)} {env : En} {d : D} {ds : List D} (h : fa env = .ok d) (h2 : fs env = .ok ds) : consA fa fs env = .ok (d :: ds) := by
  unfold consA
  rw [h, Rs.bind_ok, h2, Rs.bind_ok]
theorem idx_l {α : Type} (f : α → D) (l : List α) (i : Int) (a : α) (h0 : 0 ≤ i) (h : l[i.toNat]? = some a) : idxD (.lst (l.map f)) (.int i) = .ok (f a) := by
  unfold idxD
  dsimp only
  rw [atI_pos _ _ h0, List.getElem?_map, h]
  rfl
theorem idx_t {α : Type} (f : α → D) (l : List α) (i : Int) (a : α) (h0 : 0 ≤ i) (h : l[i.toNat]? = some a) : idxD (.tup (l.map f)) (.int i) = .ok (f a) := by
  unfold idxD
  dsimp only
  rw [atI_pos _ _ h0, List.getElem?_map, h]
  rfl
theorem idx_lN {α : Type} (f : α → D) (l : List α) (k : Nat) (h : k < l.length) : idxD (.lst (l.map f)) (.int (k : Int)) = .ok (f l[k]) := idx_l f l k _ (by omega) (by rw [Int.toNat_natCast, List.getElem?_eq_getElem h])
theorem idx_tN {α : Type} (f : α → D) (l : List α) (k : Nat) (h : k < l.length) : idxD (.tup (l.map f)) (.int (k : Int)) = .ok (f l[k]) := idx_t f l k _ (by omega) (by rw [Int.toNat_natCast, List.getElem?_eq_getElem h])
def okOut (o : Str × List Str) : Prop := okWord o.1 ∧ 1 ≤ o.2.length ∧ o.2.length ≤ 4 ∧ o.2.Nodup ∧ ∀ w ∈ o.2, okWord w
theorem cut_lr (row : List Int) (a b : Nat) : cutD (row.map D.int) (some (a : Int)) (some (b : Int)) = ((row.drop a).take (b - a)).map D.int := by
  rw [cut_mid _ _ _ (by omega) (by omega), ← List.map_drop, ← List.map_take]
  rfl
theorem cut_to' (row : List Int) (b : Nat) : cutD (row.map D.int) none (some (b : Int)) = (row.take b).map D.int := by
  rw [cut_to _ _ (by omega), ← List.map_take]
  rfl
theorem cut_from' (row : List Int) (b : Nat) : cutD (row.map D.int) (some (b : Int)) none = (row.drop b).map D.int := by
  rw [cut_from _ _ (by omega), ← List.map_drop]
  rfl
def okWr (outs : List (Str × List Str)) (count : Nat) (w : Nat × Str × Nat) : Prop := ∃ o, outs[w.1]? = some o ∧ w.2.1 ∈ o.2 ∧ w.2.2 < count
def PNM : Str := ("p" : String)
def QNM : Str := ("q1" : String)
def RNM : Str := ("r" : String)
/-- the states of a drawn program -/
def widths (sts : List (Str × Nat)) : List Nat := sts.map fun s => 2 * s.2 + 1
def stNames : List Str := [PNM, QNM, RNM]
def okSts (sts : List (Str × Nat)) : Prop := ∃ rest, sts = (PNM, 0) :: rest ∧ rest.length ≤ 2 ∧ (∀ s ∈ sts, s.2 ≤ 2) ∧ (widths sts).sum ≤ 9 ∧ sts.map Prod.fst = stNames.take sts.length
def cnt (kept at' : Nat) : Nat := kept + 1 - at' % 2
structure okRu (sts : List (Str × Nat)) (outs : List (Str × List Str)) (count : Nat) (r : Ru) : Prop where
  st : ∃ st, sts[r.tgt]? = some st ∧ r.src.length = st.2
  asc : r.src.Pairwise (· < ·)
  lt : ∀ s ∈ r.src, s < count
  wr : ∀ w ∈ r.wr, okWr outs count w
  few : r.wr.length ≤ 4
theorem rangeL_eI (n : Nat) : rangeL 0 n = (List.range n).map eI := by
  unfold rangeL eI
  simp
theorem seqIx (k : Int) (n : Nat) (h0 : 0 ≤ k) (h : k < n) : seqIndex? k n = some k.toNat := by
  unfold seqIndex?
  simp [show ¬ k < 0 by omega, h0, h]
theorem popF_ok {i : Nat} {fa : En → Rs D} {env : En} {xs : List D} {k : Int} (h : env[i]? = some (some (.l xs))) (ha : fa env = .ok (.int k)) (h0 : 0 ≤ k) (hl : k < xs.length) (hs : xs.length ≤ 1000000) : popF i fa env = .ok (.next (env.set i (some (.l (xs.eraseIdx k.toNat))))) := by
  unfold popF withL withE
  rw [h]
  dsimp only
  rw [ha]
  dsimp only
  rw [if_pos (by omega), seqIx k _ h0 hl]
  dsimp only
  rw [if_pos (by omega)]
theorem map_eraseI {α β : Type} (f : α → β) : ∀ (l : List α) (k : Nat), (l.eraseIdx k).map f = (l.map f).eraseIdx k
  | [], _ => rfl
  | x :: l, 0 => rfl
  | x :: l, k + 1 => by simp [map_eraseI f l k]
theorem tcmp_ok {g : D → D → Rs D} {fa fb : En → Rs D} {env : En} {a b : D} {c : Bool} (ha : fa env = .ok a) (hb : fb env = .ok b) (h : g a b = .ok (.bl c)) : tcmp g fa fb env = .ok c := by
  unfold tcmp
  rw [op2_ok ha hb, h]
  rfl
theorem ifS_t {t : En → Rs Bool} {g1 g2 : En → Rs Fl} {env : En} (h : t env = .ok true) : ifS t g1 g2 env = g1 env := by unfold ifS; rw [h]
theorem ifS_f {t : En → Rs Bool} {g1 g2 : En → Rs Fl} {env : En} (h : t env = .ok false) : ifS t g1 g2 env = g2 env := by unfold ifS; rw [h]
/-- data that == and repr take: at most k deep, its text at most n long -/
def Fi (d : D) (k n : Nat) : Prop := ∃ p, toPy d = some p ∧ p.canLay0 = true ∧ p.showable = true ∧ p.depth ≤ k ∧ (PyData.shown p).length ≤ n
theorem Fi.mono {d : D} {k n k' n' : Nat} (h : Fi d k n) (hk : k ≤ k') (hn : n ≤ n') : Fi d k' n' :=
  let ⟨p, h1, h2, h3, h4, h5⟩ := h
  ⟨p, h1, h2, h3, Nat.le_trans h4 hk, Nat.le_trans h5 hn⟩
theorem log_small {i : Int} (h : i.natAbs < 2 ^ 1000) : i.natAbs.log2 < 1920 := by
  by_cases z : i.natAbs = 0
  · rw [z]; decide
  · rw [Nat.log2_lt z]
    exact Nat.lt_trans h (Nat.pow_lt_pow_right (by omega) (by omega))
theorem Fi.int {i : Int} (h : i.natAbs < 2 ^ 1000) : Fi (.int i) 0 1921 :=
  ⟨.int i, rfl, rfl, by simp only [PyData.showable]; exact decide_eq_true (log_small h), Nat.le_refl _, by simp only [PyData.shown]; exact int_text_len_1921 (log_small h)⟩
theorem Fi.non : Fi .non 0 4 := ⟨.none, rfl, rfl, rfl, Nat.le_refl _, by simp only [PyData.shown]; decide⟩
theorem Fi.bl (b : Bool) : Fi (.bl b) 0 5 := ⟨.bool b, rfl, rfl, rfl, Nat.le_refl _, by simp only [PyData.shown]; cases b <;> decide⟩
theorem Fi.str {l : List Nat} (h : ∀ c ∈ l, c < 1114112) : Fi (.str (mkS l)) 0 (10 * l.length + 2) :=
  ⟨.str (mkS l), rfl, by
    simp only [PyData.canLay0, PyData.strOk, mkS]
    rw [Array.all_eq_true']
    intro c hc
    simpa using h c (by simpa using hc), rfl, Nat.le_refl _, by
    simp only [PyData.shown]
    have := StrLaws.reprText_len (mkS l) (fun c hc => Nat.lt_trans (h c (by simpa [mkS] using hc)) (by decide))
    rwa [mkS_len] at this⟩
theorem Fi.word {w : Str} (h : okWord w) : Fi (.str w) 0 62 := by
  obtain ⟨l, rfl, h1, h2, h3⟩ := h
  exact (Fi.str fun c hc => by have := h3 c hc; omega).mono (Nat.le_refl _) (by omega)
theorem Fi.all {k n : Nat} : ∀ {xs : List D}, (∀ x ∈ xs, Fi x k n) → ∃ ps, toPys xs = some ps ∧ PyData.canLayAll0 ps = true ∧ PyData.showableAll ps = true ∧ PyData.depthAll ps ≤ k ∧ ps.length = xs.length ∧ ∀ t ∈ PyData.shownAll ps, t.length ≤ n
  | [], _ => ⟨[], rfl, rfl, rfl, Nat.zero_le _, rfl, fun t h => by cases h⟩
  | x :: xs, h => by
    obtain ⟨p, h1, h2, h3, h4, h5⟩ := h x List.mem_cons_self
    obtain ⟨ps, g1, g2, g3, g4, g5, g6⟩ := Fi.all (xs := xs) fun y hy => h y (List.mem_cons_of_mem _ hy)
    refine ⟨p :: ps, ?_, ?_, ?_, ?_, ?_, ?_⟩
    · unfold toPys
      rw [h1, g1]
    · rw [PyData.canLayAll0, h2, g2]; rfl
    · rw [PyData.showableAll, h3, g3]; rfl
    · rw [PyData.depthAll]; omega
    · rw [List.length_cons, List.length_cons, g5]
    · intro t ht
      rw [PyData.shownAll] at ht
      rcases List.mem_cons.mp ht with rfl | ht
      · exact h5
      · exact g6 t ht
theorem shownAll_len : ∀ ps : List PyData, (PyData.shownAll ps).length = ps.length
  | [] => rfl
  | p :: ps => by rw [PyData.shownAll, List.length_cons, List.length_cons, shownAll_len ps]
theorem strL_app (a b : Str) : (a ++ b).length = a.length + b.length := by
  show (Str.append a b).length = _
  simp [Str.append, Str.length]
theorem join_le {n : Nat} : ∀ ts : List Str, (∀ t ∈ ts, t.length ≤ n) → (Str.join ((", " : String) : Str) ts).length ≤ ts.length * (n + 2)
  | [], _ => Nat.zero_le _
  | [x], h => by
    have := h x List.mem_cons_self
    show x.length ≤ _
    simp only [List.length_cons, List.length_nil]
    omega
  | x :: y :: r, h => by
    have ih := join_le (y :: r) fun t ht => h t (List.mem_cons_of_mem _ ht)
    have := h x List.mem_cons_self
    have e2 : ((", " : String) : Str).length = 2 := by decide +kernel
    show (x ++ ", " ++ Str.join ", " (y :: r)).length ≤ _
    rw [strL_app, strL_app, e2, List.length_cons (a := x), Nat.add_mul]
    omega
theorem textFrom_le {n : Nat} : ∀ (ts : List Str) (k : Nat) (acc : Str), (∀ t ∈ ts, t.length ≤ n) → (textFrom k acc ts).length ≤ acc.length + ts.length * (n + 2)
  | [], k, acc, _ => by show acc.length ≤ _; omega
  | t :: r, k, acc, h => by
    have ih := textFrom_le r (k + 1) (acc ++ (if k > 0 then ", " else "" : String) ++ t) fun t ht => h t (List.mem_cons_of_mem _ ht)
    have := h t List.mem_cons_self
    have e : (acc ++ (if k > 0 then ", " else "" : String) ++ t).length ≤ acc.length + 2 + t.length := by
      rw [strL_app, strL_app]
      have : (((if k > 0 then ", " else "" : String)) : Str).length ≤ 2 := by
        split
        · decide +kernel
        · decide +kernel
      omega
    show (textFrom (k + 1) (acc ++ (if k > 0 then ", " else "" : String) ++ t) r).length ≤ _
    rw [List.length_cons, Nat.add_mul]
    omega
theorem Fi.tup {k n : Nat} {xs : List D} (h : ∀ x ∈ xs, Fi x k n) : Fi (.tup xs) (k + 1) (xs.length * (n + 2) + 3) := by
  obtain ⟨ps, g1, g2, g3, g4, g5, g6⟩ := Fi.all h
  refine ⟨.tuple ps, ?_, ?_, ?_, ?_, ?_⟩
  · unfold toPy; rw [g1]; rfl
  · rw [PyData.canLay0]; exact g2
  · rw [PyData.showable]; exact g3
  · rw [PyData.depth]; omega
  · rw [PyData.shown]
    unfold tupleText
    rw [strL_app, strL_app]
    have e1 := join_le _ g6
    rw [shownAll_len, g5] at e1
    have e2 : (("(" : String) : Str).length = 1 := by decide +kernel
    have e3 : (((if (PyData.shownAll ps).length == 1 then ",)" else ")" : String)) : Str).length ≤ 2 := by
      split
      · decide +kernel
      · decide +kernel
    omega
theorem Fi.lst {k n : Nat} {xs : List D} (h : ∀ x ∈ xs, Fi x k n) : Fi (.lst xs) (k + 1) (xs.length * (n + 2) + 3) := by
  obtain ⟨ps, g1, g2, g3, g4, g5, g6⟩ := Fi.all h
  refine ⟨.list ps, ?_, ?_, ?_, ?_, ?_⟩
  · unfold toPy; rw [g1]; rfl
  · rw [PyData.canLay0]; exact g2
  · rw [PyData.showable]; exact g3
  · rw [PyData.depth]; omega
  · rw [PyData.shown]
    unfold listText
    rw [strL_app]
    have e1 := textFrom_le _ 0 (("[" : String) : Str) g6
    rw [shownAll_len, g5] at e1
    have e2 : (("[" : String) : Str).length = 1 := by decide +kernel
    have e3 : (("]" : String) : Str).length = 1 := by decide +kernel
    omega
theorem Fi.shaped {d : D} {k n : Nat} (hk : k ≤ 64) (h : Fi d k n) : ∃ p, toPy d = some p ∧ SeqAt.shaped p = true ∧ p.canLay0 = true ∧ p.showable = true ∧ (PyData.shown p).length ≤ n := by
  obtain ⟨p, h1, h2, h3, h4, h5⟩ := h
  refine ⟨p, h1, ?_, h2, h3, h5⟩
  unfold SeqAt.shaped
  rw [h2, decide_eq_true (show p.depth ≤ 64 by omega)]
  rfl
theorem scal_refl {x : D} {u : V} (h : Orn.flat x = some u) : scal u u = true := by
  cases x <;> simp [Orn.flat] at h <;> subst h <;> rfl
/-- two equal ones are equal -/
theorem eqD_refl {d : D} {k n : Nat} (hk : k ≤ 64) (h : Fi d k n) : eqD d d = .ok (.bl true) := by
  obtain ⟨p, h1, h2, h3, _⟩ := h.shaped hk
  unfold eqD
  cases hf : Orn.flat d with
  | some u =>
    dsimp only
    rw [if_pos (scal_refl hf), decide_eq_true rfl]
  | none =>
    dsimp only
    rw [h1]
    dsimp only
    rw [if_pos ⟨h2, h2⟩, SeqAt.eqv_refl p h3]
theorem neD_refl {d : D} {k n : Nat} (hk : k ≤ 64) (h : Fi d k n) : neD d d = .ok (.bl false) := by
  unfold neD notR
  rw [eqD_refl hk h]
  rfl
/-- == of two lists or tuples gives something -/
theorem eqD_some {d d' : D} {k n : Nat} (hk : k ≤ 64) (h : Fi d k n) (h' : Fi d' k n) (hc : Orn.flat d = none) : ∃ b, eqD d d' = .ok (.bl b) := by
  obtain ⟨p, h1, h2, h3, _⟩ := h.shaped hk
  obtain ⟨p', h1', h2', h3', _⟩ := h'.shaped hk
  unfold eqD
  rw [hc]
  dsimp only
  rw [h1, h1']
  dsimp only
  rw [if_pos ⟨h2, h2'⟩]
  exact ⟨_, rfl⟩
theorem reprD_ok {d : D} {k n : Nat} (hk : k ≤ 64) (hn : n ≤ SL) (h : Fi d k n) (hc : isCon d = true) : ∃ z, reprD d = .ok (.str z) := by
  obtain ⟨p, h1, h2, h3, h4, h5⟩ := h.shaped hk
  unfold reprD
  cases d <;> simp only [isCon, Bool.false_eq_true] at hc
  all_goals
    dsimp only
    rw [if_pos (by rfl), h1]
    dsimp only
    rw [if_pos ⟨h4, h2, Nat.le_trans h5 hn⟩]
    exact ⟨_, rfl⟩
def okLine (sts : List (Str × Nat)) (outs : List (Str × List Str)) (k : Nat) (line : List Ru) : Prop := line.length = 2 * k + 1 ∧ ∀ p r, line[p]? = some r → okRu sts outs (cnt k p) r
def okRow (names : List Str) (sts : List (Str × Nat)) (outs : List (Str × List Str)) (k : Nat) (rw : List (List Ru)) : Prop := rw.length = names.length ∧ ∀ l ∈ rw, okLine sts outs k l
def okRules (names : List Str) (sts : List (Str × Nat)) (outs : List (Str × List Str)) (rules : List (List (List Ru))) : Prop := ∀ (s : Nat) (rw : List (List Ru)), rules[s]? = some rw → ∃ st, sts[s]? = some st ∧ okRow names sts outs st.2 rw
structure okPa (p : Pa) : Prop where
  names : p.names.Nodup
  namesW : ∀ w ∈ p.names, okWord w
  names1 : 1 ≤ p.names.length
  names4 : p.names.length ≤ 4
  outs1 : 1 ≤ p.outs.length
  outs3 : p.outs.length ≤ 3
  outsN : (p.outs.map Prod.fst).Nodup
  outsO : ∀ o ∈ p.outs, okOut o
  first : ∃ nm, p.sts[0]? = some (nm, 0)
  kept : ∀ s ∈ p.sts, s.2 ≤ 4
  len : p.rules.length = p.sts.length
  few : p.sts.length ≤ 20
  rules : okRules p.names p.sts p.outs p.rules
def qsts : D := .tup [.tup [.str (("p" : String) : Str), .int 0], .tup [.str (("q1" : String) : Str), .int 1]]
theorem fi_st {s : Str × Nat} (h : s.2 ≤ 4) (hw : ∃ l, s.1 = mkS l ∧ l.length ≤ 8 ∧ ∀ c ∈ l, c < 1114112) : Fi (eSt s) 1 5000 := by
  obtain ⟨l, e, h1, h2⟩ := hw
  unfold eSt
  rw [e]
  refine (Fi.tup (k := 0) (n := 1921) fun x hx => ?_).mono (by omega) (by simp)
  simp only [List.mem_cons, List.not_mem_nil, or_false] at hx
  rcases hx with rfl | rfl
  · exact (Fi.str h2).mono (Nat.le_refl _) (by omega)
  · exact Fi.int (Nat.lt_of_le_of_lt (show ((s.2 : Int)).natAbs ≤ 4 by omega) (Nat.lt_of_lt_of_le (show 4 < 2 ^ 3 by decide) (Nat.pow_le_pow_right (by omega) (by omega))))
theorem pnm_eq : PNM = mkS [112] := by decide +kernel
theorem qnm_eq : QNM = mkS [113, 49] := by decide +kernel
theorem rnm_eq : RNM = mkS [114] := by decide +kernel
theorem stName_ok {w : Str} (h : w ∈ stNames) : ∃ l, w = mkS l ∧ l.length ≤ 8 ∧ ∀ c ∈ l, c < 1114112 := by
  simp only [stNames, List.mem_cons, List.not_mem_nil, or_false] at h
  rcases h with rfl | rfl | rfl
  · exact ⟨_, pnm_eq, by simp, by simp⟩
  · exact ⟨_, qnm_eq, by simp, by simp⟩
  · exact ⟨_, rnm_eq, by simp, by simp⟩
theorem sts_cmp {sts : List (Str × Nat)} (h : okSts sts) : ∃ b, eqD (.tup (sts.map eSt)) qsts = .ok (.bl b) := by
  obtain ⟨rest, e, hl, h2, h3, h4⟩ := h
  have hf : ∀ s : Str × Nat, s.1 ∈ stNames → s.2 ≤ 4 → Fi (eSt s) 1 5000 := fun s hs hk => fi_st hk (stName_ok hs)
  refine eqD_some (k := 2) (n := 20000) (by decide) ?_ ?_ rfl
  · refine (Fi.tup (k := 1) (n := 5000) fun x hx => ?_).mono (by omega) ?_
    · obtain ⟨s, hs, rfl⟩ := List.mem_map.mp hx
      refine hf s ?_ (by have := h2 s hs; omega)
      have : s.1 ∈ sts.map Prod.fst := List.mem_map_of_mem hs
      rw [h4] at this
      exact List.mem_of_mem_take this
    · rw [List.length_map, e, List.length_cons]
      have : (rest.length + 1) * (5000 + 2) ≤ 3 * (5000 + 2) := Nat.mul_le_mul_right _ (by omega)
      omega
  · refine (Fi.tup (k := 1) (n := 5000) fun x hx => ?_).mono (by omega) (by simp)
    simp only [List.mem_cons, List.not_mem_nil, or_false] at hx
    rcases hx with rfl | rfl
    · exact hf (PNM, 0) (by simp [stNames]) (by simp)
    · exact hf (QNM, 1) (by simp [stNames]) (by simp)
/-! ### one step of a program -/
theorem flats_ints (l : List Int) : flats (l.map D.int) = some (l.map V.int) := by
  induction l with
  | nil => rfl
  | cons x l ih =>
    rw [List.map_cons, flats]
    rw [ih]
    rfl
theorem inV_ints (n : Int) (l : List Int) : inV (.int n) (l.map V.int) = decide (n ∈ l) := by
  unfold inV
  rw [Bool.eq_iff_iff]
  simp only [List.any_map, List.any_eq_true, decide_eq_true_eq, Function.comp]
  constructor
  · rintro ⟨x, hx, h⟩
    have : x = n := by simpa [eqV] using h
    exact this ▸ hx
  · exact fun h => ⟨n, h, by simp [eqV]⟩
theorem in_ints_l (n : Int) (l : List Int) : inD (.int n) (.lst (l.map D.int)) = .ok (.bl (decide (n ∈ l))) := by
  unfold inD
  rw [show Orn.flat (.int n) = some (.int n) from rfl, show flatsOf (.lst (l.map D.int)) = some (l.map V.int) from flats_ints l]
  dsimp only
  rw [inV_ints]
theorem in_ints_t (n : Int) (l : List Int) : inD (.int n) (.tup (l.map D.int)) = .ok (.bl (decide (n ∈ l))) := by
  unfold inD
  rw [show Orn.flat (.int n) = some (.int n) from rfl, show flatsOf (.tup (l.map D.int)) = some (l.map V.int) from flats_ints l]
  dsimp only
  rw [inV_ints]
def posT (kept : List Int) (n : Int) : Nat := 2 * (kept.filter fun x => decide (x < n)).length + (if n ∈ kept then 1 else 0)
/-- a list or tuple of numbers -/
def isInts (d : D) (l : List Int) : Prop := d = .lst (l.map D.int) ∨ d = .tup (l.map D.int)
theorem isInts.items {d : D} {l : List Int} (h : isInts d l) : itemsD d = some (l.map D.int) := by rcases h with rfl | rfl <;> rfl
theorem isInts.mem {d : D} {l : List Int} (h : isInts d l) (n : Int) : inD (.int n) d = .ok (.bl (decide (n ∈ l))) := by
  rcases h with rfl | rfl
  · exact in_ints_l n l
  · exact in_ints_t n l
def posL (kept : List Int) (n : Int) : Nat := (kept.map fun x => (if x < n then 2 else 0) + (if x = n then 1 else 0)).sum
theorem posL_eq (n : Int) : ∀ (kept : List Int), kept.Pairwise (· < ·) → posL kept n = posT kept n
  | [], _ => by simp [posL, posT]
  | x :: l, h => by
    have ih := posL_eq n l (List.pairwise_cons.mp h).2
    have hx := (List.pairwise_cons.mp h).1
    unfold posL posT at ih ⊢
    rw [List.map_cons, List.sum_cons, ih]
    by_cases h1 : x < n
    · rw [List.filter_cons_of_pos (by simpa using h1), List.length_cons, if_pos h1, if_neg (show ¬ x = n by omega)]
      by_cases h2 : n ∈ l
      · rw [if_pos h2, if_pos (List.mem_cons_of_mem _ h2)]
        omega
      · rw [if_neg h2, if_neg (by
          intro z
          rcases List.mem_cons.mp z with z | z
          · omega
          · exact h2 z)]
        omega
    · rw [List.filter_cons_of_neg (by simpa using h1), if_neg h1]
      by_cases h3 : x = n
      · have h2 : n ∉ l := fun z => by have := hx n z; omega
        have h4 : l.filter (fun x => decide (x < n)) = [] := by
          rw [List.filter_eq_nil_iff]
          intro a ha
          have := hx a ha
          simp
          omega
        rw [if_pos h3, if_neg h2, if_pos (by rw [h3]; exact List.mem_cons_self), h4]
        simp
      · have h2 : n ∉ l := fun z => by have := hx n z; omega
        rw [if_neg h3, if_neg h2, if_neg (by
          intro z
          rcases List.mem_cons.mp z with z | z
          · exact h3 z.symm
          · exact h2 z)]
        omega
/-! candidates -/
def candT (kept : List Int) (n : Int) : List Int := iset (kept ++ [n])
theorem candT_asc (kept : List Int) (n : Int) : (candT kept n).Pairwise (· < ·) := iset_asc _
theorem candT_mem (kept : List Int) (n k : Int) : k ∈ candT kept n ↔ k ∈ kept ∨ k = n := by
  unfold candT
  rw [iset_mem]
  simp
theorem candT_in {kept : List Int} {n : Int} (ha : kept.Pairwise (· < ·)) (h : n ∈ kept) : candT kept n = kept := by
  refine asc_eq (candT_asc _ _) ha fun k => ?_
  rw [candT_mem]
  constructor
  · rintro (h1 | rfl)
    · exact h1
    · exact h
  · exact .inl
theorem candT_out {kept : List Int} {n : Int} (ha : kept.Pairwise (· < ·)) (h : n ∉ kept) : candT kept n = isort (kept ++ [n]) := by
  have hp := isort_perm (kept ++ [n])
  have hn : (kept ++ [n]).Nodup := by
    rw [List.nodup_append]
    refine ⟨ha.imp fun h => by omega, by simp, ?_⟩
    intro a ha' b hb
    rw [List.mem_singleton] at hb
    subst hb
    exact fun z => h (z ▸ ha')
  have hs : (isort (kept ++ [n])).Pairwise (· < ·) := by
    have h1 := isort_sorted (kept ++ [n])
    have h2 : (isort (kept ++ [n])).Nodup := hp.nodup_iff.mpr hn
    exact (h1.and h2).imp fun h => by
      have := h.2
      omega
  refine asc_eq (candT_asc _ _) hs fun k => ?_
  rw [candT_mem, hp.mem_iff]
  simp
theorem candT_len {kept : List Int} {n : Int} (ha : kept.Pairwise (· < ·)) : (candT kept n).length = kept.length + (if n ∈ kept then 0 else 1) := by
  by_cases h : n ∈ kept
  · rw [candT_in ha h, if_pos h]; rfl
  · rw [candT_out ha h, if_neg h, (isort_perm _).length_eq, List.length_append]; rfl
theorem posT_odd (kept : List Int) (n : Int) : posT kept n % 2 = if n ∈ kept then 1 else 0 := by
  unfold posT
  split <;> omega
theorem posT_le (kept : List Int) (n : Int) : posT kept n ≤ 2 * kept.length := by
  unfold posT
  have h1 := List.length_filter_le (fun x => decide (x < n)) kept
  split
  · rename_i h
    have : (kept.filter fun x => decide (x < n)).length < kept.length := by
      refine Nat.lt_of_le_of_ne h1 fun z => ?_
      have := List.length_filter_eq_length_iff.mp z n h
      simp at this
    omega
  · omega
theorem candT_cnt {kept : List Int} {n : Int} (ha : kept.Pairwise (· < ·)) : (candT kept n).length = cnt kept.length (posT kept n) := by
  rw [candT_len ha]
  unfold cnt
  rw [posT_odd]
  split <;> omega
abbrev Cf := Nat × List Int
abbrev Ms := Nat × Int
def eCf (c : Cf) : D := .tup [.int c.1, .tup (c.2.map D.int)]
def nmOf (names : List Str) (k : Nat) : Str := names.getD k ⟨#[]⟩
def eMs (names : List Str) (m : Ms) : D := .tup [.str (nmOf names m.1), .int m.2]
def eW (w : Nat × Str × Int) : D := .tup [.int w.1, .str w.2.1, .int w.2.2]
def eProg (p : Pa) : D := .obj "Program" [("names", .tup (p.names.map D.str)), ("outputs", .tup (p.outs.map eOut)), ("states", .tup (p.sts.map eSt)), ("rules", .tup (p.rules.map eRow))]
def isMs (names : List Str) (d : D) (m : Ms) : Prop := d = .tup [.str (nmOf names m.1), .int m.2] ∨ d = .lst [.str (nmOf names m.1), .int m.2]
def isCf (d : D) (c : Cf) : Prop := ∃ k, isInts k c.2 ∧ (d = .tup [.int c.1, k] ∨ d = .lst [.int c.1, k])
theorem isCf_e (c : Cf) : isCf (eCf c) c := ⟨_, .inr rfl, .inl rfl⟩
theorem isMs_e (names : List Str) (m : Ms) : isMs names (eMs names m) m := .inl rfl
def ruleAt (p : Pa) (s k q : Nat) : Ru := (((((p.rules[s]?).getD [])[k]?).getD [])[q]?).getD ⟨0, [], []⟩
def stepT (p : Pa) (c : Cf) (m : Ms) : Cf × List (Nat × Str × Int) :=
  (((ruleAt p c.1 m.1 (posT c.2 m.2)).tgt, (ruleAt p c.1 m.1 (posT c.2 m.2)).src.map fun i => (candT c.2 m.2).getD i 0),
    (ruleAt p c.1 m.1 (posT c.2 m.2)).wr.map fun w => (w.1, w.2.1, (candT c.2 m.2).getD w.2.2 0))
def okCf (p : Pa) (c : Cf) : Prop := ∃ st, p.sts[c.1]? = some st ∧ c.2.length = st.2 ∧ c.2.Pairwise (· < ·)
theorem ruleAt_ok {p : Pa} (h : okPa p) {s k q : Nat} {st : Str × Nat} (hs : p.sts[s]? = some st) (hk : k < p.names.length) (hq : q ≤ 2 * st.2) :
    ∃ rw line, p.rules[s]? = some rw ∧ rw[k]? = some line ∧ line[q]? = some (ruleAt p s k q) ∧ okRu p.sts p.outs (cnt st.2 q) (ruleAt p s k q) := by
  have hsl : s < p.rules.length := by
    rw [h.len]
    exact (List.getElem?_eq_some_iff.mp hs).1
  have h1 := List.getElem?_eq_getElem hsl
  obtain ⟨st', hs', hr1, hr2⟩ := h.rules s _ h1
  rw [hs] at hs'
  have hs' := Option.some.inj hs'
  subst hs'
  have hkl : k < (p.rules[s]).length := by rw [hr1]; exact hk
  have h2 := List.getElem?_eq_getElem hkl
  obtain ⟨hl1, hl2⟩ := hr2 _ (List.getElem_mem hkl)
  have hql : q < ((p.rules[s])[k]).length := by rw [hl1]; omega
  have h3 := List.getElem?_eq_getElem hql
  have e : ruleAt p s k q = ((p.rules[s])[k])[q] := by
    unfold ruleAt
    rw [h1, Option.getD_some, h2, Option.getD_some, h3, Option.getD_some]
  exact ⟨_, _, h1, h2, by rw [e]; exact h3, by rw [e]; exact hl2 q _ h3⟩
theorem okCf.few {p : Pa} (h : okPa p) {c : Cf} (hc : okCf p c) : c.2.length ≤ 4 := by
  obtain ⟨st, h1, h2, _⟩ := hc
  rw [h2]
  exact h.kept st (List.mem_of_getElem? h1)
theorem getD_at {α : Type} {l : List α} {k : Nat} {d : α} (h : k < l.length) : l.getD k d = l[k] := by
  rw [List.getD_eq_getElem?_getD, List.getElem?_eq_getElem h, Option.getD_some]
theorem stepT_ok {p : Pa} (h : okPa p) {c : Cf} (hc : okCf p c) {m : Ms} (hm : m.1 < p.names.length) : okCf p (stepT p c m).1 := by
  obtain ⟨st, h1, h2, h3⟩ := hc
  obtain ⟨rw, line, _, _, _, hr⟩ := ruleAt_ok h h1 hm (q := posT c.2 m.2) (by rw [← h2]; exact posT_le _ _)
  obtain ⟨st', g1, g2⟩ := hr.st
  refine ⟨st', g1, by rw [← g2]; unfold stepT; rw [List.length_map], ?_⟩
  unfold stepT
  rw [List.pairwise_map]
  refine List.Pairwise.imp_of_mem (fun {a b} ha hb hab => ?_) hr.asc
  have hl : (candT c.2 m.2).length = cnt st.2 (posT c.2 m.2) := by rw [candT_cnt h3, h2]
  have ha' := hr.lt a ha
  have hb' := hr.lt b hb
  rw [← hl] at ha' hb'
  rw [getD_at ha', getD_at hb']
  exact List.pairwise_iff_getElem.mp (candT_asc c.2 m.2) a b ha' hb' hab
theorem startT_ok {p : Pa} (h : okPa p) : okCf p (0, []) := by
  obtain ⟨nm, e⟩ := h.first
  exact ⟨_, e, rfl, List.Pairwise.nil⟩
/-! the words of the mirrors that a step needs -/
theorem unpF_ok {t : Tg} {fa : En → Rs D} {env e1 : En} {d : D} (ha : fa env = .ok d) (ht : t.put d env = .ok e1) : unpF t fa env = .ok (.next e1) := by
  unfold unpF withE
  rw [ha]
  dsimp only
  rw [ht]
theorem strsOf_map : ∀ l : List Str, strsOf (l.map D.str) = some l
  | [] => rfl
  | x :: l => by rw [List.map_cons, strsOf, strsOf_map l]; rfl
theorem intsOf_m : ∀ l : List Int, intsOf (l.map D.int) = some l
  | [] => rfl
  | x :: l => by rw [List.map_cons, intsOf, intsOf_m l]; rfl
theorem placeOf_at : ∀ (l : List Str) (k : Nat), l.Nodup → k < l.length → placeOf (nmOf l k) l = some k
  | [], k, _, h => by cases h
  | x :: l, 0, _, _ => by
    unfold placeOf
    rw [if_pos (show x = nmOf (x :: l) 0 from rfl)]
  | x :: l, k + 1, hn, h => by
    have hk : k < l.length := by simpa using h
    have ih := placeOf_at l k (List.nodup_cons.mp hn).2 hk
    have e : nmOf (x :: l) (k + 1) = nmOf l k := rfl
    have ne : x ≠ nmOf l k := by
      intro z
      refine (List.nodup_cons.mp hn).1 ?_
      rw [z]
      unfold nmOf
      rw [getD_at hk]
      exact List.getElem_mem hk
    rw [e]
    unfold placeOf
    rw [if_neg ne, ih]
    rfl
theorem index_ok {l : List Str} {k : Nat} (hn : l.Nodup) (hk : k < l.length) : indexD (.tup (l.map D.str)) (.str (nmOf l k)) = .ok (.int k) := by
  unfold indexD
  dsimp only
  rw [strsOf_map]
  dsimp only
  rw [placeOf_at l k hn hk]
theorem op1_of {g : D → Rs D} {fa : En → Rs D} {env : En} {a : D} {r : Rs D} (ha : fa env = .ok a) (h : g a = r) : op1 g fa env = r := by rw [op1_ok ha, h]
theorem op2_of {g : D → D → Rs D} {fa fb : En → Rs D} {env : En} {a b : D} {r : Rs D} (ha : fa env = .ok a) (hb : fb env = .ok b) (h : g a b = r) : op2 g fa fb env = r := by rw [op2_ok ha hb, h]
theorem idx_tS {α : Type} (f : α → D) {l : List α} {k : Nat} {a : α} (h : l[k]? = some a) : idxD (.tup (l.map f)) (.int (k : Int)) = .ok (f a) := idx_t f l k a (by omega) (by rw [Int.toNat_natCast, h])
theorem idx_lS {α : Type} (f : α → D) {l : List α} {k : Nat} {a : α} (h : l[k]? = some a) : idxD (.lst (l.map f)) (.int (k : Int)) = .ok (f a) := idx_l f l k a (by omega) (by rw [Int.toNat_natCast, h])
theorem comp_nats {env : En} {t : Tg} {fe : En → Rs D} {l : List Nat} {f : Nat → Int} (h : ∀ k ∈ l, ∃ e1, t.put (eI k) env = .ok e1 ∧ fe e1 = .ok (.int (f k))) : compL t yesF fe env (l.map eI) = .ok ((l.map f).map D.int) := by
  rw [comp_yes eI (fun k => D.int (f k)) l h, List.map_map]
  rfl
theorem nodup_inj {α : Type} {l : List α} (hn : l.Nodup) {i j : Nat} (hi : i < l.length) (hj : j < l.length) (e : l[i] = l[j]) : i = j := by
  have hp := List.pairwise_iff_getElem.mp hn
  rcases Nat.lt_trichotomy i j with h | h | h
  · exact absurd e (hp i j hi hj h)
  · exact h
  · exact absurd e.symm (hp j i hj hi h)
theorem index_first (l : List Str) (k : Nat) (hn : l.Nodup) (hk : k < l.length) : ∃ r, ((List.range l.length).filter fun j => decide (nmOf l j = nmOf l k)) = k :: r := by
  have h1 : ∀ j, j < l.length → (nmOf l j = nmOf l k ↔ j = k) := fun j hj => by
    unfold nmOf
    rw [getD_at hj, getD_at hk]
    exact ⟨fun e => nodup_inj hn hj hk e, fun e => by subst e; rfl⟩
  have h2 : ((List.range l.length).filter fun j => decide (nmOf l j = nmOf l k)) = (List.range l.length).filter fun j => decide (j = k) := by
    refine List.filter_congr fun j hj => ?_
    rw [List.mem_range] at hj
    exact decide_eq_decide.mpr (h1 j hj)
  rw [h2]
  have h3 : k ∈ (List.range l.length).filter fun j => decide (j = k) := List.mem_filter.mpr ⟨List.mem_range.mpr hk, by simp⟩
  cases hq : (List.range l.length).filter fun j => decide (j = k) with
  | nil => rw [hq] at h3; cases h3
  | cons a r =>
    have : a ∈ (List.range l.length).filter fun j => decide (j = k) := by rw [hq]; exact List.mem_cons_self
    have := (List.mem_filter.mp this).2
    simp at this
    rw [this]
    exact ⟨r, rfl⟩
theorem notIn_ints_l (n : Int) (l : List Int) : notInD (.int n) (.lst (l.map D.int)) = .ok (.bl (!decide (n ∈ l))) := by
  unfold notInD notR
  rw [in_ints_l]
  rfl
/-! ### runs -/
abbrev Rec := List (List (Str × Int))
def eSg (s : Str × Int) : D := .tup [.str s.1, .int s.2]
def eRec (r : Rec) : D := .lst (r.map fun l => .lst (l.map eSg))
def addW (r : Rec) (w : Nat × Str × Int) : Rec := r.set w.1 (r.getD w.1 [] ++ [(w.2.1, w.2.2)])
def nextT (p : Pa) (s : Cf × Rec) (m : Ms) : Cf × Rec := ((stepT p s.1 m).1, (stepT p s.1 m).2.foldl addW s.2)
def runT (p : Pa) (ms : List Ms) : Cf × Rec := ms.foldl (nextT p) ((0, []), p.outs.map fun _ => [])
def llOf (r : Rec) : List (List D) := r.map fun l => l.map eSg
theorem appLL_ok {i : Nat} {f1 f2 : En → Rs D} {env : En} {r : Rec} {w : Nat × Str × Int} (h : env[i]? = some (some (.ll (llOf r)))) (h1 : f1 env = .ok (.int w.1)) (h2 : f2 env = .ok (eSg (w.2.1, w.2.2))) (hw : w.1 < r.length) (hl : ∀ l ∈ r, l.length < SL) :
    appLLF i f1 f2 env = .ok (.next (env.set i (some (.ll (llOf (addW r w)))))) := by
  unfold appLLF withLL
  rw [h]
  dsimp only
  unfold withE
  rw [h1]
  dsimp only
  have hx : ixN (llOf r).length (w.1 : Int) = some w.1 := by
    unfold ixN llOf
    rw [if_pos (by omega), if_pos (by rw [List.length_map]; omega)]
    rfl
  rw [hx]
  dsimp only
  rw [h2]
  dsimp only
  have hg : (llOf r)[w.1]? = some ((r[w.1]).map eSg) := by
    unfold llOf
    rw [List.getElem?_map, List.getElem?_eq_getElem hw]
    rfl
  rw [hg]
  dsimp only
  rw [if_pos (by rw [List.length_map]; exact hl _ (List.getElem_mem hw))]
  unfold addW llOf
  rw [List.map_set, List.map_append, getD_at hw]
  rfl
def smallRec (r : Rec) (b : Nat) : Prop := ∀ l ∈ r, l.length ≤ b
theorem addW_len (r : Rec) (w : Nat × Str × Int) : (addW r w).length = r.length := by unfold addW; rw [List.length_set]
theorem addW_small {r : Rec} {b : Nat} (h : smallRec r b) (w : Nat × Str × Int) : smallRec (addW r w) (b + 1) := fun l hl => by
  unfold addW at hl
  rcases List.mem_or_eq_of_mem_set hl with q | q
  · exact Nat.le_succ_of_le (h l q)
  · rw [q, List.length_append]
    by_cases hw : w.1 < r.length
    · rw [getD_at hw]
      have := h _ (List.getElem_mem hw)
      simp
      omega
    · rw [List.getD_eq_getElem?_getD, List.getElem?_eq_none (by omega)]
      simp
theorem foldW_len (ws : List (Nat × Str × Int)) : ∀ r : Rec, (ws.foldl addW r).length = r.length := by
  induction ws with
  | nil => intro r; rfl
  | cons w ws ih => intro r; rw [List.foldl_cons, ih, addW_len]
theorem foldW_small (ws : List (Nat × Str × Int)) : ∀ {r : Rec} {b : Nat}, smallRec r b → smallRec (ws.foldl addW r) (b + ws.length) := by
  induction ws with
  | nil => intro r b h; exact h
  | cons w ws ih =>
    intro r b h
    rw [List.foldl_cons, List.length_cons, show b + (ws.length + 1) = b + 1 + ws.length by omega]
    exact ih (addW_small h w)
/-- the loop that writes -/
theorem write_loop {t : D → En → Rs En} {g : En → Rs Fl} {F : Option T → Option T → Option T → Rec → En}
    (hg : ∀ (w : Nat × Str × Int) (a b c : Option T) (r : Rec), w.1 < r.length → (∀ l ∈ r, l.length < SL) → ∃ e1 a' b' c', t (eW w) (F a b c r) = .ok e1 ∧ g e1 = .ok (.next (F a' b' c' (addW r w)))) :
    ∀ (l : List (Nat × Str × Int)) (a b c : Option T) (r : Rec) (k : Nat), (∀ w ∈ l, w.1 < r.length) → smallRec r k → k + l.length < SL →
      ∃ a' b' c', loopF t g (l.map eW) (F a b c r) = .ok (.next (F a' b' c' (l.foldl addW r)))
  | [], a, b, c, r, k, _, _, _ => ⟨a, b, c, rfl⟩
  | w :: l, a, b, c, r, k, hw, hs, hk => by
    rw [List.length_cons] at hk
    obtain ⟨e1, a', b', c', h1, h2⟩ := hg w a b c r (hw w List.mem_cons_self) (fun x hx => by have := hs x hx; omega)
    obtain ⟨a2, b2, c2, h3⟩ := write_loop hg l a' b' c' (addW r w) (k + 1) (fun x hx => by rw [addW_len]; exact hw x (List.mem_cons_of_mem _ hx)) (addW_small hs w) (by omega)
    refine ⟨a2, b2, c2, ?_⟩
    rw [List.map_cons]
    unfold loopF
    rw [h1]
    dsimp only
    rw [seqS_ok h2, List.foldl_cons]
    exact h3
def isMss (names : List Str) (ds : List D) (ms : List Ms) : Prop := ds.length = ms.length ∧ ∀ (i : Nat) (d : D) (m : Ms), ds[i]? = some d → ms[i]? = some m → isMs names d m
theorem isMss_e (names : List Str) (ms : List Ms) : isMss names (ms.map (eMs names)) ms := by
  refine ⟨by simp, fun i d m h1 h2 => ?_⟩
  rw [List.getElem?_map, h2] at h1
  have h1 := (Option.some.inj h1).symm
  subst h1
  exact isMs_e _ _
theorem llOf_frz (r : Rec) : D.lst ((llOf r).map D.lst) = eRec r := by
  unfold llOf eRec
  rw [List.map_map]
  rfl
theorem frz_ok {g : En → Rs Fl} {env : En} {i : Nat} {r : Rec} {q : Rs Fl} (h : env[i]? = some (some (.ll (llOf r)))) (h2 : g (env.set i (some (.d (eRec r)))) = q) : seqS (frzLLS i) g env = q := by
  unfold seqS frzLLS
  rw [h]
  dsimp only
  rw [Rs.bind_ok, llOf_frz]
  exact h2
theorem setLL_ok {g : En → Rs Fl} {fa : En → Rs D} {env : En} {i : Nat} {vs : List Nat} {outs : List (Str × List Str)} {q : Rs Fl} (ha : fa env = .ok (.tup (outs.map eOut))) (hn : noL env vs = true) (hl : noLL env = true) (hs : outs.length ≤ SL)
    (h2 : g (env.set i (some (.ll (llOf (outs.map fun _ => ([] : List (Str × Int))))))) = q) : seqS (setLLF i vs fa) g env = q := by
  unfold seqS setLLF withE
  rw [ha]
  dsimp only
  rw [show itemsD (.tup (outs.map eOut)) = some (outs.map eOut) from rfl]
  dsimp only
  rw [if_pos ⟨hn, hl, by rw [List.length_map]; exact hs⟩, Rs.bind_ok]
  rw [← h2]
  unfold llOf
  rw [List.map_map, List.map_map]
  rfl
theorem written_lt {p : Pa} (h : okPa p) {c : Cf} (hc : okCf p c) {m : Ms} (hm : m.1 < p.names.length) : (∀ w ∈ (stepT p c m).2, w.1 < p.outs.length) ∧ (stepT p c m).2.length ≤ 4 := by
  obtain ⟨st, h1, h2, h3⟩ := id hc
  have hq : posT c.2 m.2 ≤ 2 * st.2 := by rw [← h2]; exact posT_le _ _
  obtain ⟨rw', line, r1, r2, r3, hr⟩ := ruleAt_ok h h1 hm hq
  refine ⟨fun w hw => ?_, ?_⟩
  · unfold stepT at hw
    obtain ⟨w0, hw0, rfl⟩ := List.mem_map.mp hw
    obtain ⟨o, ho, _⟩ := hr.wr w0 hw0
    exact (List.getElem?_eq_some_iff.mp ho).1
  · unfold stepT
    rw [List.length_map]
    exact hr.few
theorem startRec_len (p : Pa) : (p.outs.map fun _ => ([] : List (Str × Int))).length = p.outs.length := by simp
structure okRun (p : Pa) (s : Cf × Rec) (i : Nat) : Prop where
  cf : okCf p s.1
  len : s.2.length = p.outs.length
  small : smallRec s.2 (4 * i)
theorem okRun.start {p : Pa} (h : okPa p) : okRun p ((0, []), p.outs.map fun _ => []) 0 := ⟨startT_ok h, by simp, fun l hl => by
  obtain ⟨_, _, rfl⟩ := List.mem_map.mp hl
  simp⟩
theorem okRun.next {p : Pa} (h : okPa p) {s : Cf × Rec} {i : Nat} (hs : okRun p s i) {m : Ms} (hm : m.1 < p.names.length) : okRun p (nextT p s m) (i + 1) := by
  obtain ⟨h1, h2⟩ := written_lt h hs.cf hm
  refine ⟨stepT_ok h hs.cf hm, ?_, ?_⟩
  · unfold nextT
    rw [foldW_len]
    exact hs.len
  · unfold nextT
    intro l hl
    have := foldW_small (stepT p s.1 m).2 hs.small l hl
    omega
def stateT (p : Pa) (ms : List Ms) (i : Nat) : Cf × Rec := (ms.take i).foldl (nextT p) ((0, []), p.outs.map fun _ => [])
theorem stateT_succ (p : Pa) {ms : List Ms} {i : Nat} {m : Ms} (h : ms[i]? = some m) : stateT p ms (i + 1) = nextT p (stateT p ms i) m := by
  unfold stateT
  rw [List.take_add_one, h, List.foldl_append]
  rfl
theorem stateT_ok {p : Pa} (h : okPa p) {ms : List Ms} (hm : ∀ m ∈ ms, m.1 < p.names.length) : ∀ i, i ≤ ms.length → okRun p (stateT p ms i) i
  | 0, _ => by unfold stateT; rw [List.take_zero]; exact okRun.start h
  | i + 1, hi => by
    have e : ms[i]? = some ms[i] := List.getElem?_eq_getElem (by omega)
    rw [stateT_succ p e]
    exact (stateT_ok h hm i (by omega)).next h (hm _ (List.getElem_mem (by omega)))
theorem stateT_all (p : Pa) (ms : List Ms) : stateT p ms ms.length = runT p ms := by unfold stateT runT; rw [List.take_length]
theorem runT_ok {p : Pa} (h : okPa p) {ms : List Ms} (hm : ∀ m ∈ ms, m.1 < p.names.length) : okRun p (runT p ms) ms.length := by
  rw [← stateT_all]
  exact stateT_ok h hm _ (Nat.le_refl _)
/-! ### other numbers in the same order -/
def Mono (f : Int → Int) : Prop := ∀ a b, a < b → f a < f b
theorem Mono.lt {f : Int → Int} (h : Mono f) (a b : Int) : f a < f b ↔ a < b := by
  constructor
  · intro q
    rcases Int.lt_trichotomy a b with r | r | r
    · exact r
    · subst r; omega
    · have := h b a r; omega
  · exact h a b
theorem Mono.inj {f : Int → Int} (h : Mono f) {a b : Int} (e : f a = f b) : a = b := by
  rcases Int.lt_trichotomy a b with r | r | r
  · have := h a b r; omega
  · exact r
  · have := h b a r; omega
theorem Mono.mem {f : Int → Int} (h : Mono f) (l : List Int) (n : Int) : f n ∈ l.map f ↔ n ∈ l := by
  rw [List.mem_map]
  constructor
  · rintro ⟨a, ha, e⟩
    exact h.inj e ▸ ha
  · exact fun q => ⟨n, q, rfl⟩
theorem posT_mono {f : Int → Int} (h : Mono f) (l : List Int) (n : Int) : posT (l.map f) (f n) = posT l n := by
  unfold posT
  rw [List.filter_map, List.length_map]
  have e : l.filter ((fun x => decide (x < f n)) ∘ f) = l.filter fun x => decide (x < n) := List.filter_congr fun x _ => decide_eq_decide.mpr (h.lt x n)
  rw [e]
  by_cases q : n ∈ l
  · rw [if_pos q, if_pos ((h.mem l n).mpr q)]
  · rw [if_neg q, if_neg fun z => q ((h.mem l n).mp z)]
theorem candT_mono {f : Int → Int} (h : Mono f) (l : List Int) (n : Int) : candT (l.map f) (f n) = (candT l n).map f := by
  refine asc_eq (candT_asc _ _) ?_ fun k => ?_
  · rw [List.pairwise_map]
    exact (candT_asc l n).imp fun q => h _ _ q
  · rw [candT_mem, List.mem_map, List.mem_map]
    constructor
    · rintro (⟨a, ha, rfl⟩ | rfl)
      · exact ⟨a, (candT_mem l n a).mpr (.inl ha), rfl⟩
      · exact ⟨n, (candT_mem l n n).mpr (.inr rfl), rfl⟩
    · rintro ⟨a, ha, rfl⟩
      rcases (candT_mem l n a).mp ha with q | rfl
      · exact .inl ⟨a, q, rfl⟩
      · exact .inr rfl
def mvC (f : Int → Int) (c : Cf) : Cf := (c.1, c.2.map f)
def mvM (f : Int → Int) (m : Ms) : Ms := (m.1, f m.2)
def mvW (f : Int → Int) (w : Nat × Str × Int) : Nat × Str × Int := (w.1, w.2.1, f w.2.2)
def mvS (f : Int → Int) (s : Str × Int) : Str × Int := (s.1, f s.2)
def mvR (f : Int → Int) (r : Rec) : Rec := r.map fun l => l.map (mvS f)
theorem getD_map {f : Int → Int} {l : List Int} {k : Nat} (hk : k < l.length) : (l.map f).getD k 0 = f (l.getD k 0) := by
  rw [getD_at (by rwa [List.length_map]), getD_at hk, List.getElem_map]
theorem stepT_mono {f : Int → Int} (hf : Mono f) {p : Pa} (h : okPa p) {c : Cf} (hc : okCf p c) {m : Ms} (hm : m.1 < p.names.length) :
    stepT p (mvC f c) (mvM f m) = (mvC f (stepT p c m).1, (stepT p c m).2.map (mvW f)) := by
  obtain ⟨st, h1, h2, h3⟩ := id hc
  have hq : posT c.2 m.2 ≤ 2 * st.2 := by rw [← h2]; exact posT_le _ _
  obtain ⟨rw', line, r1, r2, r3, hr⟩ := ruleAt_ok h h1 hm hq
  have hl : (candT c.2 m.2).length = cnt st.2 (posT c.2 m.2) := by rw [candT_cnt h3, h2]
  unfold stepT mvC mvM
  dsimp only
  rw [posT_mono hf, candT_mono hf]
  refine Prod.ext (Prod.ext rfl ?_) ?_
  · dsimp only
    rw [List.map_map]
    refine List.map_congr_left fun k hk => ?_
    exact getD_map (by rw [hl]; exact hr.lt k hk)
  · dsimp only
    rw [List.map_map]
    refine List.map_congr_left fun w hw => ?_
    obtain ⟨o, _, _, q3⟩ := hr.wr w hw
    show (w.1, w.2.1, _) = (w.1, w.2.1, _)
    rw [getD_map (by rw [hl]; exact q3)]
theorem addW_mono (f : Int → Int) (r : Rec) (w : Nat × Str × Int) : addW (mvR f r) (mvW f w) = mvR f (addW r w) := by
  unfold addW mvR mvW
  rw [List.map_set, List.map_append]
  congr 1
  rw [List.getD_eq_getElem?_getD, List.getD_eq_getElem?_getD, List.getElem?_map]
  cases r[w.1]? <;> rfl
theorem foldW_mono (f : Int → Int) (ws : List (Nat × Str × Int)) : ∀ r : Rec, (ws.map (mvW f)).foldl addW (mvR f r) = mvR f (ws.foldl addW r) := by
  induction ws with
  | nil => intro r; rfl
  | cons w ws ih => intro r; rw [List.map_cons, List.foldl_cons, List.foldl_cons, addW_mono, ih]
theorem stateT_mono {f : Int → Int} (hf : Mono f) {p : Pa} (h : okPa p) {ms : List Ms} (hm : ∀ m ∈ ms, m.1 < p.names.length) : ∀ i, i ≤ ms.length →
    stateT p (ms.map (mvM f)) i = (mvC f (stateT p ms i).1, mvR f (stateT p ms i).2)
  | 0, _ => by
    unfold stateT mvC mvR
    rw [List.take_zero, List.take_zero]
    show ((0, []), p.outs.map fun _ => []) = ((0, []), (p.outs.map fun _ => []).map fun l => l.map (mvS f))
    rw [List.map_map]
    rfl
  | i + 1, hi => by
    have e : ms[i]? = some ms[i] := List.getElem?_eq_getElem (by omega)
    have e2 : (ms.map (mvM f))[i]? = some (mvM f ms[i]) := by rw [List.getElem?_map, e]; rfl
    have hs := stateT_ok h hm i (by omega)
    rw [stateT_succ p e, stateT_succ p e2, stateT_mono hf h hm i (by omega)]
    unfold nextT
    dsimp only
    rw [stepT_mono hf h hs.cf (hm _ (List.getElem_mem (by omega))), foldW_mono]
theorem runT_mono {f : Int → Int} (hf : Mono f) {p : Pa} (h : okPa p) {ms : List Ms} (hm : ∀ m ∈ ms, m.1 < p.names.length) : runT p (ms.map (mvM f)) = (mvC f (runT p ms).1, mvR f (runT p ms).2) := by
  have e := stateT_mono hf h hm ms.length (Nat.le_refl _)
  have e2 := stateT_all p (ms.map (mvM f))
  rw [List.length_map] at e2
  rw [← e2, e, stateT_all]
/-! ### a beginning's record -/
def preR (r r' : Rec) : Prop := r.length = r'.length ∧ ∀ j, r.getD j [] <+: r'.getD j []
theorem preR.refl (r : Rec) : preR r r := ⟨rfl, fun j => List.prefix_refl _⟩
theorem preR.trans {a b c : Rec} (h : preR a b) (h' : preR b c) : preR a c := ⟨h.1.trans h'.1, fun j => (h.2 j).trans (h'.2 j)⟩
theorem addW_pre (r : Rec) (w : Nat × Str × Int) : preR r (addW r w) := by
  refine ⟨(addW_len r w).symm, fun j => ?_⟩
  unfold addW
  rw [List.getD_eq_getElem?_getD, List.getD_eq_getElem?_getD, List.getElem?_set]
  by_cases h : w.1 = j
  · subst h
    rw [if_pos rfl]
    by_cases q : w.1 < r.length
    · rw [if_pos q, Option.getD_some, List.getD_eq_getElem?_getD]
      exact List.prefix_append _ _
    · rw [if_neg q, List.getElem?_eq_none (by omega)]
      exact List.prefix_refl _
  · rw [if_neg h]
    exact List.prefix_refl _
theorem foldW_pre (ws : List (Nat × Str × Int)) : ∀ r : Rec, preR r (ws.foldl addW r) := by
  induction ws with
  | nil => exact preR.refl
  | cons w ws ih => intro r; rw [List.foldl_cons]; exact (addW_pre r w).trans (ih _)
theorem fold_pre (p : Pa) (ms : List Ms) : ∀ s : Cf × Rec, preR s.2 (ms.foldl (nextT p) s).2 := by
  induction ms with
  | nil => intro s; exact preR.refl _
  | cons m ms ih => intro s; rw [List.foldl_cons]; exact (foldW_pre (stepT p s.1 m).2 s.2).trans (ih (nextT p s m))
theorem runT_pre (p : Pa) (ms : List Ms) (k : Nat) : preR (runT p (ms.take k)).2 (runT p ms).2 := by
  have e : runT p ms = (ms.drop k).foldl (nextT p) (runT p (ms.take k)) := by
    unfold runT
    rw [← List.foldl_append, List.take_append_drop]
  rw [e]
  exact fold_pre p _ _
/-! ### what stands in a record -/
def okVal (P : Int → Prop) (r : Rec) : Prop := ∀ l ∈ r, ∀ s ∈ l, okWord s.1 ∧ P s.2
theorem step_vals {P : Int → Prop} {p : Pa} (h : okPa p) {c : Cf} (hc : okCf p c) {m : Ms} (hm : m.1 < p.names.length) (hP : ∀ x ∈ c.2, P x) (hPm : P m.2) :
    (∀ x ∈ (stepT p c m).1.2, P x) ∧ ∀ w ∈ (stepT p c m).2, okWord w.2.1 ∧ P w.2.2 := by
  obtain ⟨st, h1, h2, h3⟩ := id hc
  have hq : posT c.2 m.2 ≤ 2 * st.2 := by rw [← h2]; exact posT_le _ _
  obtain ⟨rw', line, r1, r2, r3, hr⟩ := ruleAt_ok h h1 hm hq
  have hl : (candT c.2 m.2).length = cnt st.2 (posT c.2 m.2) := by rw [candT_cnt h3, h2]
  have hcand : ∀ k, k < cnt st.2 (posT c.2 m.2) → P ((candT c.2 m.2).getD k 0) := fun k hk => by
    rw [← hl] at hk
    rw [getD_at hk]
    rcases (candT_mem c.2 m.2 _).mp (List.getElem_mem hk) with q | q
    · exact hP _ q
    · rw [q]; exact hPm
  unfold stepT
  refine ⟨fun x hx => ?_, fun w hw => ?_⟩
  · obtain ⟨k, hk, rfl⟩ := List.mem_map.mp hx
    exact hcand k (hr.lt k hk)
  · obtain ⟨w0, hw0, rfl⟩ := List.mem_map.mp hw
    obtain ⟨o, q1, q2, q3⟩ := hr.wr w0 hw0
    exact ⟨(h.outsO o (List.mem_of_getElem? q1)).2.2.2.2 _ q2, hcand _ q3⟩
theorem addW_vals {P : Int → Prop} {r : Rec} (h : okVal P r) {w : Nat × Str × Int} (hw : okWord w.2.1 ∧ P w.2.2) : okVal P (addW r w) := fun l hl s hs => by
  unfold addW at hl
  rcases List.mem_or_eq_of_mem_set hl with q | q
  · exact h l q s hs
  · rw [q] at hs
    rcases List.mem_append.mp hs with z | z
    · rw [List.getD_eq_getElem?_getD] at z
      cases e : r[w.1]? with
      | none => rw [e] at z; cases z
      | some l' =>
        rw [e] at z
        exact h l' (List.mem_of_getElem? e) s z
    · rw [List.mem_singleton.mp z]
      exact hw
theorem foldW_vals {P : Int → Prop} (ws : List (Nat × Str × Int)) : ∀ {r : Rec}, okVal P r → (∀ w ∈ ws, okWord w.2.1 ∧ P w.2.2) → okVal P (ws.foldl addW r) := by
  induction ws with
  | nil => intro r h _; exact h
  | cons w ws ih => intro r h hw; rw [List.foldl_cons]; exact ih (addW_vals h (hw w List.mem_cons_self)) fun x hx => hw x (List.mem_cons_of_mem _ hx)
theorem stateT_vals {P : Int → Prop} {p : Pa} (h : okPa p) {ms : List Ms} (hm : ∀ m ∈ ms, m.1 < p.names.length) (hP : ∀ m ∈ ms, P m.2) : ∀ i, i ≤ ms.length → (∀ x ∈ (stateT p ms i).1.2, P x) ∧ okVal P (stateT p ms i).2
  | 0, _ => by
    unfold stateT
    rw [List.take_zero]
    refine ⟨(fun x hx => by cases hx), fun l hl s hs => ?_⟩
    obtain ⟨_, _, rfl⟩ := List.mem_map.mp hl
    cases hs
  | i + 1, hi => by
    have e : ms[i]? = some ms[i] := List.getElem?_eq_getElem (by omega)
    obtain ⟨q1, q2⟩ := stateT_vals h hm hP i (by omega)
    have hs := stateT_ok h hm i (by omega)
    obtain ⟨q3, q4⟩ := step_vals h hs.cf (hm _ (List.getElem_mem (show i < ms.length by omega))) q1 (hP _ (List.getElem_mem (by omega)))
    rw [stateT_succ p e]
    exact ⟨q3, foldW_vals _ q2 q4⟩
theorem runT_vals {P : Int → Prop} {p : Pa} (h : okPa p) {ms : List Ms} (hm : ∀ m ∈ ms, m.1 < p.names.length) (hP : ∀ m ∈ ms, P m.2) : (∀ x ∈ (runT p ms).1.2, P x) ∧ okVal P (runT p ms).2 := by
  rw [← stateT_all]
  exact stateT_vals h hm hP _ (Nat.le_refl _)
/-! ### it can be compared and shown -/
def small (i : Int) : Prop := i.natAbs < 10000000
theorem fi_int {i : Int} (h : small i) : Fi (.int i) 0 1921 := Fi.int (Nat.lt_of_lt_of_le h (Nat.le_trans (show 10000000 ≤ 2 ^ 30 by decide) (Nat.pow_le_pow_right (by omega) (by omega))))
theorem fi_ints {l : List Int} (h : ∀ x ∈ l, small x) (hl : l.length ≤ 4) : Fi (.tup (l.map D.int)) 1 8000 :=
  (Fi.tup (k := 0) (n := 1921) fun x hx => by
    obtain ⟨i, hi, rfl⟩ := List.mem_map.mp hx
    exact fi_int (h i hi)).mono (by omega) (by
    have : (l.map D.int).length * (1921 + 2) ≤ 4 * (1921 + 2) := Nat.mul_le_mul_right _ (by simpa using hl)
    omega)
theorem fi_cf {c : Cf} (h1 : c.1 ≤ 20) (h : ∀ x ∈ c.2, small x) (hl : c.2.length ≤ 4) : Fi (eCf c) 2 17000 :=
  (Fi.tup (k := 1) (n := 8000) fun x hx => by
    simp only [List.mem_cons, List.not_mem_nil, or_false] at hx
    rcases hx with rfl | rfl
    · exact (fi_int (show ((c.1 : Int)).natAbs < 10000000 by omega)).mono (by omega) (by omega)
    · exact fi_ints h hl).mono (by omega) (by simp)
theorem fi_pair {w : Str} {i : Int} (hw : okWord w) (h : small i) : Fi (.tup [.str w, .int i]) 1 3900 :=
  (Fi.tup (k := 0) (n := 1921) fun x hx => by
    simp only [List.mem_cons, List.not_mem_nil, or_false] at hx
    rcases hx with rfl | rfl
    · exact (Fi.word hw).mono (by omega) (by omega)
    · exact fi_int h).mono (by omega) (by simp)
theorem fi_sgs {l : List (Str × Int)} (h : ∀ s ∈ l, okWord s.1 ∧ small s.2) {b : Nat} (hl : l.length ≤ b) : Fi (.lst (l.map eSg)) 2 (b * 3902 + 3) :=
  (Fi.lst (k := 1) (n := 3900) fun x hx => by
    obtain ⟨s, hs, rfl⟩ := List.mem_map.mp hx
    exact fi_pair (h s hs).1 (h s hs).2).mono (by omega) (by
    have : (l.map eSg).length * (3900 + 2) ≤ b * (3900 + 2) := Nat.mul_le_mul_right _ (by simpa using hl)
    omega)
theorem fi_rec {r : Rec} (h : okVal small r) {b : Nat} (hs : smallRec r b) (h3 : r.length ≤ 3) : Fi (eRec r) 3 (3 * (b * 3902 + 5) + 3) :=
  (Fi.lst (k := 2) (n := b * 3902 + 3) fun x hx => by
    obtain ⟨l, hl, rfl⟩ := List.mem_map.mp hx
    exact fi_sgs (h l hl) (hs l hl)).mono (by omega) (by
    have : (r.map fun l => D.lst (l.map eSg)).length * (b * 3902 + 3 + 2) ≤ 3 * (b * 3902 + 3 + 2) := Nat.mul_le_mul_right _ (by simpa using h3)
    omega)
def msOf (len : Nat) (n : Int) : Ms := ((n % (len : Int)).toNat, n / 4 % 9 - 4)
theorem msOf_lt {len : Nat} (h : 1 ≤ len) (n : Int) : (msOf len n).1 < len := by
  have h1 : 0 ≤ n % (len : Int) := Int.emod_nonneg _ (by omega)
  have h2 : n % (len : Int) < len := Int.emod_lt_of_pos _ (by omega)
  show (n % (len : Int)).toNat < len
  omega
theorem msOf_small (len : Nat) (n : Int) : small (msOf len n).2 := by
  show (n / 4 % 9 - 4).natAbs < 10000000
  omega
def movedT (n : Int) : Int := 3 * n + (if 0 < n then 1 else 0) * 70000 - 5
theorem moved_mono : Mono movedT := fun a b h => by
  unfold movedT
  split <;> split <;> omega
theorem moved_small {n : Int} (h : n.natAbs < 100000) : small (movedT n) := by
  unfold small movedT
  split <;> omega
theorem tor_f {fa fb : En → Rs Bool} {env : En} (ha : fa env = .ok false) (hb : fb env = .ok false) : tor fa fb env = .ok false := by
  unfold tor
  rw [ha, Rs.bind_ok, if_neg (by decide), hb]
theorem skipS {t : En → Rs Bool} {g k : En → Rs Fl} {env : En} {r : Rs Fl} (h : t env = .ok false) (h2 : k env = r) : seqS (ifS t g nilS) k env = r :=
  (seqS_ok ((ifS_f h).trans rfl)).trans h2
/-- two equal things are not unequal -/
theorem ne_same {fa fb : En → Rs D} {env : En} {d : D} {k n : Nat} (ha : fa env = .ok d) (hb : fb env = .ok d) (hk : k ≤ 64) (h : Fi d k n) : tcmp neD fa fb env = .ok false := tcmp_ok ha hb (neD_refl hk h)
theorem ne_repr {fa fb : En → Rs D} {env : En} {d : D} {k n : Nat} (ha : fa env = .ok d) (hb : fb env = .ok d) (hk : k ≤ 64) (hn : n ≤ SL) (h : Fi d k n) (hc : isCon d = true) : tcmp neD (op1 reprD fa) (op1 reprD fb) env = .ok false := by
  obtain ⟨z, hz⟩ := reprD_ok hk hn h hc
  refine tcmp_ok (op1_of ha hz) (op1_of hb hz) ?_
  unfold neD notR
  rw [eq_ss, decide_eq_true rfl]
  rfl
theorem fi_msgs {names : List Str} {ms : List Ms} (hw : ∀ w ∈ names, okWord w) (h1 : ∀ m ∈ ms, m.1 < names.length) (h2 : ∀ m ∈ ms, small m.2) {b : Nat} (hl : ms.length ≤ b) : Fi (.lst (ms.map (eMs names))) 2 (b * 3902 + 3) :=
  (Fi.lst (k := 1) (n := 3900) fun x hx => by
    obtain ⟨m, hm, rfl⟩ := List.mem_map.mp hx
    have h := h1 m hm
    refine fi_pair ?_ (h2 m hm)
    unfold nmOf
    rw [getD_at h]
    exact hw _ (List.getElem_mem h)).mono (by omega) (by
    have : (ms.map (eMs names)).length * (3900 + 2) ≤ b * (3900 + 2) := Nat.mul_le_mul_right _ (by simpa using hl)
    omega)
theorem fi_run {p : Pa} (h : okPa p) {ms : List Ms} (hm : ∀ m ∈ ms, m.1 < p.names.length) (hP : ∀ m ∈ ms, small m.2) (hl : ms.length ≤ 100) :
    Fi (eCf (runT p ms).1) 2 17000 ∧ Fi (eRec (runT p ms).2) 3 5000000 := by
  have hr := runT_ok h hm
  obtain ⟨v1, v2⟩ := runT_vals h hm hP
  have h20 : (runT p ms).1.1 ≤ 20 := by
    obtain ⟨st, e, _⟩ := hr.cf
    have := (List.getElem?_eq_some_iff.mp e).1
    have := h.few
    omega
  refine ⟨fi_cf h20 v1 (hr.cf.few h), (fi_rec (b := 400) v2 (fun l hl' => by have := hr.small l hl'; omega) (by rw [hr.len]; exact h.outs3)).mono (by omega) (by omega)⟩
theorem script_cut (ns : List Int) : cutD (ns.map D.int) (some 4) (some 39) = ((ns.drop 4).take 35).map D.int := by
  have := cut_lr ns 4 39
  exact this
theorem sliceF_of {g : Option Int → Option Int → D → Rs D} {fe : En → Rs D} {fl fh : En → Rs (Option Int)} {env : En} {x : D} {l h : Option Int} {r : Rs D} (h1 : fe env = .ok x) (h2 : fl env = .ok l) (h3 : fh env = .ok h) (h4 : g l h x = r) : sliceF g fe fl fh env = r := by
  unfold sliceF
  rw [h1, Rs.bind_ok, h2, Rs.bind_ok, h3, Rs.bind_ok, h4]
theorem someF_of {fa : En → Rs D} {env : En} {i : Int} (h : fa env = .ok (.int i)) : someF fa env = .ok (some i) := by
  unfold someF
  rw [h, Rs.bind_ok]
end Orn

set_option linter.all false
set_option maxRecDepth 100000
set_option maxHeartbeats 1000000
namespace Orn
open L2 PySem PySem.Spec PyProof.Rows
/-! ### items -/
def it4 (a b r : Str) : D := .tup [.str "order", .str a, .str b, .str r]
def it2 (a : Str) : D := .tup [.str "once", .str a]
def rels : List Str := ["less", "equal", "greater"]
def itsK (ns : List Str) (k : Nat) : List D := match ns[k]? with
  | some n => it4 n n "less" :: (ns.drop (k + 1)).flatMap fun o => rels.map (it4 n o)
  | none => []
def itsN (ns : List Str) (m : Nat) : List D := (List.range m).flatMap (itsK ns)
def every (ns : List Str) : List D := itsN ns ns.length ++ ns.map it2
theorem rels_len (ns : List Str) (n : Str) : ((ns.flatMap fun o => rels.map (it4 n o)).length) = 3 * ns.length := by
  induction ns with
  | nil => rfl
  | cons x xs ih =>
    rw [List.flatMap_cons, List.length_append, ih, List.length_map, List.length_cons]
    show 3 + _ = _
    omega
theorem itsK_len (ns : List Str) (k : Nat) : (itsK ns k).length ≤ 1 + 3 * ns.length := by
  unfold itsK
  split
  · rw [List.length_cons, rels_len, List.length_drop]
    omega
  · simp
theorem itsN_succ (ns : List Str) (m : Nat) : itsN ns (m + 1) = itsN ns m ++ itsK ns m := by
  unfold itsN
  rw [List.range_succ, List.flatMap_append]
  simp
theorem itsN_len (ns : List Str) (m : Nat) : (itsN ns m).length ≤ m * (1 + 3 * ns.length) := by
  induction m with
  | zero => simp [itsN]
  | succ m ih =>
    rw [itsN_succ, List.length_append, Nat.succ_mul]
    have := itsK_len ns m
    omega
theorem loopF_cons {t : D → En → Rs En} {g : En → Rs Fl} {x : D} {xs : List D} {env e1 e2 : En} (h1 : t x env = .ok e1) (h2 : g e1 = .ok (.next e2)) : loopF t g (x :: xs) env = loopF t g xs e2 := by
  rw [loopF]
  rw [h1]
  exact seqS_ok h2
theorem items1 (ns : List Str) (n o : Str) (k : Nat) (hk : ns[k]? = some n) (xs : List D) (hx : xs.length + 3 < SL) (r4 x5 : Option T) :
    b_law_items_1 [some (.d (.lst (ns.map D.str))), some (.l xs), some (.d (.int k)), some (.d (.str o)), r4, x5] = .ok (.next [some (.d (.lst (ns.map D.str))), some (.l (xs ++ rels.map (it4 n o))), some (.d (.int k)), some (.d (.str o)), some (.d (.str "greater")), x5]) := by
  have one : ∀ (r : Str) (xs : List D) (r4 : Option T), xs.length < SL → b_law_items_0 [some (.d (.lst (ns.map D.str))), some (.l xs), some (.d (.int k)), some (.d (.str o)), some (.d (.str r)), x5] = .ok (.next [some (.d (.lst (ns.map D.str))), some (.l (xs ++ [it4 n o r])), some (.d (.int k)), some (.d (.str o)), some (.d (.str r)), x5]) := fun r xs r4 hl => by
    unfold b_law_items_0
    have h := appF_ok (i := 1) (fa := tupF (consA (cF (.str "order")) (consA (op2 idxD (varF 0) (varF 2)) (consA (varF 3) (consA (varF 4) (nilA)))))) (env := [some (.d (.lst (ns.map D.str))), some (.l xs), some (.d (.int k)), some (.d (.str o)), some (.d (.str r)), x5]) (xs := xs) (d := it4 n o r) rfl
      (tupF_ok (ds := [.str "order", .str n, .str o, .str r]) (consA_ok rfl (consA_ok (op2_of rfl rfl (idx_lS D.str hk)) (consA_ok rfl (consA_ok rfl rfl)))) (by show 4 ≤ SL; unfold SL; omega)) hl
    exact h
  unfold b_law_items_1
  rw [forF_ok (d := .lst [.str "less", .str "equal", .str "greater"]) (xs := [.str "less", .str "equal", .str "greater"]) (lstF_ok (consA_ok rfl (consA_ok rfl (consA_ok rfl rfl))) (by show 3 ≤ SL; unfold SL; omega)) rfl]
  rw [loopF_cons (e1 := [some (.d (.lst (ns.map D.str))), some (.l xs), some (.d (.int k)), some (.d (.str o)), some (.d (.str "less")), x5]) rfl (one "less" xs r4 (by omega))]
  rw [loopF_cons (e1 := [some (.d (.lst (ns.map D.str))), some (.l (xs ++ [it4 n o "less"])), some (.d (.int k)), some (.d (.str o)), some (.d (.str "equal")), x5]) rfl (one "equal" _ r4 (by rw [List.length_append]; show _ + 1 < SL; omega))]
  rw [loopF_cons (e1 := [some (.d (.lst (ns.map D.str))), some (.l ((xs ++ [it4 n o "less"]) ++ [it4 n o "equal"])), some (.d (.int k)), some (.d (.str o)), some (.d (.str "greater")), x5]) rfl (one "greater" _ r4 (by rw [List.length_append, List.length_append]; show _ + 1 + 1 < SL; omega))]
  rw [loopF, List.append_assoc, List.append_assoc]
  rfl
theorem items2 (ns : List Str) (k : Nat) (n : Str) (hk : ns[k]? = some n) (hn : ns.length ≤ 100) (xs : List D) (hx : xs.length ≤ 100000) (x3 x4 x5 : Option T) :
    ∃ y3 y4, b_law_items_2 [some (.d (.lst (ns.map D.str))), some (.l xs), some (.d (.int k)), x3, x4, x5] = .ok (.next [some (.d (.lst (ns.map D.str))), some (.l (xs ++ itsK ns k)), some (.d (.int k)), y3, y4, x5]) := by
  have hkl : k < ns.length := (List.getElem?_eq_some_iff.mp hk).1
  have ek : itsK ns k = it4 n n "less" :: (ns.drop (k + 1)).flatMap fun o => rels.map (it4 n o) := by
    unfold itsK
    rw [hk]
  have h1 := appF_ok (i := 1) (fa := tupF (consA (cF (.str "order")) (consA (op2 idxD (varF 0) (varF 2)) (consA (op2 idxD (varF 0) (varF 2)) (consA (cF (.str "less")) (nilA)))))) (env := [some (.d (.lst (ns.map D.str))), some (.l xs), some (.d (.int k)), x3, x4, x5]) (xs := xs) (d := it4 n n "less") rfl
      (tupF_ok (ds := [.str "order", .str n, .str n, .str "less"]) (consA_ok rfl (consA_ok (op2_of rfl rfl (idx_lS D.str hk)) (consA_ok (op2_of rfl rfl (idx_lS D.str hk)) (consA_ok rfl rfl)))) (by show 4 ≤ SL; unfold SL; omega)) (by unfold SL; omega)
  obtain ⟨e', h2, y3, y4, rfl⟩ := loop_inv0 (t := (Tg.nm 3).put) (g := b_law_items_1) (fun i e => ∃ (y3 y4 : Option T), e = [some (.d (.lst (ns.map D.str))), some (.l (xs ++ [it4 n n "less"] ++ ((ns.drop (k + 1)).take i).flatMap fun o => rels.map (it4 n o))), some (.d (.int k)), y3, y4, x5]) ((ns.drop (k + 1)).map D.str)
    [some (.d (.lst (ns.map D.str))), some (.l (xs ++ [it4 n n "less"])), some (.d (.int k)), x3, x4, x5] ⟨x3, x4, by simp⟩ (by
      rintro i x e hx' ⟨y3, y4, rfl⟩
      rw [List.getElem?_map] at hx'
      obtain ⟨o, ho, rfl⟩ := Option.map_eq_some_iff.mp hx'
      have hl : ((((ns.drop (k + 1)).take i).flatMap fun o => rels.map (it4 n o)).length) ≤ 300 := by
        rw [rels_len, List.length_take, List.length_drop]
        omega
      have h3 := items1 ns n o k hk (xs ++ [it4 n n "less"] ++ ((ns.drop (k + 1)).take i).flatMap fun o => rels.map (it4 n o)) (by
        rw [List.length_append, List.length_append]
        show xs.length + 1 + _ + 3 < SL
        unfold SL
        omega) y4 x5
      refine ⟨_, _, rfl, h3, some (.d (.str o)), some (.d (.str "greater")), ?_⟩
      rw [List.take_succ, ho, List.flatMap_append]
      simp)
  refine ⟨y3, y4, ?_⟩
  unfold b_law_items_2
  rw [seqS_ok h1]
  show forF (.nm 3) b_law_items_1 (sliceF sliceD (varF 0) (someF (op2 addD (varF 2) (cF (.int 1)))) noF) [some (.d (.lst (ns.map D.str))), some (.l (xs ++ [it4 n n "less"])), some (.d (.int k)), x3, x4, x5] = _
  rw [forF_ok (d := .lst ((ns.drop (k + 1)).map D.str)) (xs := (ns.drop (k + 1)).map D.str) (sliceF_of (x := .lst (ns.map D.str)) (l := some (((k + 1 : Nat) : Int))) (h := none) rfl (someF_of (op2_of (a := .int k) (b := .int 1) rfl rfl rfl)) rfl ?_) rfl]
  · rw [h2, List.take_of_length_le (by rw [List.length_map]; exact Nat.le_refl _), ek, List.append_assoc]
    rfl
  · show Rs.ok (D.lst (cutD (ns.map D.str) (some ((k + 1 : Nat) : Int)) none)) = _
    rw [cut_from _ _ (by omega), Int.toNat_natCast, List.map_drop]
theorem once_ok {ns : List Str} {env : En} {fa : En → Rs D} {d : D} (h : fa env = .ok d) (hd : itemsD d = some (ns.map D.str)) (i : Nat) (hi : i < env.length) (hn : noL env [i] = true) (hl : ns.length ≤ SL) :
    compF (.nm i) [i] yesF (tupF (consA (cF (.str "once")) (consA (varF i) nilA))) fa env = .ok (.lst (ns.map it2)) := by
  refine compF_ok h hd hn (by rw [List.length_map]; exact hl) (comp_yes D.str it2 ns fun x _ => ⟨(wipeE env [i]).set i (some (.d (.str x))), rfl, ?_⟩)
  refine tupF_ok (ds := [.str "once", .str x]) (consA_ok rfl (consA_ok ?_ rfl)) (by show 2 ≤ SL; unfold SL; omega)
  unfold varF
  rw [List.getElem?_set_self (by rw [show wipeE env [i] = env.set i none from rfl, List.length_set]; exact hi)]
theorem law_items_ok (ns : List Str) (hn : ns.length ≤ 100) : m_law_items [.lst (ns.map D.str)] = .ok (.lst (every ns)) := by
  obtain ⟨e', h1, x2, x3, x4, rfl⟩ := range_inv (t := (Tg.nm 2).put) (g := b_law_items_2) (fun i e => ∃ (x2 x3 x4 : Option T), e = [some (.d (.lst (ns.map D.str))), some (.l (itsN ns i)), x2, x3, x4, none]) ns.length
    [some (.d (.lst (ns.map D.str))), some (.l []), none, none, none, none] ⟨none, none, none, rfl⟩ (by
      rintro i e hi ⟨x2, x3, x4, rfl⟩
      have hl := itsN_len ns i
      have hm : i * (1 + 3 * ns.length) ≤ 100 * (1 + 3 * 100) := Nat.mul_le_mul (by omega) (by omega)
      obtain ⟨y3, y4, h⟩ := items2 ns i ns[i] (List.getElem?_eq_getElem hi) hn (itsN ns i) (by omega) x3 x4 none
      refine ⟨_, _, rfl, h, some (.d (.int i)), y3, y4, ?_⟩
      rw [itsN_succ])
  have hl := itsN_len ns ns.length
  have hm : ns.length * (1 + 3 * ns.length) ≤ 100 * (1 + 3 * 100) := Nat.mul_le_mul (by omega) (by omega)
  refine runF_ret ?_
  unfold f_law_items
  refine seq_asgL (xs := []) rfl ?_
  refine (seqS_ok (e1 := [some (.d (.lst (ns.map D.str))), some (.l (itsN ns ns.length)), x2, x3, x4, none]) ?_).trans ?_
  · exact (forR_ok (ds := [.int ns.length]) (xs := rangeL 0 ns.length) (consA_ok (op1_of (a := .lst (ns.map D.str)) rfl (by show Rs.ok (D.int ((ns.map D.str).length : Nat)) = _; rw [List.length_map])) rfl) (by
      unfold rg1
      dsimp only
      rw [if_pos ⟨by omega, by omega⟩]
      rfl)).trans h1
  · refine retF_ok (op2_of (a := .lst (itsN ns ns.length)) (b := .lst (ns.map it2)) rfl (once_ok (d := .lst (ns.map D.str)) rfl rfl 5 (by show 5 < 6; omega) rfl (by unfold SL; omega)) ?_)
    show (if (itsN ns ns.length).length + (ns.map it2).length ≤ SL then Rs.ok (D.lst (itsN ns ns.length ++ ns.map it2)) else .bad) = _
    rw [if_pos (by rw [List.length_map]; unfold SL; omega)]
    rfl
/-! ### all_items -/
theorem extF_ok {i : Nat} {fa : En → Rs D} {env : En} {xs ys : List D} (h : env[i]? = some (some (.l xs))) (ha : fa env = .ok (.lst ys)) (hl : xs.length + ys.length ≤ SL) : extF i fa env = .ok (.next (env.set i (some (.l (xs ++ ys))))) := by
  unfold extF withL withE
  rw [h]
  dsimp only
  rw [ha]
  dsimp only
  rw [if_pos hl]
/-- the names, as a list or a tuple -/
def nmD (b : Bool) (ns : List Str) : D := if b = true then .lst (ns.map D.str) else .tup (ns.map D.str)
theorem nmD_items (b : Bool) (ns : List Str) : itemsD (nmD b ns) = some (ns.map D.str) := by
  cases b <;> rfl
theorem nmD_slice (b : Bool) (ns : List Str) (k : Nat) : sliceD (some (k : Int)) none (nmD b ns) = .ok (nmD b (ns.drop k)) := by
  cases b
  · show Rs.ok (D.tup (cutD (ns.map D.str) (some (k : Int)) none)) = .ok (D.tup ((ns.drop k).map D.str))
    rw [cut_from _ _ (by omega), Int.toNat_natCast, List.map_drop]
  · show Rs.ok (D.lst (cutD (ns.map D.str) (some (k : Int)) none)) = .ok (D.lst ((ns.drop k).map D.str))
    rw [cut_from _ _ (by omega), Int.toNat_natCast, List.map_drop]
theorem all1 (d : D) (n o : Str) (k : Nat) (xs : List D) (hx : xs.length + 3 ≤ SL) :
    b_all_items_0 [some (.d d), some (.l xs), some (.d (.int k)), some (.d (.str n)), some (.d (.str o)), none] = .ok (.next [some (.d d), some (.l (xs ++ rels.map (it4 n o))), some (.d (.int k)), some (.d (.str n)), some (.d (.str o)), none]) := by
  unfold b_all_items_0
  refine extF_ok (i := 1) (ys := rels.map (it4 n o)) rfl (compF_ok (d := .tup [.str "less", .str "equal", .str "greater"]) (xs := rels.map D.str) rfl rfl rfl (by show 3 ≤ SL; unfold SL; omega) (comp_yes D.str (it4 n o) rels fun r _ => ⟨_, rfl, ?_⟩)) hx
  exact tupF_ok (ds := [.str "order", .str n, .str o, .str r]) (consA_ok rfl (consA_ok rfl (consA_ok rfl (consA_ok rfl rfl)))) (by show 4 ≤ SL; unfold SL; omega)
theorem all2 (b : Bool) (ns : List Str) (k : Nat) (n : Str) (hk : ns[k]? = some n) (hn : ns.length ≤ 100) (xs : List D) (hx : xs.length ≤ 100000) (x4 : Option T) :
    ∃ y4, b_all_items_1 [some (.d (nmD b ns)), some (.l xs), some (.d (.int k)), some (.d (.str n)), x4, none] = .ok (.next [some (.d (nmD b ns)), some (.l (xs ++ itsK ns k)), some (.d (.int k)), some (.d (.str n)), y4, none]) := by
  have ek : itsK ns k = it4 n n "less" :: (ns.drop (k + 1)).flatMap fun o => rels.map (it4 n o) := by
    unfold itsK
    rw [hk]
  have h1 := appF_ok (i := 1) (fa := tupF (consA (cF (.str "order")) (consA (varF 3) (consA (varF 3) (consA (cF (.str "less")) (nilA)))))) (env := [some (.d (nmD b ns)), some (.l xs), some (.d (.int k)), some (.d (.str n)), x4, none]) (xs := xs) (d := it4 n n "less") rfl
      (tupF_ok (ds := [.str "order", .str n, .str n, .str "less"]) (consA_ok rfl (consA_ok rfl (consA_ok rfl (consA_ok rfl rfl)))) (by show 4 ≤ SL; unfold SL; omega)) (by unfold SL; omega)
  obtain ⟨e', h2, y4, rfl⟩ := loop_inv0 (t := (Tg.nm 4).put) (g := b_all_items_0) (fun i e => ∃ (y4 : Option T), e = [some (.d (nmD b ns)), some (.l (xs ++ [it4 n n "less"] ++ ((ns.drop (k + 1)).take i).flatMap fun o => rels.map (it4 n o))), some (.d (.int k)), some (.d (.str n)), y4, none]) ((ns.drop (k + 1)).map D.str)
    [some (.d (nmD b ns)), some (.l (xs ++ [it4 n n "less"])), some (.d (.int k)), some (.d (.str n)), x4, none] ⟨x4, by simp⟩ (by
      rintro i x e hx' ⟨y4, rfl⟩
      rw [List.getElem?_map] at hx'
      obtain ⟨o, ho, rfl⟩ := Option.map_eq_some_iff.mp hx'
      have hl : ((((ns.drop (k + 1)).take i).flatMap fun o => rels.map (it4 n o)).length) ≤ 300 := by
        rw [rels_len, List.length_take, List.length_drop]
        omega
      have h3 := all1 (nmD b ns) n o k (xs ++ [it4 n n "less"] ++ ((ns.drop (k + 1)).take i).flatMap fun o => rels.map (it4 n o)) (by
        rw [List.length_append, List.length_append]
        show xs.length + 1 + _ + 3 ≤ SL
        unfold SL
        omega)
      refine ⟨_, _, rfl, h3, some (.d (.str o)), ?_⟩
      rw [List.take_succ, ho, List.flatMap_append]
      simp)
  refine ⟨y4, ?_⟩
  unfold b_all_items_1
  rw [seqS_ok h1]
  show forF (.nm 4) b_all_items_0 (sliceF sliceD (varF 0) (someF (op2 addD (varF 2) (cF (.int 1)))) noF) [some (.d (nmD b ns)), some (.l (xs ++ [it4 n n "less"])), some (.d (.int k)), some (.d (.str n)), x4, none] = _
  rw [forF_ok (d := nmD b (ns.drop (k + 1))) (xs := (ns.drop (k + 1)).map D.str) (sliceF_of (x := nmD b ns) (l := some (((k + 1 : Nat) : Int))) (h := none) rfl (someF_of (op2_of (a := .int k) (b := .int 1) rfl rfl rfl)) rfl (nmD_slice b ns (k + 1))) (nmD_items b _)]
  rw [h2, List.take_of_length_le (by rw [List.length_map]; exact Nat.le_refl _), ek, List.append_assoc]
  rfl
theorem all_items_ok (b : Bool) (ns : List Str) (hn : ns.length ≤ 100) : m_all_items [nmD b ns] = .ok (.lst (every ns)) := by
  obtain ⟨e', h1, x2, x3, x4, rfl⟩ := loop_inv0 (t := (Tg.tp [.nm 2, .nm 3]).put) (g := b_all_items_1) (fun i e => ∃ (x2 : Option T) (x3 : Option D) (x4 : Option T), e = [some (.d (nmD b ns)), some (.l (itsN ns i)), x2, x3.map T.d, x4, none]) ((ns.map D.str).mapIdx fun i x => .tup [.int (i : Nat), x])
    [some (.d (nmD b ns)), some (.l []), none, none, none, none] ⟨none, none, none, rfl⟩ (by
      rintro i x e hx ⟨x2, x3, x4, rfl⟩
      rw [List.getElem?_mapIdx, List.getElem?_map] at hx
      obtain ⟨d, hd, rfl⟩ := Option.map_eq_some_iff.mp hx
      obtain ⟨n, hk, rfl⟩ := Option.map_eq_some_iff.mp hd
      have hi : i < ns.length := (List.getElem?_eq_some_iff.mp hk).1
      have hl := itsN_len ns i
      have hm : i * (1 + 3 * ns.length) ≤ 100 * (1 + 3 * 100) := Nat.mul_le_mul (by omega) (by omega)
      obtain ⟨y4, h⟩ := all2 b ns i n hk hn (itsN ns i) (by omega) x4
      refine ⟨_, _, rfl, h, some (.d (.int i)), some (.str n), y4, ?_⟩
      rw [itsN_succ]
      rfl)
  rw [List.length_mapIdx, List.length_map] at h1
  have hl := itsN_len ns ns.length
  have hm : ns.length * (1 + 3 * ns.length) ≤ 100 * (1 + 3 * 100) := Nat.mul_le_mul (by omega) (by omega)
  refine runF_ret ?_
  unfold f_all_items
  refine seq_asgL (xs := []) rfl ?_
  refine (seqS_ok (e1 := [some (.d (nmD b ns)), some (.l (itsN ns ns.length)), x2, x3.map T.d, x4, none]) ?_).trans ?_
  · refine (forR_ok (ds := [nmD b ns]) (xs := (ns.map D.str).mapIdx fun i x => .tup [.int (i : Nat), x]) (consA_ok rfl rfl) ?_).trans h1
    unfold eg
    dsimp only
    rw [nmD_items]
  · refine retF_ok (op2_of (a := .lst (itsN ns ns.length)) (b := .lst (ns.map it2)) rfl (once_ok (d := nmD b ns) rfl (nmD_items b ns) 3 (by show 3 < 6; omega) (by cases x3 <;> rfl) (by unfold SL; omega)) ?_)
    show (if (itsN ns ns.length).length + (ns.map it2).length ≤ SL then Rs.ok (D.lst (itsN ns ns.length ++ ns.map it2)) else .bad) = _
    rw [if_pos (by rw [List.length_map]; unfold SL; omega)]
    rfl
/-! ### tuples of texts, compared -/
def tS (ws : List Str) : D := .tup (ws.map D.str)
def pS (ws : List Str) : PyData := .tuple (ws.map PyData.str)
theorem toPys_strs : ∀ (ws : List Str), toPys (ws.map D.str) = some (ws.map PyData.str)
  | [] => by simp [toPys]
  | w :: ws => by
    rw [List.map_cons, toPys, toPys_strs ws]
    simp [toPy]
theorem toPy_tS (ws : List Str) : toPy (tS ws) = some (pS ws) := by
  unfold tS
  rw [toPy, toPys_strs]
  rfl
theorem toPys_tS : ∀ (l : List (List Str)), toPys (l.map tS) = some (l.map pS)
  | [] => by simp [toPys]
  | w :: ws => by
    rw [List.map_cons, toPys, toPys_tS ws, toPy_tS]
    rfl
theorem eqvAll_strs : ∀ (a b : List Str), PyData.eqvAll (a.map PyData.str) (b.map PyData.str) = decide (a = b)
  | [], [] => by simp [PyData.eqvAll]
  | [], y :: ys => by simp [PyData.eqvAll]
  | x :: xs, [] => by simp [PyData.eqvAll]
  | x :: xs, y :: ys => by
    rw [List.map_cons, List.map_cons, PyData.eqvAll, eqvAll_strs xs ys, PyData.eqv]
    by_cases h : x = y
    · subst h
      simp
    · simp [h]
theorem eqv_pS (a b : List Str) : PyData.eqv (pS a) (pS b) = decide (a = b) := by
  unfold pS
  rw [PyData.eqv, eqvAll_strs]
theorem any_pS (w : List Str) : ∀ (l : List (List Str)), ((l.map pS).any fun z => PyData.eqv z (pS w)) = decide (w ∈ l)
  | [] => by simp
  | x :: xs => by
    rw [List.map_cons, List.any_cons, any_pS w xs, eqv_pS]
    by_cases h : x = w
    · subst h
      simp
    · have h' : w ≠ x := fun z => h z.symm
      simp [h, h']
/-- texts that can be compared and shown -/
def okS (w : Str) : Prop := Fi (.str w) 0 200
theorem tS_fi {ws : List Str} (h : ∀ w ∈ ws, okS w) : Fi (tS ws) 1 (ws.length * 202 + 3) := by
  have q := Fi.tup (xs := ws.map D.str) (k := 0) (n := 200) fun x hx => by
    obtain ⟨w, hw, rfl⟩ := List.mem_map.mp hx
    exact h w hw
  rw [List.length_map] at q
  exact q
def okI (ws : List Str) : Prop := ws.length ≤ 10 ∧ ∀ w ∈ ws, okS w
theorem okI.fi {ws : List Str} (h : okI ws) : Fi (tS ws) 1 3000 := (tS_fi h.2).mono (Nat.le_refl _) (by have := h.1; omega)
theorem inE_tS {w : List Str} {l : List (List Str)} (hw : okI w) (hl : ∀ x ∈ l, okI x) : inE (tS w) (.lst (l.map tS)) = .ok (.bl (decide (w ∈ l))) := by
  obtain ⟨p, h1, h2, _⟩ := hw.fi.shaped (by omega)
  obtain ⟨q, g1, g2, _⟩ := (Fi.lst (xs := l.map tS) (k := 1) (n := 3000) fun x hx => by
    obtain ⟨w, hw, rfl⟩ := List.mem_map.mp hx
    exact (hl w hw).fi).shaped (by omega)
  rw [toPy_tS] at h1
  injection h1 with h1
  subst h1
  rw [toPy, toPys_tS] at g1
  injection g1 with g1
  subst g1
  unfold inE
  rw [toPy_tS, toPy, toPys_tS]
  show (if SeqAt.shaped (pS w) = true ∧ SeqAt.shaped (.list (l.map pS)) = true then Rs.ok (D.bl ((l.map pS).any fun z => PyData.eqv z (pS w))) else .bad) = _
  rw [if_pos ⟨h2, g2⟩, any_pS]
section
variable {α : Type} [DecidableEq α]
theorem filter_len {ev its : List α} (he : ev.Nodup) (hi : its.Nodup) (hs : ∀ x ∈ its, x ∈ ev) : (ev.filter fun x => decide (x ∈ its)).length = its.length := by
  refine List.Perm.length_eq ((List.perm_ext_iff_of_nodup (he.filter _) hi).mpr fun x => ?_)
  rw [List.mem_filter, decide_eq_true_iff]
  exact ⟨fun h => h.2, fun h => ⟨hs x h, h⟩⟩
theorem filter_more {ev a b : List α} {x : α} (h : x ∈ a ++ b ∨ x ∉ ev) : (ev.filter fun y => decide (y ∈ a ++ [x] ++ b)) = ev.filter fun y => decide (y ∈ a ++ b) := by
  refine List.filter_congr fun y hy => ?_
  rw [decide_eq_decide]
  simp only [List.mem_append, List.mem_singleton]
  constructor
  · rintro ((h1 | h1) | h1)
    · exact .inl h1
    · subst h1
      rcases h with h | h
      · exact List.mem_append.mp h
      · exact absurd hy h
    · exact .inr h1
  · rintro (h1 | h1)
    · exact .inl (.inl h1)
    · exact .inr h1
end
/-! ### every item, as texts -/
def i4 (a b r : Str) : List Str := ["order", a, b, r]
def i2 (a : Str) : List Str := ["once", a]
def evK (ns : List Str) (k : Nat) : List (List Str) := match ns[k]? with
  | some n => (i4 n n "less") :: (ns.drop (k + 1)).flatMap fun o => rels.map fun r => (i4 n o r)
  | none => []
def evS (ns : List Str) : List (List Str) := (List.range ns.length).flatMap (evK ns) ++ ns.map fun n => (i2 n)
theorem itsK_ev (ns : List Str) (k : Nat) : itsK ns k = (evK ns k).map tS := by
  unfold itsK evK
  cases ns[k]? with
  | none => rfl
  | some n =>
    dsimp only
    rw [List.map_cons, List.map_flatMap]
    rfl
theorem every_ev (ns : List Str) : every ns = (evS ns).map tS := by
  unfold every evS itsN
  rw [List.map_append, List.map_flatMap, List.map_map, show itsK ns = fun k => (evK ns k).map tS from funext (itsK_ev ns)]
  rfl
theorem mem_evK {ns : List Str} {k : Nat} {w : List Str} : w ∈ evK ns k ↔ ∃ n, ns[k]? = some n ∧ (w = (i4 n n "less") ∨ ∃ o ∈ ns.drop (k + 1), ∃ r ∈ rels, w = (i4 n o r)) := by
  unfold evK
  split
  · rename_i n hn
    simp only [List.mem_cons, List.mem_flatMap, List.mem_map]
    constructor
    · rintro (h | ⟨o, ho, r, hr, h⟩)
      · exact ⟨n, hn, .inl h⟩
      · exact ⟨n, hn, .inr ⟨o, ho, r, hr, h.symm⟩⟩
    · rintro ⟨m, hm, h⟩
      rw [hn] at hm
      injection hm with hm
      subst hm
      rcases h with h | ⟨o, ho, r, hr, h⟩
      · exact .inl h
      · exact .inr ⟨o, ho, r, hr, h.symm⟩
  · rename_i hn
    constructor
    · intro h; cases h
    · rintro ⟨m, hm, _⟩
      rw [hn] at hm
      cases hm
theorem mem_evS {ns : List Str} {w : List Str} : w ∈ evS ns ↔ (∃ k n, ns[k]? = some n ∧ (w = (i4 n n "less") ∨ ∃ o ∈ ns.drop (k + 1), ∃ r ∈ rels, w = (i4 n o r))) ∨ ∃ n ∈ ns, w = (i2 n) := by
  unfold evS
  rw [List.mem_append, List.mem_flatMap, List.mem_map]
  constructor
  · rintro (⟨k, hk, h⟩ | ⟨n, hn, h⟩)
    · exact .inl ⟨k, mem_evK.mp h⟩
    · exact .inr ⟨n, hn, h.symm⟩
  · rintro (⟨k, n, hk, h⟩ | ⟨n, hn, h⟩)
    · exact .inl ⟨k, List.mem_range.mpr (List.getElem?_eq_some_iff.mp hk).1, mem_evK.mpr ⟨n, hk, h⟩⟩
    · exact .inr ⟨n, hn, h.symm⟩
theorem drop_ne {ns : List Str} (hd : ns.Nodup) {k : Nat} {n o : Str} (hk : ns[k]? = some n) (ho : o ∈ ns.drop (k + 1)) : n ≠ o := by
  intro h
  subst h
  obtain ⟨j, hj, e⟩ := List.mem_iff_getElem.mp ho
  rw [List.getElem_drop] at e
  obtain ⟨hl, e2⟩ := List.getElem?_eq_some_iff.mp hk
  rw [List.length_drop] at hj
  have := (List.getElem_inj (h₀ := by omega) (h₁ := hl) hd).mp (e.trans e2.symm)
  omega
theorem evS_nodup {ns : List Str} (hd : ns.Nodup) : (evS ns).Nodup := by
  unfold evS
  rw [List.nodup_append]
  refine ⟨?_, ?_, ?_⟩
  · show List.Pairwise _ _
    rw [List.pairwise_flatMap]
    refine ⟨fun k hk => ?_, ?_⟩
    · unfold evK
      split
      · rename_i n hn
        rw [List.pairwise_cons]
        refine ⟨fun y hy h => ?_, ?_⟩
        · obtain ⟨o, ho, hy⟩ := List.mem_flatMap.mp hy
          obtain ⟨r, _, hy⟩ := List.mem_map.mp hy
          have h := h.trans hy.symm
          unfold i4 at h
          injection h with _ h
          injection h with _ h
          injection h with h _
          exact drop_ne hd hn ho h
        · rw [List.pairwise_flatMap]
          refine ⟨fun o ho => ?_, ?_⟩
          · rw [List.pairwise_map]
            refine (show rels.Nodup by decide).imp fun ne h => ne ?_
            unfold i4 at h
            injection h with _ h
            injection h with _ h
            injection h with _ h
            injection h
          · refine (hd.sublist (List.drop_sublist _ _)).imp fun ne x hx y hy h => ne ?_
            obtain ⟨r, _, rfl⟩ := List.mem_map.mp hx
            obtain ⟨q, _, rfl⟩ := List.mem_map.mp hy
            unfold i4 at h
            injection h with _ h
            injection h with _ h
            injection h with h _
      · exact .nil
    · refine List.Pairwise.imp_of_mem (R := (· ≠ ·)) (fun {a b} ha hb ne x hx y hy h => ?_) List.nodup_range
      rw [List.mem_range] at ha hb
      obtain ⟨n, hn, h1⟩ := mem_evK.mp hx
      obtain ⟨m, hm, h2⟩ := mem_evK.mp hy
      have e : n = m := by
        subst h
        rcases h1 with h1 | ⟨o, _, r, _, h1⟩ <;> rcases h2 with h2 | ⟨o2, _, r2, _, h2⟩ <;> (have h := h1.symm.trans h2; unfold i4 at h; injection h with _ h; injection h)
      subst e
      obtain ⟨l1, e1⟩ := List.getElem?_eq_some_iff.mp hn
      obtain ⟨l2, e2⟩ := List.getElem?_eq_some_iff.mp hm
      exact ne ((List.getElem_inj hd).mp (e1.trans e2.symm))
  · show List.Pairwise _ _
    rw [List.pairwise_map]
    exact hd.imp fun ne h => ne (by injection h with _ h; injection h)
  · intro a ha b hb h
    subst h
    obtain ⟨k, _, h⟩ := List.mem_flatMap.mp ha
    obtain ⟨n, _, rfl⟩ := List.mem_map.mp hb
    obtain ⟨m, _, h | ⟨o, _, r, _, h⟩⟩ := mem_evK.mp h
    · injection h with h _
      exact absurd h (by decide)
    · injection h with h _
      exact absurd h (by decide)
def wr9 (f nf : Str) : List (List Str) := [i4 f f "equal", i4 f f "greater", i4 f nf "less", i2 nf, ["once"], ["order", f], [], ["once", f, "less"], ["keep", f]]
def wr2 (f g : Str) : List (List Str) := [i4 g f "less", i4 f g "unequal"]
def wrS (f : Str) (rest : List Str) (nf : Str) : List (List Str) := match rest with
  | g :: _ => wr9 f nf ++ wr2 f g
  | [] => wr9 f nf
theorem wrS_len (f : Str) (rest : List Str) (nf : Str) : 9 ≤ (wrS f rest nf).length ∧ (wrS f rest nf).length ≤ 11 := by
  unfold wrS
  split <;> simp [wr9, wr2]
theorem lst_len (xs : List D) : lenD (.lst xs) = .ok (.int xs.length) := rfl
theorem addL_of {fa fb : En → Rs D} {env : En} {xs ys : List D} (ha : fa env = .ok (.lst xs)) (hb : fb env = .ok (.lst ys)) (hl : xs.length + ys.length ≤ SL) : op2 addL fa fb env = .ok (.lst (xs ++ ys)) := by
  refine op2_of ha hb ?_
  unfold addL
  dsimp only
  rw [if_pos hl]
theorem tand_t {fa fb : En → Rs Bool} {env : En} {c : Bool} (ha : fa env = .ok true) (hb : fb env = .ok c) : tand fa fb env = .ok c := by
  unfold tand
  rw [ha, Rs.bind_ok, if_pos rfl, hb]
theorem tand_f {fa fb : En → Rs Bool} {env : En} (ha : fa env = .ok false) : tand fa fb env = .ok false := by
  unfold tand
  rw [ha, Rs.bind_ok, if_neg (by decide)]
theorem sl4 : 4 ≤ SL := by unfold SL; omega
/-- xs[:k] + [x] + xs[k:] -/
theorem put_ok {fx fk fe : En → Rs D} {env : En} {xs : List D} {k : Nat} {x : D} (h1 : fx env = .ok (.lst xs)) (h2 : fk env = .ok (.int k)) (h3 : fe env = .ok x) (hk : k ≤ xs.length) (hl : xs.length + 1 ≤ SL) :
    op2 addL (op2 addL (sliceF sliceD fx noF (someF fk)) (lstF (consA fe nilA))) (sliceF sliceD fx (someF fk) noF) env = .ok (.lst (xs.take k ++ [x] ++ xs.drop k)) := by
  have a1 : sliceF sliceD fx noF (someF fk) env = .ok (.lst (xs.take k)) := sliceF_of h1 rfl (someF_of h2) (by rw [sl_l, cut_to _ _ (by omega), Int.toNat_natCast])
  have a2 : sliceF sliceD fx (someF fk) noF env = .ok (.lst (xs.drop k)) := sliceF_of h1 (someF_of h2) rfl (by rw [sl_l, cut_from _ _ (by omega), Int.toNat_natCast])
  have a3 : lstF (consA fe nilA) env = .ok (.lst [x]) := lstF_ok (consA_ok h3 rfl) (by show 1 ≤ SL; unfold SL; omega)
  refine addL_of (addL_of a1 a3 ?_) a2 ?_
  · rw [List.length_take, List.length_cons, List.length_nil]; omega
  · rw [List.length_append, List.length_take, List.length_cons, List.length_nil, List.length_drop]; omega
theorem okS_order : okS "order" := (Fi.str (l := [111, 114, 100, 101, 114]) (by decide)).mono (Nat.le_refl _) (by decide)
theorem okS_once : okS "once" := (Fi.str (l := [111, 110, 99, 101]) (by decide)).mono (Nat.le_refl _) (by decide)
theorem okS_less : okS "less" := (Fi.str (l := [108, 101, 115, 115]) (by decide)).mono (Nat.le_refl _) (by decide)
theorem okS_equal : okS "equal" := (Fi.str (l := [101, 113, 117, 97, 108]) (by decide)).mono (Nat.le_refl _) (by decide)
theorem okS_greater : okS "greater" := (Fi.str (l := [103, 114, 101, 97, 116, 101, 114]) (by decide)).mono (Nat.le_refl _) (by decide)
theorem okS_keep : okS "keep" := (Fi.str (l := [107, 101, 101, 112]) (by decide)).mono (Nat.le_refl _) (by decide)
theorem okS_unequal : okS "unequal" := (Fi.str (l := [117, 110, 101, 113, 117, 97, 108]) (by decide)).mono (Nat.le_refl _) (by decide)
theorem okS_word {w : Str} (h : okWord w) : okS w := (Fi.word h).mono (Nat.le_refl _) (by omega)
theorem okS_none {lf : List Nat} (h : okWord (mkS lf)) (hl : lf.length ≤ 10) : okS (mkS ([110, 111, 110, 101] ++ lf)) := by
  obtain ⟨l, e, h1, h2, h3⟩ := h
  have e := mkS_inj e
  subst e
  refine (Fi.str fun c hc => ?_).mono (Nat.le_refl _) (by rw [List.length_append]; show 10 * (4 + _) + 2 ≤ 200; omega)
  rcases List.mem_append.mp hc with hc | hc
  · exact (show ∀ c ∈ [110, 111, 110, 101], c < 1114112 by decide) c hc
  · have := h3 c hc; omega
theorem okI4 {a b r : Str} (ha : okS a) (hb : okS b) (hr : okS r) : okI (i4 a b r) := ⟨by show 4 ≤ 10; omega, by
  intro w hw
  unfold i4 at hw
  simp only [List.mem_cons, List.not_mem_nil, or_false] at hw
  rcases hw with rfl | rfl | rfl | rfl
  · exact okS_order
  · exact ha
  · exact hb
  · exact hr⟩
theorem okI2 {a : Str} (ha : okS a) : okI (i2 a) := ⟨by show 2 ≤ 10; omega, by
  intro w hw
  unfold i2 at hw
  simp only [List.mem_cons, List.not_mem_nil, or_false] at hw
  rcases hw with rfl | rfl
  · exact okS_once
  · exact ha⟩
theorem ev_ok {ns : List Str} (h : ∀ n ∈ ns, okWord n) : ∀ w ∈ evS ns, okI w := fun w hw => by
  rcases mem_evS.mp hw with ⟨k, n, hk, h1 | ⟨o, ho, r, hr, h1⟩⟩ | ⟨n, hn, h1⟩
  · rw [h1]
    have := okS_word (h n (List.mem_of_getElem? hk))
    exact okI4 this this okS_less
  · rw [h1]
    refine okI4 (okS_word (h n (List.mem_of_getElem? hk))) (okS_word (h o (List.mem_of_mem_drop ho))) ?_
    unfold rels at hr
    simp only [List.mem_cons, List.not_mem_nil, or_false] at hr
    rcases hr with rfl | rfl | rfl
    · exact okS_less
    · exact okS_equal
    · exact okS_greater
  · rw [h1]
    exact okI2 (okS_word (h n hn))
def gR (r : Bool × List Str) : D := if r.1 = true then .lst (r.2.map D.str) else .tup (r.2.map D.str)
def gO (b : Bool) (l : List (Bool × List Str)) : D := if b = true then .lst (l.map gR) else .tup (l.map gR)
theorem gO_items (b : Bool) (l : List (Bool × List Str)) : itemsD (gO b l) = some (l.map gR) := by cases b <;> rfl
theorem isi_seq : (∀ xs, isi2D "list" "tuple" (.lst xs) = .ok (.bl true)) ∧ ∀ xs, isi2D "list" "tuple" (.tup xs) = .ok (.bl true) := by
  constructor
  · intro xs
    unfold isi2D
    dsimp only [tyName]
    rw [show kitB "list" "list" = some true by decide +kernel, show kitB "list" "tuple" = some false by decide +kernel]
    rfl
  · intro xs
    unfold isi2D
    dsimp only [tyName]
    rw [show kitB "tuple" "list" = some false by decide +kernel, show kitB "tuple" "tuple" = some true by decide +kernel]
    rfl
theorem isi_gR (r : Bool × List Str) : isi2D "list" "tuple" (gR r) = .ok (.bl true) := by
  obtain ⟨b, w⟩ := r
  cases b
  · exact isi_seq.2 _
  · exact isi_seq.1 _
theorem isi_gO (b : Bool) (l : List (Bool × List Str)) : isi2D "list" "tuple" (gO b l) = .ok (.bl true) := by
  cases b
  · exact isi_seq.2 _
  · exact isi_seq.1 _
theorem bls_true (l : List (Bool × List Str)) : blsOf (l.map fun _ => D.bl true) = some (l.map fun _ => true) := by
  induction l with
  | nil => rfl
  | cons x xs ih => simp [blsOf, ih]
theorem all_true (l : List (Bool × List Str)) : allD (.lst (l.map fun _ => D.bl true)) = .ok (.bl true) := by
  unfold allD quantD
  dsimp only
  rw [bls_true]
  dsimp only
  congr 2
  rw [List.all_map, List.all_eq_true]
  intro x _
  rfl
theorem are_rows_ok (b : Bool) (l : List (Bool × List Str)) (hl : l.length ≤ 1000) : m_are_rows [gO b l] = .ok (.bl true) := by
  refine runF_ret (retF_ok ?_)
  have h1 : op1 (isi2D "list" "tuple") (varF 0) [some (.d (gO b l)), none] = .ok (.bl true) := op1_of rfl (isi_gO b l)
  unfold andF
  show (op1 (isi2D "list" "tuple") (varF 0) [some (.d (gO b l)), none] >>= _) = _
  rw [h1, Rs.bind_ok]
  refine op1_of (a := .lst (l.map fun _ => D.bl true)) (compF_ok (d := gO b l) rfl (gO_items b l) rfl (by rw [List.length_map]; unfold SL; omega) (comp_yes gR (fun _ => D.bl true) l fun r _ => ⟨_, rfl, op1_of rfl (isi_gR r)⟩)) (all_true l)
theorem tuple_gR (r : Bool × List Str) : tupleD (gR r) = .ok (tS r.2) := by
  obtain ⟨b, w⟩ := r
  cases b <;> rfl
theorem tuple_nm (b : Bool) (ns : List Str) : tupleD (nmD b ns) = .ok (.tup (ns.map D.str)) := by cases b <;> rfl
theorem ifI_t {t : En → Rs Bool} {c : Str} {k : CI} {env : En} {acc : List (Str × D)} (h : t env = .ok true) : ifI t c k env acc = .exc ⟨c, []⟩ := by unfold ifI; rw [h]
theorem ifI_f {t : En → Rs Bool} {c : Str} {k : CI} {env : En} {acc : List (Str × D)} (h : t env = .ok false) : ifI t c k env acc = k env acc := by unfold ifI; rw [h]
theorem setI_ok {i : Nat} {f : En → Rs D} {k : CI} {env : En} {acc : List (Str × D)} {d : D} (h : f env = .ok d) : setI i f k env acc = k (env.set i (some (.d d))) acc := by unfold setI; rw [h, Rs.bind_ok]
theorem fldI_ok {n : Str} {f : En → Rs D} {k : CI} {env : En} {acc : List (Str × D)} {d : D} (h : f env = .ok d) : fldI n f k env acc = k env (putD n d acc) := by unfold fldI; rw [h, Rs.bind_ok]
/-- Promise(names, items) -/
theorem mk_ok (b c : Bool) (ns : List Str) (l : List (Bool × List Str)) (hn : ns.length ≤ 100) (hns : ∀ n ∈ ns, okWord n) (hl : l.length ≤ 1000) (hi : ∀ w ∈ l.map (·.2), okI w) :
    mk_Promise [nmD b ns, gO c l] = if ((evS ns).filter fun w => decide (w ∈ l.map (·.2))).length = l.length then
      .ok [("names", .tup (ns.map D.str)), ("entries", .tup (((evS ns).filter fun w => decide (w ∈ l.map (·.2))).map tS))] else .exc ⟨"InvalidPromise", []⟩ := by
  have hev : (evS ns).length ≤ SL := by
    have h1 := every_ev ns
    have h2 : (evS ns).length = (every ns).length := by rw [h1, List.length_map]
    rw [h2]
    unfold every
    rw [List.length_append, List.length_map]
    have := itsN_len ns ns.length
    have hm : ns.length * (1 + 3 * ns.length) ≤ 100 * (1 + 3 * 100) := Nat.mul_le_mul (by omega) (by omega)
    unfold SL
    omega
  unfold mk_Promise
  rw [if_pos (show [nmD b ns, gO c l].length = 2 from rfl)]
  have t1 : tnot (tstF (callF m_are_rows (consA (varF 2) (nilA)))) (argsI [nmD b ns, gO c l] 5) = .ok false := by
    unfold tnot tstF
    rw [callF_ok (r := .ok (.bl true)) (consA_ok rfl rfl) (are_rows_ok c l hl)]
    rfl
  have c3 : compF (.nm 5) [5] (yesF) (op1 tupleD (varF 5)) (varF 2) (argsI [nmD b ns, gO c l] 5) = .ok (.lst ((l.map (·.2)).map tS)) := by
    rw [List.map_map]
    exact compF_ok (d := gO c l) rfl (gO_items c l) rfl (by rw [List.length_map]; unfold SL; omega) (comp_yes gR (fun r => tS r.2) l fun r _ => ⟨_, rfl, op1_of rfl (tuple_gR r)⟩)
  have c4 : compF (.nm 5) [5] (tcmp inE (varF 5) (varF 3)) (varF 5) (callF m_all_items (consA (varF 1) (nilA))) ((argsI [nmD b ns, gO c l] 5).set 3 (some (.d (.lst ((l.map (·.2)).map tS))))) = .ok (.lst (((evS ns).filter fun w => decide (w ∈ l.map (·.2))).map tS)) := by
    refine compF_ok (d := .lst ((evS ns).map tS)) (callF_ok (consA_ok rfl rfl) (by rw [all_items_ok b ns hn, every_ev])) rfl rfl (by rw [List.length_map]; exact hev) (comp_map tS (fun w => decide (w ∈ l.map (·.2))) tS (evS ns) fun w hw => ⟨_, rfl, ?_, fun _ => rfl⟩)
    exact tcmp_ok rfl rfl (inE_tS (ev_ok hns w hw) hi)
  refine (ifI_f t1).trans ((setI_ok c3).trans ((setI_ok c4).trans ?_))
  generalize ((evS ns).filter fun w => decide (w ∈ l.map (·.2))) = fl
  have t5 : tcmp neD (op1 lenD (varF 4)) (op1 lenD (varF 3)) (((argsI [nmD b ns, gO c l] 5).set 3 (some (.d (.lst ((l.map (·.2)).map tS))))).set 4 (some (.d (.lst (fl.map tS))))) = .ok (!decide ((fl.length : Int) = l.length)) :=
    tcmp_ok (a := .int fl.length) (b := .int l.length) (op1_of rfl (by rw [lst_len, List.length_map])) (op1_of rfl (by rw [lst_len, List.length_map, List.length_map])) (by unfold neD notR; rw [eq_ii]; rfl)
  by_cases h : fl.length = l.length
  · rw [if_pos h]
    refine (ifI_f (t5.trans (by rw [decide_eq_true (by omega)]; rfl))).trans ((fldI_ok (op1_of rfl (tuple_nm b ns))).trans ((fldI_ok (d := .tup (fl.map tS)) (op1_of (a := .lst (fl.map tS)) rfl (show tupleD (.lst (fl.map tS)) = .ok (.tup (fl.map tS)) from rfl))).trans ?_))
    rfl
  · rw [if_neg h]
    exact ifI_t (t5.trans (by rw [decide_eq_false (by omega)]; rfl))
theorem law_names_ok (row : List Int) (hr : Draws row) (hl : row.length = 4) :
    ∃ ws : List Str, m_law_names [.lst (row.map D.int)] = .ok (.lst (ws.map D.str)) ∧ 1 ≤ ws.length ∧ ws.length ≤ 4 ∧ ws.Nodup ∧ (∀ w ∈ ws, okWord w) ∧ ∃ m, ∀ w ∈ ws, w.length = m := by
  have r3 := (hr.at (show 3 < row.length by omega))
  have i3 := idx_rowN row 3 (by omega)
  obtain ⟨ws, h1, h2, h3, h4, h5⟩ := law_words_ok2 (row.take 3) (1 + row[3] % 4).toNat (hr.take 3) (by rw [List.length_take]; omega) (by omega)
  refine ⟨ws, runF_ret (retF_ok (callF_ok (ds := [.lst ((row.take 3).map D.int), .int (1 + row[3] % 4)]) (consA_ok (sliceF_of (x := .lst (row.map D.int)) (l := none) (h := some 3) rfl rfl (someF_of rfl) ?_) (consA_ok (op2_of (a := .int 1) (b := .int (row[3] % 4)) rfl (op2_of (a := .int row[3]) (b := .int 4) (op2_of rfl rfl i3) rfl (mod_ii _ _ (by omega))) (add_ii _ _)) rfl)) ?_)), by omega, by omega, h3, h4, h5⟩
  · rw [sl_l, cut_to _ _ (by omega), ← List.map_take]
    rfl
  · rw [show (((1 + row[3] % 4).toNat : Nat) : Int) = 1 + row[3] % 4 by omega] at h1
    exact h1
theorem evS_len {ns : List Str} (h : ns.length ≤ 4) : (evS ns).length ≤ 26 := by
  match ns, h with
  | [], _ => decide
  | [a], _ => exact Nat.le_of_ble_eq_true rfl
  | [a, b], _ => exact Nat.le_of_ble_eq_true rfl
  | [a, b, c], _ => exact Nat.le_of_ble_eq_true rfl
  | [a, b, c, d], _ => exact Nat.le_of_ble_eq_true rfl
  | _ :: _ :: _ :: _ :: _ :: _, h => simp at h
theorem map_erase {α β : Type} (f : α → β) : ∀ (l : List α) (i : Nat), (l.map f).eraseIdx i = (l.eraseIdx i).map f
  | [], _ => by simp
  | x :: xs, 0 => by simp
  | x :: xs, i + 1 => by
    rw [List.map_cons, List.eraseIdx_cons_succ, List.eraseIdx_cons_succ, List.map_cons, map_erase f xs i]
theorem erase_perm {α : Type} : ∀ (l : List α) (i : Nat) (h : i < l.length), (l.eraseIdx i ++ [l[i]]).Perm l
  | x :: xs, 0, h => by
    rw [List.eraseIdx_cons_zero, List.getElem_cons_zero]
    exact List.perm_append_comm
  | x :: xs, i + 1, h => by
    rw [List.eraseIdx_cons_succ, List.getElem_cons_succ, List.cons_append]
    exact (erase_perm xs i (by simpa using h)).cons x
theorem list_gR (r : Bool × List Str) : listD (gR r) = .ok (.lst (r.2.map D.str)) := by
  obtain ⟨b, w⟩ := r
  cases b <;> rfl
def keptD (gv : List (Bool × List Str)) : D := .lst (gv.map fun r => .lst (r.2.map D.str))
def prF (ns : List Str) (fl : List (List Str)) : List (Str × D) := [("names", .tup (ns.map D.str)), ("entries", .tup (fl.map tS))]
theorem noL_tS (ws : List Str) : NoL (tS ws) := .tup fun x hx => by
  obtain ⟨w, _, rfl⟩ := List.mem_map.mp hx
  exact .str w
theorem noL_pr (ns : List Str) (fl : List (List Str)) : NoL (.obj "Promise" (prF ns fl)) := .obj fun p hp => by
  unfold prF at hp
  simp only [List.mem_cons, List.not_mem_nil, or_false] at hp
  rcases hp with rfl | rfl
  · exact noL_tS ns
  · exact .tup fun x hx => by
      obtain ⟨w, _, rfl⟩ := List.mem_map.mp hx
      exact noL_tS w
theorem pick2 (f : Bool → D) (i : Int) : ∃ b, idxD (.lst [f true, f false]) (.int (i % 2)) = .ok (f b) := by
  rcases (show i % 2 = 0 ∨ i % 2 = 1 by omega) with h | h <;> rw [h]
  · exact ⟨true, rfl⟩
  · exact ⟨false, rfl⟩
theorem makeX_of {c : Str} {g : List D → Rs (List (Str × D))} {fs : En → Rs (List D)} {env : En} {ds : List D} {r : Rs (List (Str × D))} (h : fs env = .ok ds) (h2 : g ds = r) : makeX c g fs env = r >>= fun fs => .ok (.obj c fs) := by
  unfold makeX
  rw [h, Rs.bind_ok, h2]
section
variable (ns : List Str) (row : List Int) (gv : List (Bool × List Str)) (a0 a2 a3 a5 a6 a7 a8 : Option T)
end
noncomputable def T2 : En → Rs Fl := seqS (asgF 10 (compF (.nm 13) [13] (yesF) (op1 listD (varF 13)) (varL 9))) (seqS (tryF 11 ["InvalidPromise"] (fun c => c == "InvalidPromise") (b_law_1) (suE "InvalidPromise" (retF (andF (op1 notD (varF 8)) (andF (cF (.bl true)) (op1 notD (cF (.bl false)))))))) (seqS (ifS (tor (tnot (tstF (varF 8))) (tcmp neD (compF (.nm 13) [13] (yesF) (op1 listD (varF 13)) (varL 9)) (varF 10))) (retF (cF (.bl false))) (nilS)) (seqS (appF 9 (tupF (consA (cF (.str "once")) (consA (op2 idxD (varF 1) (cF (.int 0))) (nilA))))) (retF (andF (op2 eqD (op1 (attrD "Promise" "names") (varF 12)) (op1 tupleD (varF 1))) (op2 eqD (op1 (attrD "Promise" "entries") (varF 12)) (op1 tupleD (compF (.nm 13) [13] (tcmp inE (varF 13) (varL 6)) (varF 13) (varF 2)))))))))
theorem kept_fi {gv : List (Bool × List Str)} (h : ∀ w ∈ gv.map (·.2), okI w) (hl : gv.length ≤ 1000) : ∃ n, Fi (keptD gv) 2 n := ⟨_, Fi.lst (k := 1) (n := 3000) fun x hx => by
  obtain ⟨r, hr, rfl⟩ := List.mem_map.mp hx
  have ho := h r.2 (List.mem_map.mpr ⟨r, hr, rfl⟩)
  have q := Fi.lst (xs := r.2.map D.str) (k := 0) (n := 200) fun x hx => by
    obtain ⟨w, hw, rfl⟩ := List.mem_map.mp hx
    exact ho.2 w hw
  rw [List.length_map] at q
  exact q.mono (Nat.le_refl _) (by have := ho.1; omega)⟩
theorem ent_fi {fl : List (List Str)} (h : ∀ w ∈ fl, okI w) : ∃ n, Fi (.tup (fl.map tS)) 2 n := ⟨_, Fi.tup (k := 1) (n := 3000) fun x hx => by
  obtain ⟨w, hw, rfl⟩ := List.mem_map.mp hx
  exact (h w hw).fi⟩
theorem tryF_next {i : Nat} {dom : List Str} {sub : Str → Bool} {gb : En → Rs Fl} {gs : Exn → En → Rs Fl} {env e1 : En} (h : gb env = .ok (.next e1)) : tryF i dom sub gb gs env = .ok (.next e1) := by
  unfold tryF
  rw [h, Rs.bind_ok]
theorem tryF_raise {i : Nat} {dom : List Str} {sub : Str → Bool} {gb : En → Rs Fl} {gs : Exn → En → Rs Fl} {env e1 : En} {e : Exn} {d : D} (h : gb env = .ok (.raise e e1)) (h1 : e.cls ∈ dom) (h2 : e.fs = []) (h3 : noL e1 [i] = true) (h4 : i < e1.length) (h5 : sub e.cls = true) (h6 : gs e (e1.set i none) = .ok (.ret d)) :
    tryF i dom sub gb gs env = .ok (.ret d) := by
  unfold tryF
  rw [h, Rs.bind_ok]
  dsimp only
  rw [if_pos ⟨h1, h2, h3, h4⟩, if_pos h5, h6, Rs.bind_ok]
theorem andF_t {fa fb : En → Rs D} {env : En} {r : Rs D} (h : fa env = .ok (.bl true)) (h2 : fb env = r) : andF fa fb env = r := by
  unfold andF
  rw [h, Rs.bind_ok]
  exact h2
section
variable (f : Str) (rest : List Str) (row : List Int) (gv : List (Bool × List Str)) (I : List (List Str)) (g : Bool) (a0 a3 a5 t6 a7 : Option T)
end
theorem callL_ok {g : List D → Rs D} {fs : En → Rs (List D)} {env : En} {ds xs : List D} (h : fs env = .ok ds) (h2 : g ds = .ok (.lst xs)) : callL g fs env = .ok (.lst xs) := by
  unfold callL
  rw [h, Rs.bind_ok, h2, Rs.bind_ok]
theorem asgL_ok {i : Nat} {fa : En → Rs D} {env : En} {xs : List D} (h : fa env = .ok (.lst xs)) : asgL i fa env = .ok (.next (env.set i (some (.l xs)))) := by
  unfold asgL withE
  rw [h]
section
variable (f : Str) (rest : List Str) (row : List Int) (G I : List (List Str)) (g : Bool) (a0 a3 a5 t6 : Option T) (x7 : Option D)
end
end Orn

set_option linter.all false
set_option maxRecDepth 100000
set_option maxHeartbeats 1000000
namespace Orn
open L2 PySem PySem.Spec PyProof.Rows
/-! ### where two sequences part -/
section
variable {α : Type} [DecidableEq α]
def cpl : List α → List α → Nat
  | x :: xs, y :: ys => if x = y then cpl xs ys + 1 else 0
  | _, _ => 0
theorem cpl_le : ∀ a b : List α, cpl a b ≤ a.length ∧ cpl a b ≤ b.length
  | [], b => by simp [cpl]
  | _ :: _, [] => by simp [cpl]
  | x :: xs, y :: ys => by
    unfold cpl
    have := cpl_le xs ys
    split
    · simp; omega
    · simp
theorem cpl_take : ∀ a b : List α, a.take (cpl a b) = b.take (cpl a b)
  | [], b => by simp [cpl]
  | _ :: _, [] => by simp [cpl]
  | x :: xs, y :: ys => by
    unfold cpl
    split
    · rename_i h
      rw [List.take_succ_cons, List.take_succ_cons, h, cpl_take xs ys]
    · simp
theorem cpl_ge : ∀ (a b : List α) (k : Nat), k ≤ a.length → a.take k = b.take k → k ≤ cpl a b
  | a, b, 0, _, _ => Nat.zero_le _
  | [], b, k + 1, h, _ => by simp at h
  | x :: xs, [], k + 1, _, e => by simp at e
  | x :: xs, y :: ys, k + 1, h, e => by
    rw [List.take_succ_cons, List.take_succ_cons] at e
    injection e with e1 e2
    unfold cpl
    rw [if_pos e1]
    have := cpl_ge xs ys k (by simpa using h) e2
    omega
theorem cpl_at {a b : List α} {i : Nat} (h : i < cpl a b) : a[i]? = b[i]? := by
  have := congrArg (fun l => l[i]?) (cpl_take a b)
  simpa [List.getElem?_take, h] using this
theorem cpl_self (a : List α) : cpl a a = a.length := Nat.le_antisymm (cpl_le a a).1 (cpl_ge a a a.length (Nat.le_refl _) rfl)
/-- the k-th and the next one exchanged -/
def swp (l : List α) (k : Nat) : List α := l.take k ++ ((l.drop k).take 2).reverse ++ l.drop (k + 2)
theorem swp_eq (l : List α) (k : Nat) (h : k + 1 < l.length) : swp l k = l.take k ++ [l[k + 1], l[k]] ++ l.drop (k + 2) := by
  unfold swp
  congr 2
  rw [List.drop_eq_getElem_cons (by omega), List.drop_eq_getElem_cons h]
  rfl
theorem swp_same {l : List α} {k : Nat} (h : k + 1 < l.length) (e : l[k] = l[k + 1]) : swp l k = l := by
  rw [swp_eq l k h]
  have h1 : l = l.take k ++ l.drop k := (List.take_append_drop k l).symm
  conv => rhs; rw [h1, List.drop_eq_getElem_cons (show k < l.length by omega), List.drop_eq_getElem_cons h]
  rw [← e, List.append_assoc]
  rfl
theorem swp_cpl {a : List α} {k : Nat} (h : k + 1 < a.length) (ne : a ≠ swp a k) : cpl a (swp a k) = k := by
  have e := swp_eq a k h
  have t : (swp a k).take k = a.take k := by
    rw [e, List.append_assoc, List.take_append_of_le_length (by rw [List.length_take]; omega), List.take_take, Nat.min_self]
  have g := cpl_ge a (swp a k) k (by omega) t.symm
  refine Nat.le_antisymm (Nat.le_of_not_lt fun z => ?_) g
  have q := cpl_at z
  have q2 : (swp a k)[k]? = some a[k + 1] := by
    rw [e, List.append_assoc, List.getElem?_append_right (by rw [List.length_take]; omega), List.length_take, Nat.min_eq_left (by omega), Nat.sub_self]
    rfl
  rw [q2, List.getElem?_eq_getElem (by omega)] at q
  exact ne (swp_same h (Option.some.inj q)).symm
/-- what an exchange shows, found at the place where the sequences part, or at any place -/
theorem exch_iff {a b : List α} {P : α → α → Prop} :
    (cpl a b + 1 < a.length ∧ b = swp a (cpl a b) ∧ ∃ x y, a[cpl a b]? = some x ∧ a[cpl a b + 1]? = some y ∧ P x y) ↔
    ∃ k, k + 1 < a.length ∧ swp a k = b ∧ a ≠ b ∧ ∃ x y, a[k]? = some x ∧ a[k + 1]? = some y ∧ P x y := by
  constructor
  · rintro ⟨h1, h2, h3⟩
    refine ⟨cpl a b, h1, h2.symm, fun e => ?_, h3⟩
    rw [← e, cpl_self] at h1
    omega
  · rintro ⟨k, h1, rfl, h3, h4⟩
    rw [swp_cpl h1 h3]
    exact ⟨h1, rfl, h4⟩
theorem exch_one {a b : List α} {k j : Nat} (h1 : k + 1 < a.length) (e1 : swp a k = b) (h2 : j + 1 < a.length) (e2 : swp a j = b) (ne : a ≠ b) : k = j := by
  have q1 := swp_cpl h1 (by rw [e1]; exact ne)
  have q2 := swp_cpl h2 (by rw [e2]; exact ne)
  rw [e1] at q1
  rw [e2] at q2
  omega
/-- one more, at a place -/
theorem again_move {a b : List α} {k : Nat} (hk : k < b.length) (e : b.take k ++ b.drop (k + 1) = a) : k ≤ cpl a b ∧ cpl a b < b.length ∧ b[cpl a b]? = b[k]? ∧ b.drop (cpl a b + 1) = a.drop (cpl a b) := by
  have hl : a.length + 1 = b.length := by rw [← e, List.length_append, List.length_take, List.length_drop]; omega
  have t : a.take k = b.take k := by rw [← e, List.take_append_of_le_length (by rw [List.length_take]; omega), List.take_take, Nat.min_self]
  have g := cpl_ge a b k (by omega) t
  have hle := cpl_le a b
  have at_ : ∀ j, k ≤ j → a[j]? = b[j + 1]? := fun j hj => by
    rw [← e, List.getElem?_append_right (by rw [List.length_take]; omega), List.length_take, Nat.min_eq_left (by omega), List.getElem?_drop]
    congr 1
    omega
  have run : ∀ d, k + d ≤ cpl a b → b[k + d]? = b[k]? := fun d => by
    induction d with
    | zero => intro _; rfl
    | succ d ih =>
      intro hd
      rw [show k + (d + 1) = (k + d) + 1 by omega, ← at_ (k + d) (by omega), cpl_at (show k + d < cpl a b by omega)]
      exact ih (by omega)
  refine ⟨g, by omega, ?_, ?_⟩
  · have := run (cpl a b - k) (by omega)
    rwa [show k + (cpl a b - k) = cpl a b by omega] at this
  · refine List.ext_getElem? fun i => ?_
    rw [List.getElem?_drop, List.getElem?_drop, at_ _ (by omega)]
    congr 1
    omega
theorem again_iff {a b : List α} {P : α → Prop} :
    (b.length = a.length + 1 ∧ b.drop (cpl a b + 1) = a.drop (cpl a b) ∧ ∃ x, b[cpl a b]? = some x ∧ P x ∧ x ∈ a.take (cpl a b)) ↔
    b.length = a.length + 1 ∧ ∃ k x, b[k]? = some x ∧ b.take k ++ b.drop (k + 1) = a ∧ x ∈ b.take k ∧ P x := by
  constructor
  · rintro ⟨h1, h2, x, h3, h4, h5⟩
    refine ⟨h1, cpl a b, x, h3, ?_, by rw [← cpl_take]; exact h5, h4⟩
    rw [h2, ← cpl_take, List.take_append_drop]
  · rintro ⟨h1, k, x, h2, h3, h4, h5⟩
    have hk := (List.getElem?_eq_some_iff.mp h2).1
    obtain ⟨q1, q2, q3, q4⟩ := again_move hk h3
    refine ⟨h1, q4, x, by rw [q3, h2], h5, ?_⟩
    rw [cpl_take]
    have : b.take k = (b.take (cpl a b)).take k := by rw [List.take_take, Nat.min_eq_left q1]
    rw [this] at h4
    exact List.mem_of_mem_take h4
end
end Orn

set_option linter.all false
set_option maxRecDepth 100000
set_option maxHeartbeats 1000000
namespace Orn
open L2 PySem PySem.Spec PyProof.Rows
/-! ### data that is compared as what it stands for -/
structure Cod {α : Type} [DecidableEq α] (e : α → D) (p : α → PyData) : Prop where
  py : ∀ a, toPy (e a) = some (p a)
  eqv : ∀ a b, PyData.eqv (p a) (p b) = decide (a = b)
section
variable {α : Type} [DecidableEq α] {e : α → D} {p : α → PyData}
theorem Cod.pys (c : Cod e p) : ∀ l : List α, toPys (l.map e) = some (l.map p)
  | [] => by simp [toPys]
  | a :: l => by
    rw [List.map_cons, toPys, c.py, Cod.pys c l]
    rfl
theorem Cod.eqvs (c : Cod e p) : ∀ a b : List α, PyData.eqvAll (a.map p) (b.map p) = decide (a = b)
  | [], [] => by simp [PyData.eqvAll]
  | [], y :: ys => by simp [PyData.eqvAll]
  | x :: xs, [] => by simp [PyData.eqvAll]
  | x :: xs, y :: ys => by
    rw [List.map_cons, List.map_cons, PyData.eqvAll, Cod.eqvs c xs ys, c.eqv]
    by_cases h : x = y
    · subst h
      simp
    · simp [h]
theorem Cod.any (c : Cod e p) (w : α) : ∀ l : List α, ((l.map p).any fun z => PyData.eqv z (p w)) = decide (w ∈ l)
  | [] => by simp
  | x :: xs => by
    rw [List.map_cons, List.any_cons, Cod.any c w xs, c.eqv]
    by_cases h : x = w
    · subst h
      simp
    · have h' : w ≠ x := fun z => h z.symm
      simp [h, h']
theorem shp {d : D} {q : PyData} {k n : Nat} (hk : k ≤ 64) (h : Fi d k n) (e : toPy d = some q) : SeqAt.shaped q = true := by
  obtain ⟨p, h1, h2, _⟩ := h.shaped hk
  rw [e] at h1
  injection h1 with h1
  rw [h1]
  exact h2
variable {k n : Nat}
theorem Cod.lstPy (c : Cod e p) (l : List α) : toPy (.lst (l.map e)) = some (.list (l.map p)) := by
  rw [toPy, c.pys]
  rfl
theorem Cod.tupPy (c : Cod e p) (l : List α) : toPy (.tup (l.map e)) = some (.tuple (l.map p)) := by
  rw [toPy, c.pys]
  rfl
theorem Cod.shpL (c : Cod e p) (hk : k ≤ 63) {l : List α} (h : ∀ a ∈ l, Fi (e a) k n) : SeqAt.shaped (.list (l.map p)) = true :=
  shp (k := k + 1) (by omega) (Fi.lst (xs := l.map e) fun x hx => by
    obtain ⟨a, ha, rfl⟩ := List.mem_map.mp hx
    exact h a ha) (c.lstPy l)
/-- two lists -/
theorem Cod.eqL (c : Cod e p) (hk : k ≤ 63) {a b : List α} (ha : ∀ x ∈ a, Fi (e x) k n) (hb : ∀ x ∈ b, Fi (e x) k n) : eqD (.lst (a.map e)) (.lst (b.map e)) = .ok (.bl (decide (a = b))) := by
  unfold eqD
  rw [show Orn.flat (D.lst (a.map e)) = none from rfl]
  dsimp only
  rw [c.lstPy, c.lstPy]
  dsimp only
  rw [if_pos ⟨c.shpL hk ha, c.shpL hk hb⟩, PyData.eqv, c.eqvs]
theorem neD_of {x y : D} {b : Bool} (h : eqD x y = .ok (.bl b)) : neD x y = .ok (.bl (!b)) := by
  unfold neD notR
  rw [h]
  rfl
/-- two of them -/
theorem Cod.eq1 (c : Cod e p) (hk : k ≤ 64) {a b : α} (hf : Orn.flat (e a) = none) (ha : Fi (e a) k n) (hb : Fi (e b) k n) : eqD (e a) (e b) = .ok (.bl (decide (a = b))) := by
  unfold eqD
  rw [hf]
  dsimp only
  rw [c.py, c.py]
  dsimp only
  rw [if_pos ⟨shp hk ha (c.py a), shp hk hb (c.py b)⟩, c.eqv]
theorem Cod.inL (c : Cod e p) (hk : k ≤ 63) {w : α} {l : List α} (hw : Fi (e w) k n) (hl : ∀ x ∈ l, Fi (e x) k n) : inE (e w) (.lst (l.map e)) = .ok (.bl (decide (w ∈ l))) := by
  unfold inE
  rw [c.py, c.lstPy]
  dsimp only
  rw [if_pos ⟨shp (by omega) hw (c.py w), c.shpL hk hl⟩, c.any]
theorem Cod.inT (c : Cod e p) (hk : k ≤ 63) {w : α} {l : List α} (hw : Fi (e w) k n) (hl : ∀ x ∈ l, Fi (e x) k n) : inB (e w) (.tup (l.map e)) = .ok (.bl (decide (w ∈ l))) := by
  unfold inB inBn
  rw [c.py, c.tupPy]
  show (if SeqAt.shaped (p w) = true ∧ SeqAt.shaped (.list (l.map p)) = true then Rs.ok (D.bl (((l.map p).any fun z => PyData.eqv z (p w)) != false)) else .bad) = _
  rw [if_pos ⟨shp (by omega) hw (c.py w), c.shpL hk hl⟩, c.any]
  simp
end
/-! ### messages -/
abbrev Mg := Str × Int
def eMg (m : Mg) : D := .tup [.str m.1, .int m.2]
def lMg (m : Mg) : D := .lst [.str m.1, .int m.2]
def pMg (m : Mg) : PyData := .tuple [.str m.1, .int m.2]
theorem cod_tS : Cod tS pS := ⟨toPy_tS, eqv_pS⟩
theorem cod_mg : Cod eMg pMg := ⟨fun a => rfl, fun a b => by
  unfold pMg
  simp only [PyData.eqv, PyData.eqvAll]
  obtain ⟨x, i⟩ := a
  obtain ⟨y, j⟩ := b
  by_cases h1 : x = y
  · by_cases h2 : i = j
    · subst h1; subst h2; simp
    · simp [h1, h2]
  · simp [h1]⟩
def okMg (m : Mg) : Prop := okS m.1 ∧ m.2.natAbs ≤ 2000000
theorem okMg.fi {m : Mg} (h : okMg m) : Fi (eMg m) 1 5000 :=
  (Fi.tup (k := 0) (n := 1921) fun x hx => by
    simp only [List.mem_cons, List.not_mem_nil, or_false] at hx
    rcases hx with rfl | rfl
    · exact h.1.mono (Nat.le_refl _) (by omega)
    · exact fi_int (show small m.2 by unfold small; have := h.2; omega)).mono (by omega) (by simp)
/-! ### relations, items of two messages -/
def relT (a b : Int) : Str := if a < b then "less" else if a = b then "equal" else "greater"
def itmT (a b : Mg) : List Str := i4 a.1 b.1 (relT a.2 b.2)
theorem eqD_int (a b : Int) : eqD (.int a) (.int b) = .ok (.bl (decide (a = b))) := by
  unfold eqD
  show (if scal (.int a) (.int b) = true then Rs.ok (D.bl (decide (V.int a = V.int b))) else .bad) = _
  rw [if_pos (show scal (V.int a) (V.int b) = true from rfl)]
  congr 2
  exact decide_eq_decide.mpr ⟨fun h => by injection h, fun h => by rw [h]⟩
theorem eqD_str (a b : Str) : eqD (.str a) (.str b) = .ok (.bl (decide (a = b))) := by
  unfold eqD
  show (if scal (.str a) (.str b) = true then Rs.ok (D.bl (decide (V.str a = V.str b))) else .bad) = _
  rw [if_pos (show scal (V.str a) (V.str b) = true from rfl)]
  congr 2
  exact decide_eq_decide.mpr ⟨fun h => by injection h, fun h => by rw [h]⟩
theorem eqD_bl (a b : Bool) : eqD (.bl a) (.bl b) = .ok (.bl (decide (a = b))) := by
  unfold eqD
  show (if scal (.bl a) (.bl b) = true then Rs.ok (D.bl (decide (V.bl a = V.bl b))) else .bad) = _
  rw [if_pos (show scal (V.bl a) (V.bl b) = true from rfl)]
  congr 2
  exact decide_eq_decide.mpr ⟨fun h => by injection h, fun h => by rw [h]⟩
theorem relation_ok (a b : Int) : m_relation_of [.int a, .int b] = .ok (.str (relT a b)) := by
  refine runF_ret (g := f_relation_of) (N := 2) ?_
  rw [show args0 [D.int a, D.int b] 2 = [some (.d (.int a)), some (.d (.int b))] from rfl]
  unfold f_relation_of relT
  have t1 : tcmp ltD (varF 0) (varF 1) [some (.d (.int a)), some (.d (.int b))] = .ok (decide (a < b)) := tcmp_ok (a := .int a) (b := .int b) rfl rfl (lt_ii _ _)
  have t2 : tcmp eqD (varF 0) (varF 1) [some (.d (.int a)), some (.d (.int b))] = .ok (decide (a = b)) := tcmp_ok (a := .int a) (b := .int b) rfl rfl (eqD_int _ _)
  by_cases h : a < b
  · rw [if_pos h]
    unfold seqS
    rw [ifS_t (t1.trans (by rw [decide_eq_true h]))]
    rfl
  · rw [if_neg h]
    refine skipS (t1.trans (by rw [decide_eq_false h])) ?_
    unfold retF withE ifF
    rw [t2]
    by_cases h2 : a = b
    · rw [if_pos h2, decide_eq_true h2]; rfl
    · rw [if_neg h2, decide_eq_false h2]; rfl
theorem law_relation_ok (a b : Int) : m_law_relation [.int a, .int b] = .ok (.str (relT a b)) := by
  refine runF_ret (g := f_law_relation) (N := 2) ?_
  rw [show args0 [D.int a, D.int b] 2 = [some (.d (.int a)), some (.d (.int b))] from rfl]
  unfold f_law_relation relT
  have t1 : tcmp ltD (varF 0) (varF 1) [some (.d (.int a)), some (.d (.int b))] = .ok (decide (a < b)) := tcmp_ok (a := .int a) (b := .int b) rfl rfl (lt_ii _ _)
  have t2 : tcmp ltD (varF 1) (varF 0) [some (.d (.int a)), some (.d (.int b))] = .ok (decide (b < a)) := tcmp_ok (a := .int b) (b := .int a) rfl rfl (lt_ii _ _)
  by_cases h : a < b
  · rw [if_pos h]
    unfold seqS
    rw [ifS_t (t1.trans (by rw [decide_eq_true h]))]
    rfl
  · rw [if_neg h]
    refine skipS (t1.trans (by rw [decide_eq_false h])) ?_
    by_cases h2 : a = b
    · rw [if_pos h2]
      refine skipS (t2.trans (by rw [decide_eq_false (by omega)])) ?_
      rfl
    · rw [if_neg h2]
      unfold seqS
      rw [ifS_t (t2.trans (by rw [decide_eq_true (by omega)]))]
      rfl
end Orn

set_option linter.all false
set_option maxRecDepth 100000
set_option maxHeartbeats 1000000
namespace Orn
open L2 PySem PySem.Spec PyProof.Rows
def isMg (d : D) (m : Mg) : Prop := d = eMg m ∨ d = lMg m
theorem isMg.i0 {d : D} {m : Mg} (h : isMg d m) : idxD d (.int 0) = .ok (.str m.1) := by rcases h with rfl | rfl <;> rfl
theorem isMg.i1 {d : D} {m : Mg} (h : isMg d m) : idxD d (.int 1) = .ok (.int m.2) := by rcases h with rfl | rfl <;> rfl
theorem order_items_ok {da db : D} {a b : Mg} (ha : isMg da a) (hb : isMg db b) : m_order_items [da, db] = .ok (.lst ([itmT a b, itmT b a].map tS)) := by
  refine runF_ret (g := f_order_items) (N := 4) ?_
  rw [show args0 [da, db] 4 = [some (.d da), some (.d db), none, none] from rfl]
  unfold f_order_items
  refine retF_ok ?_
  refine compF_ok (d := .tup ([true, false].map fun (z : Bool) => .tup (if z = true then [da, db] else [db, da]))) ?_ rfl rfl (by unfold SL; simp) ?_
  · exact tupF_ok (consA_ok (tupF_ok (consA_ok rfl (consA_ok rfl rfl)) (by unfold SL; simp)) (consA_ok (tupF_ok (consA_ok rfl (consA_ok rfl rfl)) (by unfold SL; simp)) rfl)) (by unfold SL; simp)
  · have one : ∀ {dx dy : D} {x y : Mg}, isMg dx x → isMg dy y → tupF (consA (cF (.str "order")) (consA (op2 idxD (varF 2) (cF (.int 0))) (consA (op2 idxD (varF 3) (cF (.int 0))) (consA (callF m_relation_of (consA (op2 idxD (varF 2) (cF (.int 1))) (consA (op2 idxD (varF 3) (cF (.int 1))) (nilA)))) (nilA))))) [some (.d da), some (.d db), some (.d dx), some (.d dy)] = .ok (tS (itmT x y)) := fun {dx dy x y} hx hy => by
      refine tupF_ok (ds := [.str "order", .str x.1, .str y.1, .str (relT x.2 y.2)]) (consA_ok rfl (consA_ok (op2_of (a := dx) (b := .int 0) rfl rfl hx.i0) (consA_ok (op2_of (a := dy) (b := .int 0) rfl rfl hy.i0) (consA_ok ?_ rfl)))) (by unfold SL; simp)
      exact callF_ok (ds := [.int x.2, .int y.2]) (consA_ok (op2_of (a := dx) (b := .int 1) rfl rfl hx.i1) (consA_ok (op2_of (a := dy) (b := .int 1) rfl rfl hy.i1) rfl)) (relation_ok _ _)
    rw [comp_yes (fun (z : Bool) => D.tup (if z = true then [da, db] else [db, da])) (fun z => if z = true then tS (itmT a b) else tS (itmT b a)) [true, false] fun z _ => ?_]
    · rfl
    · cases z
      · exact ⟨[some (.d da), some (.d db), some (.d db), some (.d da)], rfl, one hb ha⟩
      · exact ⟨[some (.d da), some (.d db), some (.d da), some (.d db)], rfl, one ha hb⟩
theorem okS_rel (a b : Int) : okS (relT a b) := by
  unfold relT
  split
  · exact okS_less
  · split
    · exact okS_equal
    · exact okS_greater
theorem okI_itm {a b : Mg} (ha : okMg a) (hb : okMg b) : okI (itmT a b) := okI4 ha.1 hb.1 (okS_rel _ _)
def keepT (fl : List (List Str)) (a b : Mg) : Bool := decide (itmT a b ∈ fl) || decide (itmT b a ∈ fl)
theorem any2 (x y : Bool) : anyD (.lst [.bl x, .bl y]) = .ok (.bl (x || y)) := by cases x <;> cases y <;> rfl
theorem keeps_ok {ns : List Str} {fl : List (List Str)} {da db : D} {a b : Mg} (ha : isMg da a) (hb : isMg db b) (oa : okMg a) (ob : okMg b) (hf : ∀ w ∈ fl, okI w) :
    m_keeps [.obj "Promise" (prF ns fl), da, db] = .ok (.bl (keepT fl a b)) := by
  refine runF_ret (g := f_keeps) (N := 4) ?_
  rw [show args0 [D.obj "Promise" (prF ns fl), da, db] 4 = [some (.d (.obj "Promise" (prF ns fl))), some (.d da), some (.d db), none] from rfl]
  unfold f_keeps
  refine retF_ok ?_
  refine op1_of (a := .lst [.bl (decide (itmT a b ∈ fl)), .bl (decide (itmT b a ∈ fl))]) ?_ (any2 _ _)
  refine compF_ok (d := .lst ([itmT a b, itmT b a].map tS)) (callF_ok (ds := [da, db]) (consA_ok rfl (consA_ok rfl rfl)) (order_items_ok ha hb)) rfl rfl (by unfold SL; simp) ?_
  rw [comp_yes tS (fun w => D.bl (decide (w ∈ fl))) [itmT a b, itmT b a] fun w hw => ⟨[some (.d (.obj "Promise" (prF ns fl))), some (.d da), some (.d db), some (.d (tS w))], rfl, ?_⟩]
  · rfl
  · have ow : okI w := by
      simp only [List.mem_cons, List.not_mem_nil, or_false] at hw
      rcases hw with rfl | rfl
      · exact okI_itm oa ob
      · exact okI_itm ob oa
    exact op2_of (a := tS w) (b := .tup (fl.map tS)) rfl (op1_of (a := .obj "Promise" (prF ns fl)) rfl rfl) ((cod_tS.inT (by omega) ow.fi fun x hx => (hf x hx).fi).trans (congrArg (fun z => Rs.ok (D.bl z)) (decide_eq_decide.mpr Iff.rfl)))
/-! ### the law's own -/
def ikT (x y r : Str) (a b : Mg) : Bool :=
  if x = y then decide (a.1 = x) && (decide (b.1 = x) && !decide (a.2 = b.2))
  else if a.1 = x ∧ b.1 = y then decide (relT a.2 b.2 = r)
  else if b.1 = x ∧ a.1 = y then decide (relT b.2 a.2 = r)
  else false
theorem ne_once : ("order" : Str) ≠ "once" := by decide +kernel
theorem andF_bl {fa fb : En → Rs D} {env : En} {x y : Bool} (h : fa env = .ok (.bl x)) (h2 : fb env = .ok (.bl y)) : andF fa fb env = .ok (.bl (x && y)) := by
  unfold andF
  rw [h, Rs.bind_ok]
  cases x
  · rfl
  · exact h2
theorem fi_2 {a b : Str} (ha : okS a) (hb : okS b) : Fi (tS [a, b]) 1 3000 := okI.fi ⟨by show 2 ≤ 10; omega, fun w hw => by
  simp only [List.mem_cons, List.not_mem_nil, or_false] at hw
  rcases hw with rfl | rfl
  · exact ha
  · exact hb⟩
theorem item_keeps_ok {x y r : Str} {a b : Mg} (ox : okS x) (oy : okS y) (oa : okMg a) (ob : okMg b) : m_law_item_keeps [tS (i4 x y r), eMg a, eMg b] = .ok (.bl (ikT x y r a b)) := by
  refine runF_ret (g := f_law_item_keeps) (N := 3) ?_
  rw [show args0 [tS (i4 x y r), eMg a, eMg b] 3 = [some (.d (tS (i4 x y r))), some (.d (eMg a)), some (.d (eMg b))] from rfl]
  unfold f_law_item_keeps
  generalize hE : ([some (.d (tS (i4 x y r))), some (.d (eMg a)), some (.d (eMg b))] : En) = E
  have v0 : ∀ (k : Int) (d : D), idxD (tS (i4 x y r)) (.int k) = .ok d → op2 idxD (varF 0) (cF (.int k)) E = .ok d := fun k d h => op2_of (a := tS (i4 x y r)) (b := .int k) (by rw [← hE]; rfl) rfl h
  have v1 : ∀ (k : Int) (d : D), idxD (eMg a) (.int k) = .ok d → op2 idxD (varF 1) (cF (.int k)) E = .ok d := fun k d h => op2_of (a := eMg a) (b := .int k) (by rw [← hE]; rfl) rfl h
  have v2 : ∀ (k : Int) (d : D), idxD (eMg b) (.int k) = .ok d → op2 idxD (varF 2) (cF (.int k)) E = .ok d := fun k d h => op2_of (a := eMg b) (b := .int k) (by rw [← hE]; rfl) rfl h
  have i1 := v0 1 (.str x) rfl
  have i2' := v0 2 (.str y) rfl
  have i3 := v0 3 (.str r) rfl
  have a0 := v1 0 (.str a.1) rfl
  have a1 := v1 1 (.int a.2) rfl
  have b0 := v2 0 (.str b.1) rfl
  have b1 := v2 1 (.int b.2) rfl
  refine skipS ((tcmp_ok (v0 0 (.str "order") rfl) rfl (eqD_str _ _)).trans (by rw [decide_eq_false ne_once])) ?_
  have t1 := tcmp_ok i1 i2' (eqD_str x y)
  unfold ikT
  by_cases h : x = y
  · rw [if_pos h]
    unfold seqS
    rw [ifS_t (t1.trans (by rw [decide_eq_true h]))]
    rw [retF_ok (andF_bl (op2_of a0 i1 (eqD_str _ _)) (andF_bl (op2_of b0 i1 (eqD_str _ _)) (op2_of a1 b1 (neD_of (eqD_int _ _)))))]
    rfl
  · rw [if_neg h]
    refine skipS (t1.trans (by rw [decide_eq_false h])) ?_
    have pr : ∀ {fa fb : En → Rs D} {u v : Str}, fa E = .ok (.str u) → fb E = .ok (.str v) → tupF (consA fa (consA fb nilA)) E = .ok (tS [u, v]) := fun {fa fb u v} h1 h2 => tupF_ok (consA_ok h1 (consA_ok h2 rfl)) (by unfold SL; simp)
    have two : ∀ {u v : Str}, okS u → okS v → eqD (tS [u, v]) (tS [x, y]) = .ok (.bl (decide (u = x ∧ v = y))) := fun {u v} hu hv => by
      refine (cod_tS.eq1 (k := 1) (by omega) rfl (fi_2 hu hv) (fi_2 ox oy)).trans ?_
      congr 2
      exact decide_eq_decide.mpr ⟨fun z => by injection z with z1 z2; injection z2 with z2 _; exact ⟨z1, z2⟩, fun ⟨z1, z2⟩ => by rw [z1, z2]⟩
    have t2 := tcmp_ok (pr a0 b0) (pr i1 i2') (two oa.1 ob.1)
    have t3 := tcmp_ok (pr b0 a0) (pr i1 i2') (two ob.1 oa.1)
    by_cases h2 : a.1 = x ∧ b.1 = y
    · rw [if_pos h2]
      unfold seqS
      rw [ifS_t (t2.trans (by rw [decide_eq_true h2]))]
      rw [retF_ok (op2_of (callF_ok (ds := [.int a.2, .int b.2]) (consA_ok a1 (consA_ok b1 rfl)) (law_relation_ok _ _)) i3 (eqD_str _ _))]
      rfl
    · rw [if_neg h2]
      refine skipS (t2.trans (by rw [decide_eq_false h2])) ?_
      by_cases h3 : b.1 = x ∧ a.1 = y
      · rw [if_pos h3]
        unfold seqS
        rw [ifS_t (t3.trans (by rw [decide_eq_true h3]))]
        rw [retF_ok (op2_of (callF_ok (ds := [.int b.2, .int a.2]) (consA_ok b1 (consA_ok a1 rfl)) (law_relation_ok _ _)) i3 (eqD_str _ _))]
        rfl
      · rw [if_neg h3]
        refine skipS (t3.trans (by rw [decide_eq_false h3])) ?_
        rfl
theorem item_keeps_once {x : Str} {a b : Mg} : m_law_item_keeps [tS (i2 x), eMg a, eMg b] = .ok (.bl false) := by
  refine runF_ret (g := f_law_item_keeps) (N := 3) ?_
  rw [show args0 [tS (i2 x), eMg a, eMg b] 3 = [some (.d (tS (i2 x))), some (.d (eMg a)), some (.d (eMg b))] from rfl]
  unfold f_law_item_keeps seqS
  rw [ifS_t (tcmp_ok (a := .str "once") (b := .str "once") (c := true) rfl rfl ((eqD_str _ _).trans (by rw [decide_eq_true rfl])))]
  rfl
/-! ### both sides say the same -/
theorem rel_less (a b : Int) : relT a b = "less" ↔ a < b := by
  unfold relT
  by_cases h : a < b
  · simp [h]
  · rw [if_neg h]
    refine ⟨fun z => ?_, fun z => absurd z h⟩
    split at z
    · exact absurd z (by decide +kernel)
    · exact absurd z (by decide +kernel)
theorem i4_eq {a b r x y s : Str} : i4 a b r = i4 x y s ↔ a = x ∧ b = y ∧ r = s := by
  unfold i4
  simp
theorem i4_i2 {a b r x : Str} : i4 a b r ≠ i2 x := fun h => by
  have := congrArg List.length h
  simp [i4, i2] at this
theorem ik_less {n : Str} (a b : Mg) : ikT n n "less" a b = true ↔ itmT a b = i4 n n "less" ∨ itmT b a = i4 n n "less" := by
  unfold ikT itmT
  rw [if_pos rfl, i4_eq, i4_eq, rel_less, rel_less]
  simp only [Bool.and_eq_true, decide_eq_true_eq, Bool.not_eq_true', decide_eq_false_iff_not]
  constructor
  · rintro ⟨h1, h2, h3⟩
    rcases Int.lt_trichotomy a.2 b.2 with q | q | q
    · exact .inl ⟨h1, h2, q⟩
    · exact absurd q h3
    · exact .inr ⟨h2, h1, q⟩
  · rintro (⟨h1, h2, h3⟩ | ⟨h1, h2, h3⟩)
    · exact ⟨h1, h2, by omega⟩
    · exact ⟨h2, h1, by omega⟩
theorem ik_rel {n o r : Str} (ne : n ≠ o) (a b : Mg) : ikT n o r a b = true ↔ itmT a b = i4 n o r ∨ itmT b a = i4 n o r := by
  unfold ikT itmT
  rw [if_neg ne, i4_eq, i4_eq]
  by_cases h1 : a.1 = n ∧ b.1 = o
  · rw [if_pos h1, decide_eq_true_eq]
    refine ⟨fun h => .inl ⟨h1.1, h1.2, h⟩, ?_⟩
    rintro (⟨_, _, h⟩ | ⟨h2, _, _⟩)
    · exact h
    · exact absurd (h2.symm.trans h1.2) ne
  · rw [if_neg h1]
    by_cases h2 : b.1 = n ∧ a.1 = o
    · rw [if_pos h2, decide_eq_true_eq]
      refine ⟨fun h => .inr ⟨h2.1, h2.2, h⟩, ?_⟩
      rintro (⟨q, q2, _⟩ | ⟨_, _, h⟩)
      · exact absurd ⟨q, q2⟩ h1
      · exact h
    · rw [if_neg h2]
      refine ⟨fun h => (Bool.false_ne_true h).elim, ?_⟩
      rintro (⟨q, q2, _⟩ | ⟨q, q2, _⟩)
      · exact absurd ⟨q, q2⟩ h1
      · exact absurd ⟨q, q2⟩ h2
/-- an item of the names: what the law says of it -/
theorem item_ev {ns : List Str} (hd : ns.Nodup) (ho : ∀ n ∈ ns, okWord n) {w : List Str} (hw : w ∈ evS ns) {a b : Mg} (oa : okMg a) (ob : okMg b) :
    ∃ z : Bool, m_law_item_keeps [tS w, eMg a, eMg b] = .ok (.bl z) ∧ (z = true ↔ itmT a b = w ∨ itmT b a = w) := by
  rcases mem_evS.mp hw with ⟨k, n, hk, h⟩ | ⟨n, hn, rfl⟩
  · have hn := List.mem_of_getElem? hk
    rcases h with rfl | ⟨o, h1, r, h2, rfl⟩
    · exact ⟨_, item_keeps_ok (okS_word (ho n hn)) (okS_word (ho n hn)) oa ob, ik_less a b⟩
    · exact ⟨_, item_keeps_ok (okS_word (ho n hn)) (okS_word (ho o (List.mem_of_mem_drop h1))) oa ob, ik_rel (drop_ne hd hk h1) a b⟩
  · refine ⟨false, item_keeps_once, fun h => (Bool.false_ne_true h).elim, ?_⟩
    rintro (h | h)
    · exact absurd h i4_i2
    · exact absurd h i4_i2
end Orn

set_option linter.all false
set_option maxRecDepth 100000
set_option maxHeartbeats 1000000
namespace Orn
open L2 PySem PySem.Spec PyProof.Rows
/-! ### where two sequences part, as the program finds it -/
theorem okMg.ne {a b : Mg} (ha : okMg a) (hb : okMg b) : neD (eMg a) (eMg b) = .ok (.bl (!decide (a = b))) :=
  neD_of (cod_mg.eq1 (k := 1) (by omega) rfl ha.fi hb.fi)
theorem cl_loop (A B : Option T) : ∀ (a b : List Mg) (k : Nat) (x2 x3 x4 : Option T), (∀ m ∈ a, okMg m) → (∀ m ∈ b, okMg m) →
    (cpl a b < min a.length b.length → loopF (Tg.tp [.nm 2, .tp [.nm 3, .nm 4]]).put b_common_length_0 ((zip2 (a.map eMg) (b.map eMg)).mapIdx fun i x => .tup [.int ((k + i : Nat) : Int), x]) [A, B, x2, x3, x4] = .ok (.ret (.int ((k + cpl a b : Nat) : Int)))) ∧
    (cpl a b = min a.length b.length → ∃ y2 y3 y4, loopF (Tg.tp [.nm 2, .tp [.nm 3, .nm 4]]).put b_common_length_0 ((zip2 (a.map eMg) (b.map eMg)).mapIdx fun i x => .tup [.int ((k + i : Nat) : Int), x]) [A, B, x2, x3, x4] = .ok (.next [A, B, y2, y3, y4]))
  | [], b, k, x2, x3, x4, _, _ => ⟨fun h => by simp at h, fun _ => ⟨x2, x3, x4, by simp [zip2, loopF]⟩⟩
  | x :: a, [], k, x2, x3, x4, _, _ => ⟨fun h => by simp at h, fun _ => ⟨x2, x3, x4, by simp [zip2, loopF]⟩⟩
  | x :: a, y :: b, k, x2, x3, x4, ha, hb => by
    have e : (zip2 ((x :: a).map eMg) ((y :: b).map eMg)).mapIdx (fun i z => D.tup [.int ((k + i : Nat) : Int), z]) = .tup [.int (k : Nat), .tup [eMg x, eMg y]] :: (zip2 (a.map eMg) (b.map eMg)).mapIdx fun i z => D.tup [.int ((k + 1 + i : Nat) : Int), z] := by
      rw [List.map_cons, List.map_cons]
      conv => lhs; unfold zip2
      rw [List.mapIdx_cons]
      congr 1
      congr 1
      funext i z
      rw [show k + (i + 1) = k + 1 + i by omega]
    rw [e]
    have ox := ha x List.mem_cons_self
    have oy := hb y List.mem_cons_self
    obtain ⟨i1, i2⟩ := cl_loop A B a b (k + 1) (some (.d (.int (k : Nat)))) (some (.d (eMg x))) (some (.d (eMg y))) (fun m h => ha m (List.mem_cons_of_mem _ h)) (fun m h => hb m (List.mem_cons_of_mem _ h))
    have t : tcmp neD (varF 3) (varF 4) [A, B, some (.d (.int (k : Nat))), some (.d (eMg x)), some (.d (eMg y))] = .ok (!decide (x = y)) := tcmp_ok (a := eMg x) (b := eMg y) rfl rfl (ox.ne oy)
    have st : ∀ r, b_common_length_0 [A, B, some (.d (.int (k : Nat))), some (.d (eMg x)), some (.d (eMg y))] = r → loopF (Tg.tp [.nm 2, .tp [.nm 3, .nm 4]]).put b_common_length_0 (.tup [.int (k : Nat), .tup [eMg x, eMg y]] :: (zip2 (a.map eMg) (b.map eMg)).mapIdx fun i z => D.tup [.int ((k + 1 + i : Nat) : Int), z]) [A, B, x2, x3, x4] = seqS b_common_length_0 (loopF (Tg.tp [.nm 2, .tp [.nm 3, .nm 4]]).put b_common_length_0 ((zip2 (a.map eMg) (b.map eMg)).mapIdx fun i z => D.tup [.int ((k + 1 + i : Nat) : Int), z])) [A, B, some (.d (.int (k : Nat))), some (.d (eMg x)), some (.d (eMg y))] := fun r _ => by
      conv => lhs; unfold loopF
      rfl
    rw [st _ rfl]
    by_cases h : x = y
    · have hb0 : b_common_length_0 [A, B, some (.d (.int (k : Nat))), some (.d (eMg x)), some (.d (eMg y))] = .ok (.next [A, B, some (.d (.int (k : Nat))), some (.d (eMg x)), some (.d (eMg y))]) := by
        unfold b_common_length_0
        rw [ifS_f (t.trans (by rw [decide_eq_true h]; rfl))]
        rfl
      have hc : cpl (x :: a) (y :: b) = cpl a b + 1 := by
        conv => lhs; unfold cpl
        rw [if_pos h]
      rw [seqS_ok hb0, hc, List.length_cons, List.length_cons]
      refine ⟨fun q => ?_, fun q => i2 (by omega)⟩
      rw [i1 (by omega), show k + 1 + cpl a b = k + (cpl a b + 1) by omega]
    · have hb0 : b_common_length_0 [A, B, some (.d (.int (k : Nat))), some (.d (eMg x)), some (.d (eMg y))] = .ok (.ret (.int (k : Nat))) := by
        unfold b_common_length_0
        rw [ifS_t (t.trans (by rw [decide_eq_false h]; rfl))]
        rfl
      have hc : cpl (x :: a) (y :: b) = 0 := by
        conv => lhs; unfold cpl
        rw [if_neg h]
      rw [seqS_ret hb0, hc]
      exact ⟨fun _ => rfl, fun q => by simp at q⟩
theorem common_ok {a b : List Mg} (ha : ∀ m ∈ a, okMg m) (hb : ∀ m ∈ b, okMg m) : m_common_length [.lst (a.map eMg), .lst (b.map eMg)] = .ok (.int (cpl a b : Nat)) := by
  have hl := cpl_le a b
  refine runF_ret (g := f_common_length) (N := 5) ?_
  rw [show args0 [D.lst (a.map eMg), .lst (b.map eMg)] 5 = [some (.d (.lst (a.map eMg))), some (.d (.lst (b.map eMg))), none, none, none] from rfl]
  unfold f_common_length
  have hf : forR ezg (.tp [.nm 2, .tp [.nm 3, .nm 4]]) (b_common_length_0) (consA (varF 0) (consA (varF 1) (nilA))) [some (.d (.lst (a.map eMg))), some (.d (.lst (b.map eMg))), none, none, none] = loopF (Tg.tp [.nm 2, .tp [.nm 3, .nm 4]]).put b_common_length_0 ((zip2 (a.map eMg) (b.map eMg)).mapIdx fun i x => .tup [.int ((0 + i : Nat) : Int), x]) [some (.d (.lst (a.map eMg))), some (.d (.lst (b.map eMg))), none, none, none] :=
    forR_ok (ds := [.lst (a.map eMg), .lst (b.map eMg)]) (consA_ok rfl (consA_ok rfl rfl)) (by
      show Rs.ok ((zip2 (a.map eMg) (b.map eMg)).mapIdx fun i x => D.tup [.int (i : Nat), x]) = _
      congr 2
      funext i x
      rw [Nat.zero_add])
  obtain ⟨i1, i2⟩ := cl_loop (some (.d (.lst (a.map eMg)))) (some (.d (.lst (b.map eMg)))) a b 0 none none none ha hb
  by_cases h : cpl a b < min a.length b.length
  · rw [seqS_ret (hf.trans (i1 h)), Nat.zero_add]
  · have he : cpl a b = min a.length b.length := by omega
    obtain ⟨y2, y3, y4, q⟩ := i2 he
    rw [seqS_ok (hf.trans q)]
    refine retF_ok ?_
    refine op2_of (a := .int a.length) (b := .int b.length) (op1_of (a := .lst (a.map eMg)) rfl (by simp [lenD])) (op1_of (a := .lst (b.map eMg)) rfl (by simp [lenD])) ?_
    show Rs.ok (D.int (if (b.length : Int) < (a.length : Int) then (b.length : Int) else (a.length : Int))) = _
    rw [he]
    congr 2
    split <;> omega
end Orn

set_option linter.all false
set_option maxRecDepth 100000
set_option maxHeartbeats 1000000
namespace Orn
open L2 PySem PySem.Spec PyProof.Rows
section
variable {fa fk fl : En → Rs D} {env : En} {l : List Mg} {k j : Nat}
theorem slTo (h : fa env = .ok (.lst (l.map eMg))) (hk : fk env = .ok (.int k)) : sliceF sliceD fa noF (someF fk) env = .ok (.lst ((l.take k).map eMg)) := by
  refine sliceF_of (x := .lst (l.map eMg)) (l := none) (h := some (k : Int)) h rfl (someF_of hk) ?_
  rw [sl_l, cut_to _ _ (by omega), Int.toNat_natCast, ← List.map_take]
theorem slFrom (h : fa env = .ok (.lst (l.map eMg))) (hk : fk env = .ok (.int k)) : sliceF sliceD fa (someF fk) noF env = .ok (.lst ((l.drop k).map eMg)) := by
  refine sliceF_of (x := .lst (l.map eMg)) (l := some (k : Int)) (h := none) h (someF_of hk) rfl ?_
  rw [sl_l, cut_from _ _ (by omega), Int.toNat_natCast, ← List.map_drop]
theorem slMid (h : fa env = .ok (.lst (l.map eMg))) (hk : fk env = .ok (.int k)) (hj : fl env = .ok (.int j)) : sliceF sliceD fa (someF fk) (someF fl) env = .ok (.lst (((l.drop k).take (j - k)).map eMg)) := by
  refine sliceF_of (x := .lst (l.map eMg)) (l := some (k : Int)) (h := some (j : Int)) h (someF_of hk) (someF_of hj) ?_
  rw [sl_l, cut_mid _ _ _ (by omega) (by omega), Int.toNat_natCast, Int.toNat_natCast, ← List.map_drop, ← List.map_take]
theorem addN_of {c : Nat} (h : fa env = .ok (.int (k : Nat))) : op2 addD fa (cF (.int (c : Nat))) env = .ok (.int ((k + c : Nat) : Int)) := by
  refine op2_of (a := .int (k : Nat)) (b := .int (c : Nat)) h rfl ?_
  rw [add_ii]
  congr 2
theorem len_of (h : fa env = .ok (.lst (l.map eMg))) : op1 lenD fa env = .ok (.int (l.length : Nat)) := op1_of (a := .lst (l.map eMg)) h (by simp [lenD])
theorem mg_at {m : Mg} (h : fa env = .ok (.lst (l.map eMg))) (hk : fk env = .ok (.int (k : Nat))) (hm : l[k]? = some m) : op2 idxD fa fk env = .ok (eMg m) := by
  obtain ⟨hl, e⟩ := List.getElem?_eq_some_iff.mp hm
  have := idx_lN eMg l k hl
  rw [e] at this
  exact op2_of h hk this
end
abbrev okMgs (l : List Mg) : Prop := l.length ≤ 100 ∧ ∀ m ∈ l, okMg m
theorem eq_mgs {a b : List Mg} (ha : ∀ m ∈ a, okMg m) (hb : ∀ m ∈ b, okMg m) : eqD (.lst (a.map eMg)) (.lst (b.map eMg)) = .ok (.bl (decide (a = b))) := (cod_mg.eqL (k := 1) (n := 5000) (by omega) (fun x hx => (ha x hx).fi) (fun x hx => (hb x hx).fi)).trans (congrArg (fun z => Rs.ok (D.bl z)) (decide_eq_decide.mpr Iff.rfl))
theorem andF_f {fa fb : En → Rs D} {env : En} (h : fa env = .ok (.bl false)) : andF fa fb env = .ok (.bl false) := by
  unfold andF
  rw [h, Rs.bind_ok]
theorem swp_mem {a : List Mg} {k : Nat} {m : Mg} (h : m ∈ swp a k) : m ∈ a := by
  unfold swp at h
  rcases List.mem_append.mp h with h | h
  · rcases List.mem_append.mp h with h | h
    · exact List.mem_of_mem_take h
    · exact List.mem_of_mem_drop (List.mem_of_mem_take (List.mem_reverse.mp h))
  · exact List.mem_of_mem_drop h
theorem exchange_ok {w : List Str} {a b : List Mg} (hw : okI w) (ha : okMgs a) (hb : okMgs b) : ∃ z : Bool, m_is_exchange [tS w, .lst (a.map eMg), .lst (b.map eMg)] = .ok (.bl z) ∧
    (z = true ↔ cpl a b + 1 < a.length ∧ b = swp a (cpl a b) ∧ ∃ x y, a[cpl a b]? = some x ∧ a[cpl a b + 1]? = some y ∧ (itmT x y = w ∨ itmT y x = w)) := by
  have hc := common_ok ha.2 hb.2
  have hle := cpl_le a b
  generalize hk : cpl a b = k at *
  let E : En := [some (.d (tS w)), some (.d (.lst (a.map eMg))), some (.d (.lst (b.map eMg))), some (.d (.int (k : Nat))), some (.d (.lst (((a.drop k).take 2).map eMg)))]
  have key : ∃ z : Bool, andF (op2 eqD (op1 lenD (varF 4)) (cF (.int 2))) (andF (op2 eqD (varF 2) (op2 addL (op2 addL (sliceF sliceD (varF 1) (noF) (someF (varF 3))) (op1 revL (varF 4))) (sliceF sliceD (varF 1) (someF (op2 addD (varF 3) (cF (.int 2)))) (noF)))) (op2 inE (varF 0) (callF m_order_items (consA (op2 idxD (varF 4) (cF (.int 0))) (consA (op2 idxD (varF 4) (cF (.int 1))) (nilA)))))) E = .ok (.bl z) ∧
      (z = true ↔ k + 1 < a.length ∧ b = swp a k ∧ ∃ x y, a[k]? = some x ∧ a[k + 1]? = some y ∧ (itmT x y = w ∨ itmT y x = w)) := by
    have t1 : op2 eqD (op1 lenD (varF 4)) (cF (.int 2)) E = .ok (.bl (decide (((((a.drop k).take 2).length : Nat) : Int) = 2))) := op2_of (b := .int 2) (len_of (l := (a.drop k).take 2) rfl) rfl (eqD_int _ _)
    by_cases hl : k + 1 < a.length
    · have hx := List.getElem?_eq_getElem (show k < a.length by omega)
      have hy := List.getElem?_eq_getElem hl
      have hmv : (a.drop k).take 2 = [a[k], a[k + 1]] := by
        rw [List.drop_eq_getElem_cons (by omega), List.drop_eq_getElem_cons hl]
        rfl
      have ox := ha.2 _ (List.getElem_mem (show k < a.length by omega))
      have oy := ha.2 _ (List.getElem_mem hl)
      have v3 : varF 3 E = .ok (.int (k : Nat)) := rfl
      have v1 : varF 1 E = .ok (.lst (a.map eMg)) := rfl
      have v4 : varF 4 E = .ok (.lst ([a[k], a[k + 1]].map eMg)) := by rw [← hmv]; rfl
      have t2 : op2 eqD (varF 2) (op2 addL (op2 addL (sliceF sliceD (varF 1) (noF) (someF (varF 3))) (op1 revL (varF 4))) (sliceF sliceD (varF 1) (someF (op2 addD (varF 3) (cF (.int 2)))) (noF))) E = .ok (.bl (decide (b = swp a k))) := by
        refine op2_of (a := .lst (b.map eMg)) (b := .lst ((swp a k).map eMg)) rfl ?_ (eq_mgs hb.2 fun m hm => ha.2 m (swp_mem hm))
        have := addL_of (addL_of (slTo v1 v3) (show op1 revL (varF 4) E = .ok (.lst [eMg a[k + 1], eMg a[k]]) from op1_of v4 rfl) (by unfold SL; have := ha.1; simp; omega)) (slFrom (k := k + 2) v1 (addN_of (c := 2) v3)) (by unfold SL; have := ha.1; simp; omega)
        rw [swp_eq a k hl, List.map_append, List.map_append]
        exact this
      have t3 : op2 inE (varF 0) (callF m_order_items (consA (op2 idxD (varF 4) (cF (.int 0))) (consA (op2 idxD (varF 4) (cF (.int 1))) (nilA)))) E = .ok (.bl (decide (w ∈ [itmT a[k] a[k + 1], itmT a[k + 1] a[k]]))) := by
        refine op2_of (a := tS w) rfl (callF_ok (ds := [eMg a[k], eMg a[k + 1]]) (consA_ok (op2_of v4 rfl rfl) (consA_ok (op2_of v4 rfl rfl) rfl)) (order_items_ok (.inl rfl) (.inl rfl))) (inE_tS hw fun x hx => ?_)
        simp only [List.mem_cons, List.not_mem_nil, or_false] at hx
        rcases hx with rfl | rfl
        · exact okI_itm ox oy
        · exact okI_itm oy ox
      refine ⟨_, andF_bl t1 (andF_bl t2 t3), ?_⟩
      rw [hmv]
      simp only [Bool.and_eq_true, decide_eq_true_eq, List.mem_cons, List.not_mem_nil, or_false, List.length_cons, List.length_nil]
      constructor
      · rintro ⟨_, h2, h3⟩
        exact ⟨hl, h2, _, _, hx, hy, h3.imp Eq.symm Eq.symm⟩
      · rintro ⟨_, h2, x, y, h4, h5, h6⟩
        rw [hx] at h4
        rw [hy] at h5
        injection h4 with h4
        injection h5 with h5
        subst h4
        subst h5
        exact ⟨by omega, h2, h6.imp Eq.symm Eq.symm⟩
    · refine ⟨false, andF_f (t1.trans ?_), ?_⟩
      · rw [decide_eq_false]
        rw [List.length_take, List.length_drop]
        omega
      · exact ⟨fun h => (Bool.false_ne_true h).elim, fun h => absurd h.1 hl⟩
  obtain ⟨z, q1, q2⟩ := key
  refine ⟨z, runF_ret (g := f_is_exchange) (N := 5) ?_, q2⟩
  rw [show args0 [tS w, D.lst (a.map eMg), .lst (b.map eMg)] 5 = [some (.d (tS w)), some (.d (.lst (a.map eMg))), some (.d (.lst (b.map eMg))), none, none] from rfl]
  unfold f_is_exchange
  refine seq_asgF (a := .int (k : Nat)) (callF_ok (ds := [.lst (a.map eMg), .lst (b.map eMg)]) (consA_ok rfl (consA_ok rfl rfl)) hc) ?_
  refine seq_asgF (a := .lst (((a.drop k).take 2).map eMg)) ?_ ?_
  · have := slMid (fa := varF 1) (fk := varF 3) (fl := op2 addD (varF 3) (cF (.int 2))) (env := [some (.d (tS w)), some (.d (.lst (a.map eMg))), some (.d (.lst (b.map eMg))), some (.d (.int (k : Nat))), none]) (l := a) (k := k) (j := k + 2) rfl rfl (addN_of (c := 2) rfl)
    rw [show k + 2 - k = 2 by omega] at this
    exact this
  · exact retF_ok q1
end Orn

set_option linter.all false
set_option maxRecDepth 100000
set_option maxHeartbeats 1000000
namespace Orn
open L2 PySem PySem.Spec PyProof.Rows
theorem in_mgs {m : Mg} {l : List Mg} (hm : okMg m) (hl : ∀ x ∈ l, okMg x) : inE (eMg m) (.lst (l.map eMg)) = .ok (.bl (decide (m ∈ l))) := (cod_mg.inL (k := 1) (n := 5000) (by omega) hm.fi fun x hx => (hl x hx).fi).trans (congrArg (fun z => Rs.ok (D.bl z)) (decide_eq_decide.mpr Iff.rfl))
theorem again_ok {n : Str} {a b : List Mg} (ha : okMgs a) (hb : okMgs b) : ∃ z : Bool, m_is_again [.str n, .lst (a.map eMg), .lst (b.map eMg)] = .ok (.bl z) ∧
    (z = true ↔ b.length = a.length + 1 ∧ b.drop (cpl a b + 1) = a.drop (cpl a b) ∧ ∃ x, b[cpl a b]? = some x ∧ x.1 = n ∧ x ∈ a.take (cpl a b)) := by
  have hc := common_ok ha.2 hb.2
  have hle := cpl_le a b
  generalize hk : cpl a b = k at *
  let E : En := [some (.d (.str n)), some (.d (.lst (a.map eMg))), some (.d (.lst (b.map eMg))), some (.d (.int (k : Nat)))]
  have v0 : varF 0 E = .ok (.str n) := rfl
  have v1 : varF 1 E = .ok (.lst (a.map eMg)) := rfl
  have v2 : varF 2 E = .ok (.lst (b.map eMg)) := rfl
  have v3 : varF 3 E = .ok (.int (k : Nat)) := rfl
  have t1 : op2 eqD (op1 lenD (varF 2)) (op2 addD (op1 lenD (varF 1)) (cF (.int 1))) E = .ok (.bl (decide (((b.length : Nat) : Int) = ((a.length + 1 : Nat) : Int)))) := op2_of (len_of v2) (addN_of (c := 1) (len_of v1)) (eqD_int _ _)
  have key : ∃ z : Bool, andF (op2 eqD (op1 lenD (varF 2)) (op2 addD (op1 lenD (varF 1)) (cF (.int 1)))) (andF (op2 eqD (sliceF sliceD (varF 2) (someF (op2 addD (varF 3) (cF (.int 1)))) (noF)) (sliceF sliceD (varF 1) (someF (varF 3)) (noF))) (andF (op2 eqD (op2 idxD (op2 idxD (varF 2) (varF 3)) (cF (.int 0))) (varF 0)) (op2 inE (op2 idxD (varF 2) (varF 3)) (sliceF sliceD (varF 1) (noF) (someF (varF 3)))))) E = .ok (.bl z) ∧
      (z = true ↔ b.length = a.length + 1 ∧ b.drop (k + 1) = a.drop k ∧ ∃ x, b[k]? = some x ∧ x.1 = n ∧ x ∈ a.take k) := by
    by_cases hl : b.length = a.length + 1
    · have hx := List.getElem?_eq_getElem (show k < b.length by omega)
      have t2 := op2_of (slFrom (k := k + 1) v2 (addN_of (c := 1) v3)) (slFrom v1 v3) (eq_mgs (fun m hm => hb.2 m (List.mem_of_mem_drop hm)) fun m hm => ha.2 m (List.mem_of_mem_drop hm))
      have q := mg_at v2 v3 hx
      have t3 := op2_of (op2_of (b := .int 0) q (show cF (.int 0) E = .ok (.int 0) from rfl) (show idxD (eMg b[k]) (.int 0) = .ok (.str b[k].1) from rfl)) v0 (eqD_str _ _)
      have t4 := op2_of q (slTo v1 v3) (in_mgs (hb.2 _ (List.getElem_mem _)) fun m hm => ha.2 m (List.mem_of_mem_take hm))
      refine ⟨_, andF_bl t1 (andF_bl t2 (andF_bl t3 t4)), ?_⟩
      simp only [Bool.and_eq_true, decide_eq_true_eq]
      constructor
      · rintro ⟨_, h2, h3, h4⟩
        exact ⟨hl, h2, _, hx, h3, h4⟩
      · rintro ⟨_, h2, x, h3, h4, h5⟩
        rw [hx] at h3
        injection h3 with h3
        subst h3
        exact ⟨by omega, h2, h4, h5⟩
    · refine ⟨false, andF_f (t1.trans (by rw [decide_eq_false (by omega)])), fun h => (Bool.false_ne_true h).elim, fun h => absurd h.1 hl⟩
  obtain ⟨z, q1, q2⟩ := key
  refine ⟨z, runF_ret (g := f_is_again) (N := 4) ?_, q2⟩
  rw [show args0 [D.str n, D.lst (a.map eMg), .lst (b.map eMg)] 4 = [some (.d (.str n)), some (.d (.lst (a.map eMg))), some (.d (.lst (b.map eMg))), none] from rfl]
  unfold f_is_again
  refine seq_asgF (a := .int (k : Nat)) (callF_ok (ds := [.lst (a.map eMg), .lst (b.map eMg)]) (consA_ok rfl (consA_ok rfl rfl)) hc) ?_
  exact retF_ok q1
/-! ### shows_harm -/
/-- a sequence as it is given: a list or a tuple of tuples or of lists -/
def isSq (d : D) (l : List Mg) : Prop := ∃ f : Mg → D, itemsD d = some (l.map f) ∧ ∀ m, tupleD (f m) = .ok (eMg m)
theorem isSq_e (l : List Mg) : isSq (.lst (l.map eMg)) l := ⟨eMg, rfl, fun _ => rfl⟩
theorem isSq_t (l : List Mg) : isSq (.tup (l.map eMg)) l := ⟨eMg, rfl, fun _ => rfl⟩
theorem isSq_l (l : List Mg) : isSq (.lst (l.map lMg)) l := ⟨lMg, rfl, fun _ => rfl⟩
/-- what an item says of a sent and another sequence -/
def shown (w : List Str) (a b : List Mg) : Prop :=
  (∃ x y r, w = i4 x y r) ∧ (cpl a b + 1 < a.length ∧ b = swp a (cpl a b) ∧ ∃ x y, a[cpl a b]? = some x ∧ a[cpl a b + 1]? = some y ∧ (itmT x y = w ∨ itmT y x = w)) ∨
  ∃ n, w = i2 n ∧ (b.length = a.length + 1 ∧ b.drop (cpl a b + 1) = a.drop (cpl a b) ∧ ∃ x, b[cpl a b]? = some x ∧ x.1 = n ∧ x ∈ a.take (cpl a b))
theorem i2_i2 {x y : Str} (h : i2 x = i2 y) : x = y := by
  unfold i2 at h
  injection h with _ h
  injection h
theorem shows_ok {g : Bool} {w : List Str} {ds dc : D} {a b : List Mg} (hw : okI w) (hv : (∃ x y r, w = i4 x y r) ∨ ∃ n, w = i2 n) (hs : isSq ds a) (hc : isSq dc b) (ha : okMgs a) (hb : okMgs b) :
    ∃ z : Bool, m_shows_harm [gR (g, w), ds, dc] = .ok (.bl z) ∧ (z = true ↔ shown w a b) := by
  obtain ⟨f, hf, hft⟩ := hs
  obtain ⟨f2, hf2, hft2⟩ := hc
  let E : En := [some (.d (gR (g, w))), some (.d ds), some (.d dc), some (.d (.lst (a.map eMg))), some (.d (.lst (b.map eMg))), none]
  have start : ∀ d, seqS (ifS (tcmp eqD (op2 idxD (varF 0) (cF (.int 0))) (cF (.str "order"))) (retF (callF m_is_exchange (consA (op1 tupleD (varF 0)) (consA (varF 3) (consA (varF 4) (nilA)))))) (nilS)) (retF (callF m_is_again (consA (op2 idxD (varF 0) (cF (.int 1))) (consA (varF 3) (consA (varF 4) (nilA)))))) E = .ok (.ret d) → m_shows_harm [gR (g, w), ds, dc] = .ok d := fun d h => by
    refine runF_ret (g := f_shows_harm) (N := 6) ?_
    rw [show args0 [gR (g, w), ds, dc] 6 = [some (.d (gR (g, w))), some (.d ds), some (.d dc), none, none, none] from rfl]
    unfold f_shows_harm
    refine seq_asgF (a := .lst (a.map eMg)) ?_ ?_
    · refine compF_ok (d := ds) rfl hf rfl (by rw [List.length_map]; have := ha.1; unfold SL; omega) ?_
      exact comp_yes f eMg a fun m _ => ⟨[some (.d (gR (g, w))), some (.d ds), some (.d dc), none, none, some (.d (f m))], rfl, op1_of (a := f m) rfl (hft m)⟩
    refine seq_asgF (a := .lst (b.map eMg)) ?_ ?_
    · refine compF_ok (d := dc) rfl hf2 rfl (by rw [List.length_map]; have := hb.1; unfold SL; omega) ?_
      exact comp_yes f2 eMg b fun m _ => ⟨[some (.d (gR (g, w))), some (.d ds), some (.d dc), some (.d (.lst (a.map eMg))), none, some (.d (f2 m))], rfl, op1_of (a := f2 m) rfl (hft2 m)⟩
    exact h
  have gi : ∀ (k : Nat) (s : Str), w[k]? = some s → op2 idxD (varF 0) (cF (.int (k : Nat))) E = .ok (.str s) := fun k s h => by
    obtain ⟨hl, e⟩ := List.getElem?_eq_some_iff.mp h
    refine op2_of (a := gR (g, w)) (b := .int (k : Nat)) rfl rfl ?_
    unfold gR
    cases g
    · exact (idx_tN D.str w k hl).trans (by rw [e])
    · exact (idx_lN D.str w k hl).trans (by rw [e])
  rcases hv with ⟨x, y, r, rfl⟩ | ⟨n, rfl⟩
  · obtain ⟨z, h1, h2⟩ := exchange_ok (w := i4 x y r) hw ha hb
    refine ⟨z, start _ ?_, ?_⟩
    · have tt : tcmp eqD (op2 idxD (varF 0) (cF (.int 0))) (cF (.str "order")) E = .ok true := (tcmp_ok (gi 0 "order" rfl) rfl (eqD_str _ _)).trans (by rw [decide_eq_true rfl])
      refine seqS_ret ((ifS_t tt).trans ?_)
      exact retF_ok (callF_ok (ds := [tS (i4 x y r), .lst (a.map eMg), .lst (b.map eMg)]) (consA_ok (op1_of (a := gR (g, i4 x y r)) rfl (tuple_gR _)) (consA_ok rfl (consA_ok rfl rfl))) h1)
    · rw [h2]
      refine ⟨fun h => .inl ⟨⟨x, y, r, rfl⟩, h⟩, ?_⟩
      rintro (⟨_, h⟩ | ⟨n, e, _⟩)
      · exact h
      · exact absurd e i4_i2
  · obtain ⟨z, h1, h2⟩ := again_ok (n := n) ha hb
    refine ⟨z, start _ ?_, ?_⟩
    · refine skipS ((tcmp_ok (gi 0 "once" rfl) rfl (eqD_str _ _)).trans (by rw [decide_eq_false (show ¬ ("once" : Str) = "order" from fun h => ne_once h.symm)])) ?_
      exact retF_ok (callF_ok (ds := [.str n, .lst (a.map eMg), .lst (b.map eMg)]) (consA_ok (gi 1 n rfl) (consA_ok rfl (consA_ok rfl rfl))) h1)
    · rw [h2]
      refine ⟨fun h => .inr ⟨n, rfl, h⟩, ?_⟩
      rintro (⟨⟨_, _, _, e⟩, _⟩ | ⟨n', e, h⟩)
      · exact absurd e.symm i4_i2
      · rw [i2_i2 e]
        exact h
end Orn

set_option linter.all false
set_option maxRecDepth 100000
set_option maxHeartbeats 1000000
namespace Orn
open L2 PySem PySem.Spec PyProof.Rows
theorem loop_first {t : D → En → Rs En} {g : En → Rs Fl} (P : Nat → Bool) (v : Nat → D) (I : En → Prop) : ∀ (l : List Nat) (env : En), I env →
    (∀ k e, k ∈ l → I e → ∃ e1, t (eI k) e = .ok e1 ∧ (P k = true → g e1 = .ok (.ret (v k))) ∧ (P k = false → ∃ e2, g e1 = .ok (.next e2) ∧ I e2)) →
    (∃ k ∈ l, P k = true ∧ loopF t g (l.map eI) env = .ok (.ret (v k))) ∨ ((∀ k ∈ l, P k = false) ∧ ∃ e', loopF t g (l.map eI) env = .ok (.next e') ∧ I e')
  | [], env, h, _ => .inr ⟨fun k hk => by simp at hk, env, rfl, h⟩
  | k :: l, env, h, st => by
    obtain ⟨e1, h1, h2, h3⟩ := st k env List.mem_cons_self h
    have un : loopF t g ((k :: l).map eI) env = seqS g (loopF t g (l.map eI)) e1 := by
      rw [List.map_cons]
      conv => lhs; unfold loopF
      rw [h1]
    rw [un]
    cases q : P k with
    | true => exact .inl ⟨k, List.mem_cons_self, q, seqS_ret (h2 q)⟩
    | false =>
      obtain ⟨e2, h4, h5⟩ := h3 q
      rw [seqS_ok h4]
      rcases loop_first P v I l e2 h5 (fun k e hk => st k e (List.mem_cons_of_mem _ hk)) with ⟨j, hj, r1, r2⟩ | ⟨r1, e', r2, r3⟩
      · exact .inl ⟨j, List.mem_cons_of_mem _ hj, r1, r2⟩
      · refine .inr ⟨fun j hj => ?_, e', r2, r3⟩
        rcases List.mem_cons.mp hj with rfl | hj
        · exact q
        · exact r1 j hj
theorem gd {l : List Mg} {k : Nat} (h : k < l.length) : l.getD k ("", 0) = l[k] := by
  rw [List.getD_eq_getElem?_getD, List.getElem?_eq_getElem h]
  rfl
abbrev eLS (w : List Str) (a b : List Mg) (x3 x4 : Option T) : En := [some (.d (tS w)), some (.d (.lst (a.map eMg))), some (.d (.lst (b.map eMg))), x3, x4]
theorem shows_order {ns : List Str} (hd : ns.Nodup) (ho : ∀ n ∈ ns, okWord n) {w : List Str} (hw : w ∈ evS ns) (hx : ∃ x y r, w = i4 x y r) {a b : List Mg} (ha : okMgs a) (hb : okMgs b) :
    ∃ z : Bool, m_law_shows [tS w, .lst (a.map eMg), .lst (b.map eMg)] = .ok (.bl z) ∧ (z = true ↔ shown w a b) := by
  have hsh : shown w a b ↔ ∃ k, k + 1 < a.length ∧ swp a k = b ∧ a ≠ b ∧ ∃ x y, a[k]? = some x ∧ a[k + 1]? = some y ∧ (itmT x y = w ∨ itmT y x = w) := by
    rw [← exch_iff]
    refine ⟨?_, fun h => .inl ⟨hx, h⟩⟩
    rintro (⟨_, h⟩ | ⟨n, e, _⟩)
    · exact h
    · obtain ⟨x, y, r, rfl⟩ := hx
      exact absurd e i4_i2
  have sw_len : ∀ k, k + 1 < a.length → (swp a k).length = a.length := fun k hk => by
    rw [swp_eq a k hk]
    simp
    omega
  have hone : op2 idxD (varF 0) (cF (.int 0)) (eLS w a b none none) = .ok (.str "order") := by
    obtain ⟨x, y, r, rfl⟩ := hx
    rfl
  have t1 : tcmp eqD (op2 idxD (varF 0) (cF (.int 0))) (cF (.str "once")) (eLS w a b none none) = .ok false := (tcmp_ok hone rfl (eqD_str _ _)).trans (by rw [decide_eq_false ne_once])
  have t2 : tcmp neD (op1 lenD (varF 1)) (op1 lenD (varF 2)) (eLS w a b none none) = .ok (!decide (((a.length : Nat) : Int) = ((b.length : Nat) : Int))) := tcmp_ok (len_of rfl) (len_of rfl) (neD_of (eqD_int _ _))
  have fin : ∀ d, f_law_shows (eLS w a b none none) = .ok (.ret d) → m_law_shows [tS w, .lst (a.map eMg), .lst (b.map eMg)] = .ok d := fun d h => runF_ret (g := f_law_shows) (N := 5) h
  by_cases hl : a.length = b.length
  · -- the loop
    have body : ∀ k x3, k + 1 < a.length → b_law_shows_0 (eLS w a b (some (.d (eI k))) x3) = if decide (swp a k = b) && !decide (a = b) then retF (callF m_law_item_keeps (consA (varF 0) (consA (op2 idxD (varF 1) (varF 3)) (consA (op2 idxD (varF 1) (op2 addD (varF 3) (cF (.int 1)))) (nilA))))) (eLS w a b (some (.d (eI k))) x3) else .ok (.next (eLS w a b (some (.d (eI k))) x3)) := fun k x3 hk => by
      have v1 : varF 1 (eLS w a b (some (.d (eI k))) x3) = .ok (.lst (a.map eMg)) := rfl
      have v3 : varF 3 (eLS w a b (some (.d (eI k))) x3) = .ok (.int (k : Nat)) := rfl
      have q1 := mg_at v1 (addN_of (c := 1) v3) (List.getElem?_eq_getElem hk)
      have q2 := mg_at v1 v3 (List.getElem?_eq_getElem (show k < a.length by omega))
      have s1 := addL_of (addL_of (slTo v1 v3) (lstF_ok (ds := [eMg a[k + 1], eMg a[k]]) (consA_ok q1 (consA_ok q2 (show nilA (eLS w a b (some (.d (eI k))) x3) = .ok [] from rfl))) (by unfold SL; simp)) (by unfold SL; have := ha.1; simp; omega)) (slFrom (k := k + 2) v1 (addN_of (c := 2) v3)) (by unfold SL; have := ha.1; simp; omega)
      have e1 : List.map eMg (a.take k) ++ [eMg a[k + 1], eMg a[k]] ++ List.map eMg (a.drop (k + 2)) = (swp a k).map eMg := by
        rw [swp_eq a k hk, List.map_append, List.map_append]
        rfl
      rw [e1] at s1
      have c1 := tcmp_ok s1 (show varF 2 (eLS w a b (some (.d (eI k))) x3) = .ok (.lst (b.map eMg)) from rfl) (eq_mgs (fun m hm => ha.2 m (swp_mem hm)) hb.2)
      have c2 := tcmp_ok v1 (show varF 2 (eLS w a b (some (.d (eI k))) x3) = .ok (.lst (b.map eMg)) from rfl) (neD_of (eq_mgs ha.2 hb.2))
      unfold b_law_shows_0
      by_cases z1 : swp a k = b
      · have c3 := tand_t (c1.trans (by rw [decide_eq_true z1])) c2
        by_cases z2 : a = b
        · refine (ifS_f (c3.trans (by rw [decide_eq_true z2]; rfl))).trans ?_
          rw [decide_eq_true z2, Bool.not_true, Bool.and_false, if_neg Bool.false_ne_true]
          rfl
        · refine (ifS_t (c3.trans (by rw [decide_eq_false z2]; rfl))).trans ?_
          rw [decide_eq_true z1, decide_eq_false z2, Bool.not_false, Bool.and_true, if_pos rfl]
      · refine (ifS_f (tand_f (c1.trans (by rw [decide_eq_false z1])))).trans ?_
        rw [decide_eq_false z1, Bool.false_and, if_neg Bool.false_ne_true]
        rfl
    let zv : Nat → Bool := fun k => decide (itmT (a.getD k ("", 0)) (a.getD (k + 1) ("", 0)) = w) || decide (itmT (a.getD (k + 1) ("", 0)) (a.getD k ("", 0)) = w)
    have val : ∀ k x3, k + 1 < a.length → retF (callF m_law_item_keeps (consA (varF 0) (consA (op2 idxD (varF 1) (varF 3)) (consA (op2 idxD (varF 1) (op2 addD (varF 3) (cF (.int 1)))) (nilA))))) (eLS w a b (some (.d (eI k))) x3) = .ok (.ret (.bl (zv k))) := fun k x3 hk => by
      have v1 : varF 1 (eLS w a b (some (.d (eI k))) x3) = .ok (.lst (a.map eMg)) := rfl
      have v3 : varF 3 (eLS w a b (some (.d (eI k))) x3) = .ok (.int (k : Nat)) := rfl
      have q1 := mg_at v1 (addN_of (c := 1) v3) (List.getElem?_eq_getElem hk)
      have q2 := mg_at v1 v3 (List.getElem?_eq_getElem (show k < a.length by omega))
      obtain ⟨z, h1, h2⟩ := item_ev hd ho hw (ha.2 _ (List.getElem_mem (show k < a.length by omega))) (ha.2 _ (List.getElem_mem hk))
      have ez : z = zv k := by
        rw [Bool.eq_iff_iff, h2]
        simp only [zv, Bool.or_eq_true, decide_eq_true_eq]
        rw [gd (show k < a.length by omega), gd hk]
      rw [← ez]
      exact retF_ok (callF_ok (ds := [tS w, eMg a[k], eMg a[k + 1]]) (consA_ok rfl (consA_ok q2 (consA_ok q1 rfl))) h1)
    have rng : ∀ (n : Nat), n < 1000 → rg1 [.int ((n : Int) - 1)] = .ok ((List.range (n - 1)).map eI) := fun n hn => by
      unfold rg1
      dsimp only
      rw [if_pos (by omega), ← rangeL_eI]
      congr 2
      omega
    have hfr : forR rg1 (.nm 3) (b_law_shows_0) (consA (op2 subD (op1 lenD (varF 1)) (cF (.int 1))) (nilA)) (eLS w a b none none) = loopF (Tg.nm 3).put b_law_shows_0 ((List.range (a.length - 1)).map eI) (eLS w a b none none) :=
      forR_ok (ds := [.int ((a.length : Int) - 1)]) (consA_ok (op2_of (len_of rfl) rfl (sub_ii _ _)) rfl) (rng _ (by have := ha.1; omega))
    have sk : ∀ r, seqS (forR rg1 (.nm 3) (b_law_shows_0) (consA (op2 subD (op1 lenD (varF 1)) (cF (.int 1))) (nilA))) (retF (cF (.bl false))) (eLS w a b none none) = r → f_law_shows (eLS w a b none none) = r := fun r h => by
      unfold f_law_shows
      refine skipS t1 ?_
      exact skipS (t2.trans (by rw [decide_eq_true (by omega)]; rfl)) h
    rcases loop_first (t := (Tg.nm 3).put) (g := b_law_shows_0) (fun k => decide (swp a k = b) && !decide (a = b)) (fun k => .bl (zv k)) (fun e => ∃ x3, e = eLS w a b x3 none) (List.range (a.length - 1)) (eLS w a b none none) ⟨none, rfl⟩ (by
      rintro k e hk ⟨x3, rfl⟩
      have hk := List.mem_range.mp hk
      refine ⟨eLS w a b (some (.d (eI k))) none, rfl, fun h => ?_, fun h => ⟨eLS w a b (some (.d (eI k))) none, ?_, _, rfl⟩⟩
      · rw [body k none (by omega), if_pos h]
        exact val k none (by omega)
      · rw [body k none (by omega), if_neg (by rw [h]; exact Bool.false_ne_true)]) with ⟨k, hk, h1, h2⟩ | ⟨h1, e', h2, _⟩
    · have hk := List.mem_range.mp hk
      simp only [Bool.and_eq_true, decide_eq_true_eq, Bool.not_eq_true', decide_eq_false_iff_not] at h1
      refine ⟨zv k, fin _ (sk _ (seqS_ret (hfr.trans h2))), ?_⟩
      rw [hsh]
      have hx := List.getElem?_eq_getElem (show k < a.length by omega)
      have hy := List.getElem?_eq_getElem (show k + 1 < a.length by omega)
      simp only [zv, Bool.or_eq_true, decide_eq_true_eq]
      rw [gd (show k < a.length by omega), gd (show k + 1 < a.length by omega)]
      constructor
      · exact fun h => ⟨k, by omega, h1.1, h1.2, _, _, hx, hy, h⟩
      · rintro ⟨j, j1, j2, _, x, y, j3, j4, j5⟩
        have ej := exch_one j1 j2 (show k + 1 < a.length by omega) h1.1 h1.2
        subst ej
        rw [hx] at j3
        rw [hy] at j4
        injection j3 with j3
        injection j4 with j4
        subst j3
        subst j4
        exact j5
    · refine ⟨false, fin _ (sk _ ((seqS_ok (hfr.trans h2)).trans rfl)), ?_⟩
      rw [hsh]
      refine ⟨fun h => (Bool.false_ne_true h).elim, ?_⟩
      rintro ⟨k, k1, k2, k3, _⟩
      have := h1 k (List.mem_range.mpr (by omega))
      rw [decide_eq_true k2, decide_eq_false k3] at this
      cases this
  · refine ⟨false, fin _ ?_, ?_⟩
    · unfold f_law_shows
      refine skipS t1 ?_
      refine seqS_ret ((ifS_t (t2.trans (by rw [decide_eq_false (by omega)]; rfl))).trans rfl)
    · rw [hsh]
      refine ⟨fun h => (Bool.false_ne_true h).elim, ?_⟩
      rintro ⟨k, k1, k2, _⟩
      rw [← k2, sw_len k k1] at hl
      exact absurd rfl hl
end Orn

set_option linter.all false
set_option maxRecDepth 100000
set_option maxHeartbeats 1000000
namespace Orn
open L2 PySem PySem.Spec PyProof.Rows
theorem shows_once {n : Str} {a b : List Mg} (ha : okMgs a) (hb : okMgs b) :
    ∃ z : Bool, m_law_shows [tS (i2 n), .lst (a.map eMg), .lst (b.map eMg)] = .ok (.bl z) ∧ (z = true ↔ shown (i2 n) a b) := by
  have hsh : shown (i2 n) a b ↔ b.length = a.length + 1 ∧ ∃ k x, b[k]? = some x ∧ b.take k ++ b.drop (k + 1) = a ∧ x ∈ b.take k ∧ x.1 = n := by
    rw [← again_iff (P := fun x : Mg => x.1 = n)]
    constructor
    · rintro (⟨⟨_, _, _, e⟩, _⟩ | ⟨n', e, h⟩)
      · exact absurd e.symm i4_i2
      · rw [i2_i2 e]
        exact h
    · exact fun h => .inr ⟨n, rfl, h⟩
  let P : Nat → Bool := fun k => decide (b.take k ++ b.drop (k + 1) = a) && decide (b.getD k ("", 0) ∈ b.take k)
  let Qq : Nat → Bool := fun k => decide ((b.getD k ("", 0)).1 = n)
  let found := (List.range b.length).filter P
  have t1 : tcmp eqD (op2 idxD (varF 0) (cF (.int 0))) (cF (.str "once")) (eLS (i2 n) a b none none) = .ok true := (tcmp_ok (a := .str "once") (b := .str "once") rfl rfl (eqD_str _ _)).trans (by rw [decide_eq_true rfl])
  have hfl : found.length ≤ 100 := Nat.le_trans (List.length_filter_le _ _) (by rw [List.length_range]; exact hb.1)
  refine ⟨decide (((b.length : Nat) : Int) = ((a.length + 1 : Nat) : Int)) && decide ((0 : Int) < (((found.filter Qq).length : Nat) : Int)), runF_ret (g := f_law_shows) (N := 5) ?_, ?_⟩
  · rw [show args0 [tS (i2 n), D.lst (a.map eMg), .lst (b.map eMg)] 5 = eLS (i2 n) a b none none from rfl]
    unfold f_law_shows
    refine seqS_ret ((ifS_t t1).trans ?_)
    refine seq_asgF (a := .lst (found.map eI)) ?_ ?_
    · refine compR_ok (ds := [.int (b.length : Nat)]) (consA_ok (len_of rfl) rfl) (rg1_ok (by have := hb.1; omega)) rfl (by rw [rangeL_len]; have := hb.1; unfold SL; omega) ?_
      rw [rangeL_eI]
      refine comp_map eI P eI (List.range b.length) fun k hk => ⟨eLS (i2 n) a b (some (.d (eI k))) none, rfl, ?_, fun _ => rfl⟩
      have hk := List.mem_range.mp hk
      have v1 : varF 1 (eLS (i2 n) a b (some (.d (eI k))) none) = .ok (.lst (a.map eMg)) := rfl
      have v2 : varF 2 (eLS (i2 n) a b (some (.d (eI k))) none) = .ok (.lst (b.map eMg)) := rfl
      have v3 : varF 3 (eLS (i2 n) a b (some (.d (eI k))) none) = .ok (.int (k : Nat)) := rfl
      have s1 : op2 addD (sliceF sliceD (varF 2) (noF) (someF (varF 3))) (sliceF sliceD (varF 2) (someF (op2 addD (varF 3) (cF (.int 1)))) (noF)) (eLS (i2 n) a b (some (.d (eI k))) none) = .ok (.lst ((b.take k ++ b.drop (k + 1)).map eMg)) := by
        refine op2_of (slTo v2 v3) (slFrom (k := k + 1) v2 (addN_of (c := 1) v3)) ?_
        unfold addD
        dsimp only
        rw [if_pos (by have := hb.1; unfold SL; simp; omega), List.map_append]
      have c1 := tcmp_ok s1 v1 (eq_mgs (fun m hm => by
        rcases List.mem_append.mp hm with h | h
        · exact hb.2 m (List.mem_of_mem_take h)
        · exact hb.2 m (List.mem_of_mem_drop h)) ha.2)
      have c2 := tcmp_ok (mg_at v2 v3 (List.getElem?_eq_getElem hk)) (slTo v2 v3) (in_mgs (hb.2 _ (List.getElem_mem hk)) fun m hm => hb.2 m (List.mem_of_mem_take hm))
      show tand _ _ _ = .ok (decide _ && decide (b.getD k ("", 0) ∈ b.take k))
      rw [gd hk]
      by_cases z1 : b.take k ++ b.drop (k + 1) = a
      · refine (tand_t (c1.trans (by rw [decide_eq_true z1])) c2).trans ?_
        rw [decide_eq_true z1]
        rfl
      · refine (tand_f (c1.trans (by rw [decide_eq_false z1]))).trans ?_
        rw [decide_eq_false z1]
        rfl
    · have v1 : varF 1 (eLS (i2 n) a b none (some (.d (.lst (found.map eI))))) = .ok (.lst (a.map eMg)) := rfl
      have v2 : varF 2 (eLS (i2 n) a b none (some (.d (.lst (found.map eI))))) = .ok (.lst (b.map eMg)) := rfl
      refine retF_ok (andF_bl (op2_of (len_of v2) (addN_of (c := 1) (len_of v1)) (eqD_int _ _)) ?_)
      refine op2_of (a := .int ((found.filter Qq).length : Nat)) (b := .int 0) ?_ rfl (gt_ii _ _)
      refine op1_of (a := .lst ((found.filter Qq).map eI)) ?_ (by simp [lenD])
      refine compF_ok (d := .lst (found.map eI)) rfl rfl rfl (by rw [List.length_map]; unfold SL; omega) ?_
      refine comp_map eI Qq eI found fun k hk => ⟨eLS (i2 n) a b (some (.d (eI k))) (some (.d (.lst (found.map eI)))), rfl, ?_, fun _ => rfl⟩
      have hk := List.mem_range.mp (List.mem_filter.mp hk).1
      show _ = Rs.ok (decide ((b.getD k ("", 0)).1 = n))
      rw [gd hk]
      exact tcmp_ok (op2_of (b := .int 0) (mg_at (l := b) (k := k) (fa := varF 2) (fk := varF 3) rfl rfl (List.getElem?_eq_getElem hk)) rfl (show idxD (eMg b[k]) (.int 0) = .ok (.str b[k].1) from rfl)) (show op2 idxD (varF 0) (cF (.int 1)) _ = .ok (.str n) from rfl) (eqD_str _ _)
  · rw [hsh]
    simp only [Bool.and_eq_true, decide_eq_true_eq]
    refine and_congr (by omega) ?_
    constructor
    · intro h
      have h : 0 < (found.filter Qq).length := by omega
      obtain ⟨k, hk⟩ := List.exists_mem_of_length_pos h
      obtain ⟨h1, h2⟩ := List.mem_filter.mp hk
      obtain ⟨h3, h4⟩ := List.mem_filter.mp h1
      have hl := List.mem_range.mp h3
      simp only [P, Qq, Bool.and_eq_true, decide_eq_true_eq, gd hl] at h2 h4
      exact ⟨k, b[k], List.getElem?_eq_getElem hl, h4.1, h4.2, h2⟩
    · rintro ⟨k, x, h1, h2, h3, h4⟩
      obtain ⟨hl, e⟩ := List.getElem?_eq_some_iff.mp h1
      have : k ∈ found.filter Qq := List.mem_filter.mpr ⟨List.mem_filter.mpr ⟨List.mem_range.mpr hl, by simp only [P, Bool.and_eq_true, decide_eq_true_eq, gd hl]; rw [e]; exact ⟨h2, h3⟩⟩, by simp only [Qq, decide_eq_true_eq, gd hl]; rw [e]; exact h4⟩
      have := List.length_pos_of_mem this
      omega
/-- the two ways to see what an item shows -/
theorem law_shows_ok {ns : List Str} (hd : ns.Nodup) (ho : ∀ n ∈ ns, okWord n) {w : List Str} (hw : w ∈ evS ns) {a b : List Mg} (ha : okMgs a) (hb : okMgs b) :
    ∃ z : Bool, m_law_shows [tS w, .lst (a.map eMg), .lst (b.map eMg)] = .ok (.bl z) ∧ (z = true ↔ shown w a b) := by
  rcases mem_evS.mp hw with ⟨k, n, hk, rfl | ⟨o, h1, r, h2, rfl⟩⟩ | ⟨n, hn, rfl⟩
  · exact shows_order hd ho hw ⟨_, _, _, rfl⟩ ha hb
  · exact shows_order hd ho hw ⟨_, _, _, rfl⟩ ha hb
  · exact shows_once ha hb
theorem ev_form {ns : List Str} {w : List Str} (hw : w ∈ evS ns) : (∃ x y r, w = i4 x y r) ∨ ∃ n, w = i2 n := by
  rcases mem_evS.mp hw with ⟨k, n, hk, rfl | ⟨o, h1, r, h2, rfl⟩⟩ | ⟨n, hn, rfl⟩
  · exact .inl ⟨_, _, _, rfl⟩
  · exact .inl ⟨_, _, _, rfl⟩
  · exact .inr ⟨_, rfl⟩
/-- keeps, as the law says it -/
theorem law_keeps_ok {ns : List Str} (hd : ns.Nodup) (ho : ∀ n ∈ ns, okWord n) {its : List (List Str)} (hi : ∀ w ∈ its, w ∈ evS ns) (hl : its.length ≤ 100) {fl : List (List Str)} (hf : ∀ w, w ∈ fl ↔ w ∈ its) {a b : Mg} (oa : okMg a) (ob : okMg b) :
    m_law_keeps [.lst (its.map tS), eMg a, eMg b] = .ok (.bl (keepT fl a b)) := by
  let P : List Str → Bool := fun w => decide (itmT a b = w) || decide (itmT b a = w)
  have hk : keepT fl a b = decide ((0 : Int) < (((its.filter P).length : Nat) : Int)) := by
    rw [Bool.eq_iff_iff]
    unfold keepT
    simp only [Bool.or_eq_true, decide_eq_true_eq, hf]
    constructor
    · intro h
      have : ∃ w, w ∈ its.filter P := by
        rcases h with h | h
        · exact ⟨_, List.mem_filter.mpr ⟨h, by simp [P]⟩⟩
        · exact ⟨_, List.mem_filter.mpr ⟨h, by simp [P]⟩⟩
      obtain ⟨w, hw⟩ := this
      have := List.length_pos_of_mem hw
      omega
    · intro h
      obtain ⟨w, hw⟩ := List.exists_mem_of_length_pos (show 0 < (its.filter P).length by omega)
      obtain ⟨h1, h2⟩ := List.mem_filter.mp hw
      simp only [P, Bool.or_eq_true, decide_eq_true_eq] at h2
      rcases h2 with rfl | rfl
      · exact .inl h1
      · exact .inr h1
  rw [hk]
  refine runF_ret (g := f_law_keeps) (N := 4) ?_
  rw [show args0 [D.lst (its.map tS), eMg a, eMg b] 4 = [some (.d (.lst (its.map tS))), some (.d (eMg a)), some (.d (eMg b)), none] from rfl]
  unfold f_law_keeps
  refine retF_ok (op2_of (a := .int ((its.filter P).length : Nat)) (b := .int 0) ?_ rfl (gt_ii _ _))
  refine op1_of (a := .lst ((its.filter P).map tS)) ?_ (by simp [lenD])
  refine compF_ok (d := .lst (its.map tS)) rfl rfl rfl (by rw [List.length_map]; unfold SL; omega) ?_
  refine comp_map tS P tS its fun w hw => ⟨[some (.d (.lst (its.map tS))), some (.d (eMg a)), some (.d (eMg b)), some (.d (tS w))], rfl, ?_, fun _ => rfl⟩
  obtain ⟨z, h1, h2⟩ := item_ev hd ho (hi w hw) oa ob
  have ez : z = P w := by
    rw [Bool.eq_iff_iff, h2]
    simp only [P, Bool.or_eq_true, decide_eq_true_eq]
  rw [← ez]
  unfold tstF
  rw [callF_ok (ds := [tS w, eMg a, eMg b]) (consA_ok rfl (consA_ok rfl (consA_ok rfl rfl))) h1]
  rfl
end Orn

set_option linter.all false
set_option maxRecDepth 100000
set_option maxHeartbeats 1000000
namespace Orn
open L2 PySem PySem.Spec PyProof.Rows
/-! ### what the law draws -/
theorem some_items_ok {ns : List Str} (h4 : ns.length ≤ 4) (hd : ns.Nodup) {row : List Int} (hl : row.length = 20) :
    ∃ its : List (List Str), m_law_some_items [.lst (ns.map D.str), .lst (row.map D.int)] = .ok (.lst (its.map tS)) ∧ its.Sublist (evS ns) := by
  have hev := evS_len h4
  let p : Nat → Bool := fun k => decide (row.getD (k % 20) 0 % 2 = 0)
  refine ⟨((List.range (evS ns).length).filter p).map fun k => (evS ns).getD k [], ?_, ?_⟩
  · refine runF_ret (g := f_law_some_items) (N := 4) ?_
    rw [show args0 [D.lst (ns.map D.str), D.lst (row.map D.int)] 4 = [some (.d (.lst (ns.map D.str))), some (.d (.lst (row.map D.int))), none, none] from rfl]
    unfold f_law_some_items
    refine seq_asgF (a := .lst ((evS ns).map tS)) (callF_ok (ds := [.lst (ns.map D.str)]) (consA_ok rfl rfl) (by rw [law_items_ok ns (by omega), every_ev])) ?_
    refine retF_ok ?_
    refine compR_ok (ds := [.int ((evS ns).length : Nat)]) (consA_ok (op1_of (a := .lst ((evS ns).map tS)) rfl (by simp [lenD])) rfl) (rg1_ok (by omega)) rfl (by rw [rangeL_len]; unfold SL; omega) ?_
    rw [rangeL_eI, List.map_map]
    refine comp_map eI p _ (List.range (evS ns).length) fun k hk => ⟨[some (.d (.lst (ns.map D.str))), some (.d (.lst (row.map D.int))), some (.d (.lst ((evS ns).map tS))), some (.d (eI k))], rfl, ?_, fun _ => ?_⟩
    · have hk20 : k % 20 < row.length := by omega
      have i1 : op2 modD (varF 3) (op1 lenD (varF 1)) [some (.d (.lst (ns.map D.str))), some (.d (.lst (row.map D.int))), some (.d (.lst ((evS ns).map tS))), some (.d (eI k))] = .ok (.int ((k % 20 : Nat) : Int)) := by
        refine op2_of (a := .int (k : Nat)) (b := .int 20) rfl (op1_of (a := .lst (row.map D.int)) rfl (by simp [lenD, hl])) ?_
        rw [mod_ii _ _ (by omega)]
        congr 2
      refine tcmp_ok (a := .int (row[k % 20] % 2)) (b := .int 0) (op2_of (b := .int 2) (op2_of (a := .lst (row.map D.int)) rfl i1 (idx_rowN row _ hk20)) rfl (mod_ii _ _ (by omega))) rfl ?_
      rw [eqD_int]
      simp only [p]
      rw [getD_at hk20]
    · have hk := List.mem_range.mp hk
      refine op2_of (a := .lst ((evS ns).map tS)) (b := .int (k : Nat)) rfl rfl ((idx_lN tS (evS ns) k hk).trans ?_)
      show _ = Rs.ok (tS ((evS ns).getD k []))
      rw [List.getD_eq_getElem?_getD, List.getElem?_eq_getElem hk]
      rfl
  · have e : (List.range (evS ns).length).map (fun k => (evS ns).getD k []) = evS ns := by
      refine List.ext_getElem? fun i => ?_
      rw [List.getElem?_map]
      by_cases hi : i < (evS ns).length
      · rw [List.getElem?_range hi, List.getElem?_eq_getElem hi]
        simp [List.getElem?_eq_getElem hi]
      · rw [List.getElem?_eq_none (by simpa using hi), List.getElem?_eq_none (by omega)]
        rfl
    conv => rhs; rw [← e]
    exact List.Sublist.map _ List.filter_sublist
abbrev eCh (S R N C : Option T) (came : List Mg) (x5 x6 x7 : Option T) : En := [S, R, N, C, some (.d (.lst (came.map eMg))), x5, x6, x7]
theorem change_turn {row : List Int} (hr : Draws row) (hl : 28 ≤ row.length) {ns : List Str} (hn : 1 ≤ ns.length) (ho : ∀ n ∈ ns, okWord n) {sc : Int} (s1 : 0 ≤ sc) (s2 : sc ≤ 250000) {k : Nat} (hk : k < 3) {came : List Mg} (hc : came.length ≤ 50) (hm : ∀ m ∈ came, okMg m) (S x6 x7 : Option T) :
    ∃ came' y6 y7, b_law_changed_0 (eCh S (some (.d (.lst (row.map D.int)))) (some (.d (.lst (ns.map D.str)))) (some (.d (.int sc))) came (some (.d (.int (k : Nat)))) x6 x7) = .ok (.next (eCh S (some (.d (.lst (row.map D.int)))) (some (.d (.lst (ns.map D.str)))) (some (.d (.int sc))) came' (some (.d (.int (k : Nat)))) y6 y7)) ∧ came'.length ≤ came.length + 1 ∧ ∀ m ∈ came', okMg m := by
  have ix : ∀ (c : Nat) (E : En), c ≤ 3 → varF 1 E = .ok (.lst (row.map D.int)) → varF 5 E = .ok (.int (k : Nat)) → op2 idxD (varF 1) (op2 addD (cF (.int (c : Nat))) (op2 mulD (cF (.int 3)) (varF 5))) E = .ok (.int (row.getD (c + 3 * k) 0)) := fun c E hc h1 h5 => by
    have hi : c + 3 * k < row.length := by omega
    refine op2_of (b := .int ((c + 3 * k : Nat) : Int)) h1 (op2_of (a := .int (c : Nat)) (b := .int (3 * (k : Int))) rfl (op2_of (a := .int 3) rfl h5 (mul_l _ _ (by decide) (by decide))) ?_) ?_
    · rw [add_ii]
      congr 2
    · rw [idx_rowN row _ hi, getD_at hi]
  have dr : ∀ c : Nat, c ≤ 3 → 0 ≤ row.getD (c + 3 * k) 0 ∧ row.getD (c + 3 * k) 0 < 840 := fun c hc => by
    have hi : c + 3 * k < row.length := by omega
    rw [getD_at hi]
    exact hr.at hi
  obtain ⟨a, ha⟩ : ∃ a : Nat, row.getD (1 + 3 * k) 0 % ((came.length : Int) + 1) = (a : Int) := ⟨(row.getD (1 + 3 * k) 0 % ((came.length : Int) + 1)).toNat, (Int.toNat_of_nonneg (Int.emod_nonneg _ (by omega))).symm⟩
  have hac : a ≤ came.length := by
    have := Int.emod_lt_of_pos (row.getD (1 + 3 * k) 0) (show 0 < (came.length : Int) + 1 by omega)
    omega
  let R : Option T := some (.d (.lst (row.map D.int)))
  let N : Option T := some (.d (.lst (ns.map D.str)))
  let C : Option T := some (.d (.int sc))
  let K : Option T := some (.d (.int (k : Nat)))
  let A : Option T := some (.d (.int (a : Nat)))
  let kd := row.getD (2 + 3 * k) 0 % 5
  let E : En := eCh S R N C came K A (some (.d (.int kd)))
  have v4 : varF 4 E = .ok (.lst (came.map eMg)) := rfl
  have v6 : varF 6 E = .ok (.int (a : Nat)) := rfl
  have v7 : varF 7 E = .ok (.int kd) := rfl
  have start : ∀ r, ifS (tcmp eqD (varF 7) (cF (.int 0))) (asgF 4 (op2 addL (op2 addL (sliceF sliceD (varF 4) (noF) (someF (varF 6))) (op1 revL (sliceF sliceD (varF 4) (someF (varF 6)) (someF (op2 addD (varF 6) (cF (.int 2))))))) (sliceF sliceD (varF 4) (someF (op2 addD (varF 6) (cF (.int 2)))) (noF)))) (ifS (tand (tcmp eqD (varF 7) (cF (.int 1))) (tcmp gtD (varF 6) (cF (.int 0)))) (asgF 4 (op2 addL (op2 addL (sliceF sliceD (varF 4) (noF) (someF (varF 6))) (lstF (consA (op2 idxD (varF 4) (op2 modD (op2 idxD (varF 1) (op2 addD (cF (.int 3)) (op2 mulD (cF (.int 3)) (varF 5)))) (varF 6))) (nilA)))) (sliceF sliceD (varF 4) (someF (varF 6)) (noF)))) (ifS (tcmp eqD (varF 7) (cF (.int 2))) (asgF 4 (op2 addL (op2 addL (sliceF sliceD (varF 4) (noF) (someF (varF 6))) (lstF (consA (tupF (consA (op2 idxD (varF 2) (op2 modD (op2 idxD (varF 1) (op2 addD (cF (.int 3)) (op2 mulD (cF (.int 3)) (varF 5)))) (op1 lenD (varF 2)))) (consA (op2 mulD (op2 modD (op2 divD (op2 idxD (varF 1) (op2 addD (cF (.int 3)) (op2 mulD (cF (.int 3)) (varF 5)))) (cF (.int 4))) (cF (.int 5))) (varF 3)) (nilA)))) (nilA)))) (sliceF sliceD (varF 4) (someF (varF 6)) (noF)))) (ifS (tcmp eqD (varF 7) (cF (.int 3))) (asgF 4 (op2 addD (sliceF sliceD (varF 4) (noF) (someF (varF 6))) (sliceF sliceD (varF 4) (someF (op2 addD (varF 6) (cF (.int 1)))) (noF)))) (nilS)))) E = r → b_law_changed_0 (eCh S R N C came K x6 x7) = r := fun r h => by
    unfold b_law_changed_0
    refine seq_asgF (a := .int (a : Nat)) ?_ ?_
    · refine op2_of (b := .int ((came.length : Int) + 1)) (ix 1 _ (by omega) rfl rfl) (op2_of (a := .int came.length) (b := .int 1) (len_of rfl) rfl (add_ii _ _)) ?_
      rw [mod_ii _ _ (by omega), ha]
    refine seq_asgF (a := .int kd) (op2_of (b := .int 5) (ix 2 _ (by omega) rfl rfl) rfl (mod_ii _ _ (by omega))) ?_
    exact h
  have fin : ∀ (f : En → Rs D) (l : List Mg), f E = .ok (.lst (l.map eMg)) → l.length ≤ came.length + 1 → (∀ m ∈ l, okMg m) → b_law_changed_0 (eCh S R N C came K x6 x7) = asgF 4 f E → ∃ came' y6 y7, b_law_changed_0 (eCh S R N C came K x6 x7) = .ok (.next (eCh S R N C came' K y6 y7)) ∧ came'.length ≤ came.length + 1 ∧ ∀ m ∈ came', okMg m := fun f l h1 h2 h3 h4 => by
    refine ⟨l, A, some (.d (.int kd)), ?_, h2, h3⟩
    rw [h4]
    unfold asgF withE
    rw [h1]
    rfl
  have q0 := tcmp_ok v7 (show cF (.int 0) E = .ok (.int 0) from rfl) (eqD_int _ _)
  have q1 := tcmp_ok v7 (show cF (.int 1) E = .ok (.int 1) from rfl) (eqD_int _ _)
  have q2 := tcmp_ok v7 (show cF (.int 2) E = .ok (.int 2) from rfl) (eqD_int _ _)
  have q3 := tcmp_ok v7 (show cF (.int 3) E = .ok (.int 3) from rfl) (eqD_int _ _)
  have qa := tcmp_ok v6 (show cF (.int 0) E = .ok (.int 0) from rfl) (gt_ii _ _)
  by_cases c0 : kd = 0
  · refine fin _ (came.take a ++ ((came.drop a).take 2).reverse ++ came.drop (a + 2)) ?_ (by simp; omega) (fun m h => hm m (swp_mem h)) (start _ (ifS_t (q0.trans (by rw [decide_eq_true c0]))))
    have sm := slMid (j := a + 2) v4 v6 (addN_of (c := 2) v6)
    rw [show a + 2 - a = 2 by omega] at sm
    have := addL_of (addL_of (slTo v4 v6) (show op1 revL (sliceF sliceD (varF 4) (someF (varF 6)) (someF (op2 addD (varF 6) (cF (.int 2))))) E = .ok (.lst (((came.drop a).take 2).map eMg).reverse) from op1_of sm rfl) (by unfold SL; simp; omega)) (slFrom (k := a + 2) v4 (addN_of (c := 2) v6)) (by unfold SL; simp; omega)
    rw [List.map_append, List.map_append, List.map_reverse]
    exact this
  have n0 := q0.trans (show Rs.ok (decide (kd = 0)) = .ok false by rw [decide_eq_false c0])
  by_cases c1 : kd = 1 ∧ 0 < a
  · have hx : (row.getD (3 + 3 * k) 0 % (a : Int)).toNat < came.length := by
      have h1 := Int.emod_nonneg (row.getD (3 + 3 * k) 0) (show (a : Int) ≠ 0 by omega)
      have h2 := Int.emod_lt_of_pos (row.getD (3 + 3 * k) 0) (show 0 < (a : Int) by omega)
      omega
    have h1 := Int.emod_nonneg (row.getD (3 + 3 * k) 0) (show (a : Int) ≠ 0 by omega)
    refine fin _ (came.take a ++ [came[(row.getD (3 + 3 * k) 0 % (a : Int)).toNat]] ++ came.drop a) ?_ (by simp; omega) (fun m h => ?_) (start _ ((ifS_f n0).trans (ifS_t (tand_t (q1.trans (by rw [decide_eq_true c1.1])) (qa.trans (by rw [decide_eq_true (by omega)]))))))
    · have g : op2 idxD (varF 4) (op2 modD (op2 idxD (varF 1) (op2 addD (cF (.int 3)) (op2 mulD (cF (.int 3)) (varF 5)))) (varF 6)) E = .ok (eMg came[(row.getD (3 + 3 * k) 0 % (a : Int)).toNat]) := by
        refine mg_at (k := (row.getD (3 + 3 * k) 0 % (a : Int)).toNat) v4 ?_ (List.getElem?_eq_getElem hx)
        rw [Int.toNat_of_nonneg h1]
        exact op2_of (ix 3 E (by omega) rfl rfl) v6 (mod_ii _ _ (by omega))
      have := addL_of (addL_of (slTo v4 v6) (lstF_ok (ds := [eMg came[(row.getD (3 + 3 * k) 0 % (a : Int)).toNat]]) (consA_ok g (show nilA E = .ok [] from rfl)) (by unfold SL; simp)) (by unfold SL; simp; omega)) (slFrom v4 v6) (by unfold SL; simp; omega)
      rw [List.map_append, List.map_append]
      exact this
    · rcases List.mem_append.mp h with h | h
      · rcases List.mem_append.mp h with h | h
        · exact hm m (List.mem_of_mem_take h)
        · rw [List.mem_singleton.mp h]
          exact hm _ (List.getElem_mem _)
      · exact hm m (List.mem_of_mem_drop h)
  have n1 : tand (tcmp eqD (varF 7) (cF (.int 1))) (tcmp gtD (varF 6) (cF (.int 0))) E = .ok false := by
    by_cases z : kd = 1
    · exact tand_t (q1.trans (by rw [decide_eq_true z])) (qa.trans (by rw [decide_eq_false (fun h => c1 ⟨z, by omega⟩)]))
    · exact tand_f (q1.trans (by rw [decide_eq_false z]))
  by_cases c2 : kd = 2
  · have d3 := dr 3 (by omega)
    obtain ⟨j, hj⟩ : ∃ j : Nat, row.getD (3 + 3 * k) 0 % (ns.length : Int) = (j : Int) := ⟨(row.getD (3 + 3 * k) 0 % (ns.length : Int)).toNat, (Int.toNat_of_nonneg (Int.emod_nonneg _ (by omega))).symm⟩
    have hjl : j < ns.length := by
      have := Int.emod_lt_of_pos (row.getD (3 + 3 * k) 0) (show 0 < (ns.length : Int) by omega)
      omega
    let m0 : Mg := (ns[j], row.getD (3 + 3 * k) 0 / 4 % 5 * sc)
    have om : okMg m0 := by
      refine ⟨okS_word (ho _ (List.getElem_mem hjl)), ?_⟩
      have b1 : 0 ≤ row.getD (3 + 3 * k) 0 / 4 % 5 := by omega
      have b2 : row.getD (3 + 3 * k) 0 / 4 % 5 ≤ 4 := by omega
      have b3 : 0 ≤ row.getD (3 + 3 * k) 0 / 4 % 5 * sc := Int.mul_nonneg b1 s1
      have b4 : row.getD (3 + 3 * k) 0 / 4 % 5 * sc ≤ 4 * 250000 := Int.mul_le_mul b2 s2 s1 (by omega)
      show (row.getD (3 + 3 * k) 0 / 4 % 5 * sc).natAbs ≤ 2000000
      omega
    refine fin _ (came.take a ++ [m0] ++ came.drop a) ?_ (by simp; omega) (fun m h => ?_) (start _ ((ifS_f n0).trans ((ifS_f n1).trans (ifS_t (q2.trans (by rw [decide_eq_true c2]))))))
    · have g : tupF (consA (op2 idxD (varF 2) (op2 modD (op2 idxD (varF 1) (op2 addD (cF (.int 3)) (op2 mulD (cF (.int 3)) (varF 5)))) (op1 lenD (varF 2)))) (consA (op2 mulD (op2 modD (op2 divD (op2 idxD (varF 1) (op2 addD (cF (.int 3)) (op2 mulD (cF (.int 3)) (varF 5)))) (cF (.int 4))) (cF (.int 5))) (varF 3)) (nilA))) E = .ok (eMg m0) := by
        refine tupF_ok (ds := [.str ns[j], .int (row.getD (3 + 3 * k) 0 / 4 % 5 * sc)]) (consA_ok ?_ (consA_ok ?_ rfl)) (by unfold SL; simp)
        · refine op2_of (a := .lst (ns.map D.str)) (b := .int (j : Nat)) rfl (op2_of (b := .int (ns.length : Nat)) (ix 3 E (by omega) rfl rfl) (op1_of (a := .lst (ns.map D.str)) rfl (by simp [lenD])) ?_) (idx_lN D.str ns j hjl)
          rw [mod_ii _ _ (by omega), hj]
        · exact op2_of (op2_of (b := .int 5) (op2_of (b := .int 4) (ix 3 E (by omega) rfl rfl) rfl (div_ii _ _ (by omega) (by omega))) rfl (mod_ii _ _ (by omega))) (show varF 3 E = .ok (.int sc) from rfl) (mul_r _ _ (by omega) (by omega))
      have := addL_of (addL_of (slTo v4 v6) (lstF_ok (ds := [eMg m0]) (consA_ok g (show nilA E = .ok [] from rfl)) (by unfold SL; simp)) (by unfold SL; simp; omega)) (slFrom v4 v6) (by unfold SL; simp; omega)
      rw [List.map_append, List.map_append]
      exact this
    · rcases List.mem_append.mp h with h | h
      · rcases List.mem_append.mp h with h | h
        · exact hm m (List.mem_of_mem_take h)
        · rw [List.mem_singleton.mp h]
          exact om
      · exact hm m (List.mem_of_mem_drop h)
  have n2 := q2.trans (show Rs.ok (decide (kd = 2)) = .ok false by rw [decide_eq_false c2])
  by_cases c3 : kd = 3
  · refine fin _ (came.take a ++ came.drop (a + 1)) ?_ (by simp; omega) (fun m h => ?_) (start _ ((ifS_f n0).trans ((ifS_f n1).trans ((ifS_f n2).trans (ifS_t (q3.trans (by rw [decide_eq_true c3])))))))
    · refine op2_of (slTo v4 v6) (slFrom (k := a + 1) v4 (addN_of (c := 1) v6)) ?_
      unfold addD
      dsimp only
      rw [if_pos (by unfold SL; simp; omega), List.map_append]
    · rcases List.mem_append.mp h with h | h
      · exact hm m (List.mem_of_mem_take h)
      · exact hm m (List.mem_of_mem_drop h)
  · have n3 := q3.trans (show Rs.ok (decide (kd = 3)) = .ok false by rw [decide_eq_false c3])
    exact ⟨came, A, some (.d (.int kd)), start _ ((ifS_f n0).trans ((ifS_f n1).trans ((ifS_f n2).trans ((ifS_f n3).trans rfl)))), by omega, hm⟩
theorem changed_ok {row : List Int} (hr : Draws row) (hl : 28 ≤ row.length) {ns : List Str} (hn : 1 ≤ ns.length) (ho : ∀ n ∈ ns, okWord n) {sc : Int} (s1 : 0 ≤ sc) (s2 : sc ≤ 250000) {sent : List Mg} (hc : sent.length ≤ 12) (hm : ∀ m ∈ sent, okMg m) :
    ∃ came : List Mg, m_law_changed [.lst (sent.map eMg), .lst (row.map D.int), .lst (ns.map D.str), .int sc] = .ok (.lst (came.map eMg)) ∧ okMgs came := by
  have x0 := idx_rowN row 0 (by omega)
  have r0 := hr.at (show 0 < row.length by omega)
  obtain ⟨n, hn4⟩ : ∃ n : Nat, row[0] % 4 = (n : Int) := ⟨(row[0] % 4).toNat, (Int.toNat_of_nonneg (by omega)).symm⟩
  let S : Option T := some (.d (.lst (sent.map eMg)))
  let R : Option T := some (.d (.lst (row.map D.int)))
  let N : Option T := some (.d (.lst (ns.map D.str)))
  let C : Option T := some (.d (.int sc))
  obtain ⟨e', h1, came, x5, x6, x7, rfl, h2, h3⟩ := range_inv (t := (Tg.nm 5).put) (g := b_law_changed_0) (fun i e => ∃ came x5 x6 x7, e = eCh S R N C came x5 x6 x7 ∧ came.length ≤ sent.length + i ∧ ∀ m ∈ came, okMg m) n (eCh S R N C sent none none none) ⟨sent, none, none, none, rfl, by omega, hm⟩ (by
    rintro i e hi ⟨came, x5, x6, x7, rfl, h2, h3⟩
    obtain ⟨came', y6, y7, q1, q2, q3⟩ := change_turn hr hl hn ho s1 s2 (k := i) (by omega) (came := came) (by omega) h3 S x6 x7
    exact ⟨eCh S R N C came (some (.d (.int i))) x6 x7, _, rfl, q1, came', _, _, _, rfl, by omega, q3⟩)
  refine ⟨came, runF_ret (g := f_law_changed) (N := 8) ?_, by omega, h3⟩
  rw [show args0 [D.lst (sent.map eMg), D.lst (row.map D.int), D.lst (ns.map D.str), D.int sc] 8 = [S, R, N, C, none, none, none, none] from rfl]
  unfold f_law_changed
  refine seq_asgF (a := .lst (sent.map eMg)) (op1_of (a := .lst (sent.map eMg)) rfl rfl) ?_
  refine (seqS_ok ((forR_ok (ds := [.int (n : Nat)]) (consA_ok (op2_of (a := .int row[0]) (b := .int 4) (op2_of (a := .lst (row.map D.int)) (b := .int ((0 : Nat) : Int)) rfl rfl x0) rfl ?_) rfl) (rg1_ok (by omega))).trans h1)).trans rfl
  rw [mod_ii _ _ (by omega), hn4]
end Orn

set_option linter.all false
set_option maxRecDepth 100000
set_option maxHeartbeats 1000000
namespace Orn
open L2 PySem PySem.Spec PyProof.Rows
abbrev e19 (a0 a1 a2 a3 a4 a5 a6 a7 a8 a9 a10 a11 a12 a13 a14 a15 a16 a17 a18 : Option T) : En := [a0, a1, a2, a3, a4, a5, a6, a7, a8, a9, a10, a11, a12, a13, a14, a15, a16, a17, a18]
theorem keepT_comm (fl : List (List Str)) (a b : Mg) : keepT fl a b = keepT fl b a := Bool.or_comm _ _
theorem isb (b : Bool) (fa : En → Rs D) (env : En) (h : fa env = .ok (.bl b)) : tnot (tstF (op1 (isiD "bool") fa)) env = .ok false := by
  have : op1 (isiD "bool") fa env = .ok (.bl true) := op1_of h rfl
  unfold tnot tstF
  rw [this]
  rfl
theorem ne_bl {fa fb : En → Rs D} {env : En} {b : Bool} (h : fa env = .ok (.bl b)) (h2 : fb env = .ok (.bl b)) : tcmp neD fa fb env = .ok false :=
  (tcmp_ok h h2 (neD_of (eqD_bl b b))).trans (by rw [decide_eq_true rfl]; rfl)
section
variable {ns : List Str} {its fl : List (List Str)} (hd : ns.Nodup) (ho : ∀ n ∈ ns, okWord n) (hi : ∀ w ∈ its, w ∈ evS ns) (hl : its.length ≤ 100) (hf : ∀ w, w ∈ fl ↔ w ∈ its)
include hd ho hi hl hf
theorem body0_ok {a b : Mg} (oa : okMg a) (ob : okMg b) (a0 a1 a2 a5 a6 a8 a10 a11 a12 a13 a14 a15 a16 a17 a18 : Option T) :
    ∃ y16, b_law_0 (e19 a0 a1 a2 (some (.d (.lst (its.map tS)))) (some (.d (.obj "Promise" (prF ns fl)))) a5 a6 (some (.d (eMg a))) a8 (some (.d (eMg b))) a10 a11 a12 a13 a14 a15 a16 a17 a18) = .ok (.next (e19 a0 a1 a2 (some (.d (.lst (its.map tS)))) (some (.d (.obj "Promise" (prF ns fl)))) a5 a6 (some (.d (eMg a))) a8 (some (.d (eMg b))) a10 a11 a12 a13 a14 a15 y16 a17 a18)) := by
  have of : ∀ w ∈ fl, okI w := fun w hw => ev_ok ho w (hi w ((hf w).mp hw))
  have k1 := keeps_ok (ns := ns) (fl := fl) (da := eMg a) (db := eMg b) (.inl rfl) (.inl rfl) oa ob of
  have k2 := keeps_ok (ns := ns) (fl := fl) (da := eMg b) (db := eMg a) (.inl rfl) (.inl rfl) ob oa of
  have k3 := keeps_ok (ns := ns) (fl := fl) (da := lMg a) (db := lMg b) (.inr rfl) (.inr rfl) oa ob of
  have k4 := law_keeps_ok hd ho hi hl hf oa ob
  rw [keepT_comm] at k2
  generalize keepT fl a b = z at *
  refine ⟨some (.d (.bl z)), ?_⟩
  unfold b_law_0
  refine seq_asgF (a := .bl z) (callF_ok (ds := [.obj "Promise" (prF ns fl), eMg a, eMg b]) (consA_ok rfl (consA_ok rfl (consA_ok rfl rfl))) k1) ?_
  refine skipS (tor_f (isb z _ _ rfl) (ne_bl (b := z) rfl (callF_ok (ds := [.lst (its.map tS), eMg a, eMg b]) (consA_ok rfl (consA_ok rfl (consA_ok rfl rfl))) k4))) ?_
  refine (ifS_f (tor_f (ne_bl (b := z) (callF_ok (ds := [.obj "Promise" (prF ns fl), eMg b, eMg a]) (consA_ok rfl (consA_ok rfl (consA_ok rfl rfl))) k2) rfl) (ne_bl (b := z) (callF_ok (ds := [.obj "Promise" (prF ns fl), lMg a, lMg b]) (consA_ok rfl (consA_ok (op1_of (a := eMg a) rfl rfl) (consA_ok (op1_of (a := eMg b) rfl rfl) rfl))) k3) rfl))).trans rfl
theorem body1_ok {a : Mg} (oa : okMg a) {ms : List Mg} (om : ∀ m ∈ ms, okMg m) (a0 a1 a2 a5 a8 a9 a10 a11 a12 a13 a14 a15 a16 a17 a18 : Option T) :
    ∃ y9 y16, b_law_1 (e19 a0 a1 a2 (some (.d (.lst (its.map tS)))) (some (.d (.obj "Promise" (prF ns fl)))) a5 (some (.d (.lst (ms.map eMg)))) (some (.d (eMg a))) a8 a9 a10 a11 a12 a13 a14 a15 a16 a17 a18) = .ok (.next (e19 a0 a1 a2 (some (.d (.lst (its.map tS)))) (some (.d (.obj "Promise" (prF ns fl)))) a5 (some (.d (.lst (ms.map eMg)))) (some (.d (eMg a))) a8 y9 a10 a11 a12 a13 a14 a15 y16 a17 a18)) := by
  obtain ⟨e', h1, y9, y16, rfl⟩ := loop_inv0 (t := (Tg.nm 9).put) (g := b_law_0) (fun _ e => ∃ y9 y16, e = e19 a0 a1 a2 (some (.d (.lst (its.map tS)))) (some (.d (.obj "Promise" (prF ns fl)))) a5 (some (.d (.lst (ms.map eMg)))) (some (.d (eMg a))) a8 y9 a10 a11 a12 a13 a14 a15 y16 a17 a18) (ms.map eMg) (e19 a0 a1 a2 (some (.d (.lst (its.map tS)))) (some (.d (.obj "Promise" (prF ns fl)))) a5 (some (.d (.lst (ms.map eMg)))) (some (.d (eMg a))) a8 a9 a10 a11 a12 a13 a14 a15 a16 a17 a18) ⟨a9, a16, rfl⟩ (by
    rintro i x e hx ⟨y9, y16, rfl⟩
    obtain ⟨m, hm, rfl⟩ := List.mem_map.mp (List.mem_of_getElem? hx)
    obtain ⟨y, hy⟩ := body0_ok hd ho hi hl hf oa (om m hm) a0 a1 a2 a5 (some (.d (.lst (ms.map eMg)))) a8 a10 a11 a12 a13 a14 a15 y16 a17 a18
    exact ⟨_, _, rfl, hy, _, _, rfl⟩)
  refine ⟨y9, y16, ?_⟩
  unfold b_law_1
  exact (forF_ok (d := .lst (ms.map eMg)) rfl rfl).trans h1
end
theorem fi_sq {l : List Mg} (h : okMgs l) : Fi (.lst (l.map eMg)) 2 1000000 := by
  have := (Fi.lst (xs := l.map eMg) (k := 1) (n := 5000) fun x hx => by
    obtain ⟨m, hm, rfl⟩ := List.mem_map.mp hx
    exact (h.2 m hm).fi)
  refine this.mono (by omega) ?_
  rw [List.length_map]
  have := Nat.mul_le_mul_right 5002 h.1
  omega
section
variable {ns : List Str} (hd : ns.Nodup) (ho : ∀ n ∈ ns, okWord n)
include hd ho
theorem body2_ok {w : List Str} (hw : w ∈ evS ns) {s c : List Mg} (os : okMgs s) (oc : okMgs c) (a0 a1 a2 a3 a4 a5 a6 a7 a8 a9 a10 a15 a16 a17 a18 : Option T) :
    ∃ y16 y18, b_law_2 (e19 a0 a1 a2 a3 a4 a5 a6 a7 a8 a9 a10 (some (.d (.lst (s.map eMg)))) (some (.d (.lst (c.map eMg)))) (some (.d (.lst [.lst (s.map eMg), .lst (c.map eMg)]))) (some (.d (tS w))) a15 a16 a17 none) = .ok (.next (e19 a0 a1 a2 a3 a4 a5 a6 a7 a8 a9 a10 (some (.d (.lst (s.map eMg)))) (some (.d (.lst (c.map eMg)))) (some (.d (.lst [.lst (s.map eMg), .lst (c.map eMg)]))) (some (.d (tS w))) a15 y16 a17 y18)) ∧ y18 = none := by
  have ow := ev_ok ho w hw
  have fw := ev_form hw
  obtain ⟨z1, h1, g1⟩ := shows_ok (g := false) ow fw (isSq_e s) (isSq_e c) os oc
  obtain ⟨z2, h2, g2⟩ := law_shows_ok hd ho hw os oc
  obtain ⟨z3, h3, g3⟩ := shows_ok (g := true) ow fw (isSq_l s) (isSq_t c) os oc
  have e2 : z2 = z1 := by rw [Bool.eq_iff_iff, g1, g2]
  have e3 : z3 = z1 := by rw [Bool.eq_iff_iff, g1, g3]
  rw [e2] at h2
  rw [e3] at h3
  have hF : Fi (.lst [.lst (s.map eMg), .lst (c.map eMg)]) 3 3000000 := (Fi.lst (k := 2) (n := 1000000) fun x hx => by
    simp only [List.mem_cons, List.not_mem_nil, or_false] at hx
    rcases hx with rfl | rfl
    · exact fi_sq os
    · exact fi_sq oc).mono (by omega) (by show 2 * (1000000 + 2) + 3 ≤ 3000000; omega)
  refine ⟨some (.d (.bl z1)), none, ?_, rfl⟩
  unfold b_law_2
  refine seq_asgF (a := .bl z1) (callF_ok (ds := [gR (false, w), .lst (s.map eMg), .lst (c.map eMg)]) (consA_ok rfl (consA_ok rfl (consA_ok rfl rfl))) h1) ?_
  refine skipS (tor_f (isb z1 _ _ rfl) (tor_f (ne_bl (b := z1) rfl (callF_ok (ds := [tS w, .lst (s.map eMg), .lst (c.map eMg)]) (consA_ok rfl (consA_ok rfl (consA_ok rfl rfl))) h2)) (ne_same (d := .lst [.lst (s.map eMg), .lst (c.map eMg)]) rfl (lstF_ok (consA_ok rfl (consA_ok rfl rfl)) (by unfold SL; simp)) (by omega) hF))) ?_
  refine (ifS_f (ne_bl (b := z1) (callF_ok (ds := [gR (true, w), .lst (s.map lMg), .tup (c.map eMg)]) (consA_ok (op1_of (a := tS w) rfl rfl) (consA_ok ?_ (consA_ok (op1_of (a := .lst (c.map eMg)) rfl rfl) rfl))) h3) rfl)).trans rfl
  refine compF_ok (d := .lst (s.map eMg)) rfl rfl rfl (by rw [List.length_map]; have := os.1; unfold SL; omega) ?_
  exact comp_yes eMg lMg s fun m _ => ⟨_, rfl, op1_of (a := eMg m) rfl rfl⟩
theorem body3_ok (h1n : 1 ≤ ns.length) (hn100 : ns.length ≤ 100) {sc : Int} (s1 : 0 ≤ sc) (s2 : sc ≤ 250000) (cell : Int) (a0 a2 a3 a4 a6 a7 a9 a10 a11 a12 a13 a14 a16 a17 : Option T) :
    ∃ y10 y11 y12 y13 y14 y16, b_law_3 (e19 a0 (some (.d (.lst (ns.map D.str)))) a2 a3 a4 (some (.d (.int sc))) a6 a7 (some (.d (.int cell))) a9 a10 a11 a12 a13 a14 none a16 a17 none) = .ok (.next (e19 a0 (some (.d (.lst (ns.map D.str)))) a2 a3 a4 (some (.d (.int sc))) a6 a7 (some (.d (.int cell))) a9 y10 y11 y12 y13 y14 none y16 a17 none)) := by
  obtain ⟨part, p1, p2, p3⟩ := law_row_ok cell 28 (by omega)
  have x12 := idx_rowN part 12 (by omega)
  have d12 := p3 _ (List.getElem_mem (show 12 < part.length by omega))
  obtain ⟨cc, hcc⟩ : ∃ cc : Nat, part[12] % 12 = (cc : Int) := ⟨(part[12] % 12).toNat, (Int.toNat_of_nonneg (by omega)).symm⟩
  let nums := (part.drop 16).take cc
  have dnum : ∀ x ∈ nums, 0 ≤ x ∧ x < 840 := fun x hx => p3 x (List.mem_of_mem_drop (List.mem_of_mem_take hx))
  have lnum : nums.length ≤ 11 := by
    show ((part.drop 16).take cc).length ≤ 11
    rw [List.length_take]
    omega
  have jn : ∀ x : Int, 0 ≤ x → (x % (ns.length : Int)).toNat < ns.length := fun x hx => by
    have a1 := Int.emod_nonneg x (show (ns.length : Int) ≠ 0 by omega)
    have a2 := Int.emod_lt_of_pos x (show 0 < (ns.length : Int) by omega)
    omega
  let mk : Int → Mg := fun x => (ns.getD (x % (ns.length : Int)).toNat "", x / 4 % 4 * sc)
  let s : List Mg := nums.map mk
  have oms : ∀ m ∈ s, okMg m := fun m hm => by
    obtain ⟨x, hx, rfl⟩ := List.mem_map.mp hm
    have dx := dnum x hx
    refine ⟨?_, ?_⟩
    · show okS (ns.getD (x % (ns.length : Int)).toNat "")
      rw [List.getD_eq_getElem?_getD, List.getElem?_eq_getElem (jn x dx.1)]
      exact okS_word (ho _ (List.getElem_mem _))
    · show (x / 4 % 4 * sc).natAbs ≤ 2000000
      have b1 : 0 ≤ x / 4 % 4 := by omega
      have b2 : x / 4 % 4 ≤ 4 := by omega
      have b3 : 0 ≤ x / 4 % 4 * sc := Int.mul_nonneg b1 s1
      have b4 : x / 4 % 4 * sc ≤ 4 * 250000 := Int.mul_le_mul b2 s2 s1 (by omega)
      omega
  have ls : s.length ≤ 12 := by
    show (nums.map mk).length ≤ 12
    rw [List.length_map]
    omega
  obtain ⟨came, c1, c2⟩ := changed_ok (row := part) p3 (by omega) h1n ho s1 s2 ls oms
  have os : okMgs s := ⟨by omega, oms⟩
  let P : Option T := some (.d (.lst (part.map D.int)))
  let A1 : Option T := some (.d (.lst (ns.map D.str)))
  let A5 : Option T := some (.d (.int sc))
  let A8 : Option T := some (.d (.int cell))
  let S : Option T := some (.d (.lst (s.map eMg)))
  let C : Option T := some (.d (.lst (came.map eMg)))
  let G : Option T := some (.d (.lst [.lst (s.map eMg), .lst (came.map eMg)]))
  obtain ⟨e', h1, y14, y16, rfl⟩ := loop_inv0 (t := (Tg.nm 14).put) (g := b_law_2) (fun _ e => ∃ y14 y16, e = e19 a0 A1 a2 a3 a4 A5 a6 a7 A8 a9 P S C G y14 none y16 a17 none) ((evS ns).map tS) (e19 a0 A1 a2 a3 a4 A5 a6 a7 A8 a9 P S C G a14 none a16 a17 none) ⟨a14, a16, rfl⟩ (by
    rintro i x e hx ⟨y14, y16, rfl⟩
    obtain ⟨w, hw, rfl⟩ := List.mem_map.mp (List.mem_of_getElem? hx)
    obtain ⟨z16, z18, q, rfl⟩ := body2_ok hd ho hw os c2 a0 A1 a2 a3 a4 A5 a6 a7 A8 a9 P none y16 a17 none
    exact ⟨_, _, rfl, q, _, _, rfl⟩)
  refine ⟨P, S, C, G, y14, y16, ?_⟩
  unfold b_law_3
  refine seq_asgF (a := .lst (part.map D.int)) (callF_ok (ds := [.int cell, .int (28 : Nat)]) (consA_ok rfl (consA_ok rfl rfl)) p1) ?_
  refine seq_asgF (a := .lst (s.map eMg)) ?_ ?_
  · refine compF_ok (d := .lst (nums.map D.int)) ?_ rfl rfl (by rw [List.length_map]; unfold SL; omega) ?_
    · refine sliceF_of (x := .lst (part.map D.int)) (l := some ((16 : Nat) : Int)) (h := some ((16 + cc : Nat) : Int)) rfl rfl (someF_of (op2_of (a := .int 16) (b := .int (part[12] % 12)) rfl (op2_of (a := .int part[12]) (b := .int 12) (op2_of (a := .lst (part.map D.int)) (b := .int ((12 : Nat) : Int)) rfl rfl x12) rfl (mod_ii _ _ (by omega))) ?_)) ?_
      · rw [add_ii, hcc]
        congr 2
      · rw [sl_l, cut_lr, show 16 + cc - 16 = cc by omega]
    · show _ = Rs.ok ((nums.map mk).map eMg)
      rw [List.map_map]
      refine comp_yes D.int _ nums fun x hx => ⟨e19 a0 A1 a2 a3 a4 A5 a6 a7 A8 a9 P a11 a12 a13 a14 (some (.d (.int x))) a16 a17 none, rfl, ?_⟩
      have dx := dnum x hx
      refine tupF_ok (ds := [.str (ns.getD (x % (ns.length : Int)).toNat ""), .int (x / 4 % 4 * sc)]) (consA_ok ?_ (consA_ok ?_ rfl)) (by unfold SL; simp)
      · refine op2_of (a := .lst (ns.map D.str)) (b := .int ((x % (ns.length : Int)).toNat : Nat)) rfl (op2_of (a := .int x) (b := .int (ns.length : Nat)) rfl (op1_of (a := .lst (ns.map D.str)) rfl (by simp [lenD])) ?_) ?_
        · rw [mod_ii _ _ (by omega), Int.toNat_of_nonneg (Int.emod_nonneg _ (by omega))]
        · rw [idx_lN D.str ns _ (jn x dx.1), List.getD_eq_getElem?_getD, List.getElem?_eq_getElem (jn x dx.1)]
          rfl
      · exact op2_of (a := .int (x / 4 % 4)) (b := .int sc) (op2_of (a := .int (x / 4)) (b := .int 4) (op2_of (a := .int x) (b := .int 4) rfl rfl (div_ii _ _ (by omega) (by omega))) rfl (mod_ii _ _ (by omega))) rfl (mul_r _ _ (by omega) (by omega))
  refine seq_asgF (a := .lst (came.map eMg)) (callF_ok (ds := [.lst (s.map eMg), .lst (part.map D.int), .lst (ns.map D.str), .int sc]) (consA_ok rfl (consA_ok rfl (consA_ok rfl (consA_ok rfl rfl)))) c1) ?_
  refine seq_asgF (a := .lst [.lst (s.map eMg), .lst (came.map eMg)]) (lstF_ok (consA_ok (op1_of (a := .lst (s.map eMg)) rfl rfl) (consA_ok (op1_of (a := .lst (came.map eMg)) rfl rfl) rfl)) (by unfold SL; simp)) ?_
  exact (forF_ok (d := .lst ((evS ns).map tS)) (callF_ok (ds := [.lst (ns.map D.str)]) (consA_ok rfl rfl) (by rw [law_items_ok ns hn100, every_ev])) rfl).trans h1
end
end Orn

set_option linter.all false
set_option maxRecDepth 100000
set_option maxHeartbeats 1000000
namespace Orn
open L2 PySem PySem.Spec PyProof.Rows
def clip (x : Int) : Int := if (if (1000000 : Int) < x then 1000000 else x) > -1000000 then (if (1000000 : Int) < x then 1000000 else x) else -1000000
theorem clip_small (x : Int) : (clip x).natAbs ≤ 2000000 := by
  unfold clip
  split <;> split <;> omega
theorem scale_ok (i : Int) : ∃ sc : Int, idxD (.lst [.int 1, .int 1, .int 250000, .int 1001]) (.int (i % 4)) = .ok (.int sc) ∧ 0 ≤ sc ∧ sc ≤ 250000 := by
  have h1 := Int.emod_nonneg i (show (4 : Int) ≠ 0 by omega)
  have h2 := Int.emod_lt_of_pos i (show (0 : Int) < 4 by omega)
  obtain ⟨j, hj⟩ : ∃ j : Nat, i % 4 = (j : Int) := ⟨(i % 4).toNat, (Int.toNat_of_nonneg h1).symm⟩
  rw [hj]
  have hj4 : j < 4 := by omega
  have hc : j = 0 ∨ j = 1 ∨ j = 2 ∨ j = 3 := by omega
  rcases hc with rfl | rfl | rfl | rfl
  · exact ⟨1, rfl, by omega, by omega⟩
  · exact ⟨1, rfl, by omega, by omega⟩
  · exact ⟨250000, rfl, by omega, by omega⟩
  · exact ⟨1001, rfl, by omega, by omega⟩
theorem promise_ok {ns : List Str} (h4 : ns.length ≤ 4) (hd : ns.Nodup) (ho : ∀ n ∈ ns, okWord n) {its : List (List Str)} (hs : its.Sublist (evS ns)) :
    mk_Promise [.lst (ns.map D.str), .lst (its.map tS)] = .ok (prF ns ((evS ns).filter fun w => decide (w ∈ its))) := by
  have hl : its.length ≤ 26 := Nat.le_trans hs.length_le (evS_len h4)
  have hm : (its.map fun w => (false, w)).map (·.2) = its := by rw [List.map_map]; exact List.map_id its
  have q := mk_ok true true ns (its.map fun w => (false, w)) (by omega) ho (by rw [List.length_map]; omega) (by rw [hm]; exact fun w hw => ev_ok ho w (hs.subset hw))
  have e1 : gO true (its.map fun w => (false, w)) = .lst (its.map tS) := by
    show D.lst ((its.map fun w => (false, w)).map gR) = _
    rw [List.map_map]
    rfl
  have e2 : nmD true ns = .lst (ns.map D.str) := rfl
  rw [e1, e2, hm, List.length_map] at q
  rw [q, if_pos (Eq.trans (congrArg List.length (List.filter_congr fun x _ => decide_eq_decide.mpr Iff.rfl)) (filter_len (evS_nodup hd) (hs.nodup (evS_nodup hd)) fun x hx => hs.subset hx))]
  rfl
theorem law_true (ns : List Int) (hz : Sized 63 ns) : m_law [.rol (ns.map D.int)] = .ok (.bl true) := by
  have hz := hz.1
  have c0 := law_cell_eq ns 0
  have c1 := law_cell_eq ns 1
  have c2 := law_cell_eq ns 2
  have c3 := law_cell_eq ns 3
  generalize ns.getD 0 0 = x0 at c0
  generalize ns.getD 1 0 = x1 at c1
  generalize ns.getD 2 0 = x2 at c2
  generalize ns.getD 3 0 = x3 at c3
  obtain ⟨row0, r0, l0, d0⟩ := law_row_ok x0 4 (by omega)
  obtain ⟨names, n1, n2, n3, n4, n5, _⟩ := law_names_ok row0 d0 l0
  obtain ⟨row, r1, l1, d1⟩ := law_row_ok x1 40 (by omega)
  obtain ⟨its, i1, i2⟩ := some_items_ok n3 n4 (row := row.take 20) (by rw [List.length_take]; omega)
  have hp := promise_ok n3 n4 n5 i2
  have hi : ∀ w ∈ its, w ∈ evS names := fun w hw => i2.subset hw
  have hl : its.length ≤ 100 := Nat.le_trans i2.length_le (Nat.le_trans (evS_len n3) (by omega))
  have hf : ∀ w, w ∈ ((evS names).filter fun w => decide (w ∈ its)) ↔ w ∈ its := fun w => by
    rw [List.mem_filter, decide_eq_true_eq]
    exact ⟨fun h => h.2, fun h => ⟨hi w h, h⟩⟩
  generalize ((evS names).filter fun w => decide (w ∈ its)) = fl at *
  have x33 := idx_rowN row 33 (by omega)
  have x34 := idx_rowN row 34 (by omega)
  obtain ⟨sc, s0, s1, s2⟩ := scale_ok row[33]
  let nums := (row.drop 20).take 12
  have dnum : ∀ x ∈ nums, 0 ≤ x ∧ x < 840 := fun x hx => d1 x (List.mem_of_mem_drop (List.mem_of_mem_take hx))
  have lnum : nums.length ≤ 12 := by
    show ((row.drop 20).take 12).length ≤ 12
    rw [List.length_take]
    omega
  have jn : ∀ x : Int, 0 ≤ x → (x % (names.length : Int)).toNat < names.length := fun x hx => by
    have a1 := Int.emod_nonneg x (show (names.length : Int) ≠ 0 by omega)
    have a2 := Int.emod_lt_of_pos x (show 0 < (names.length : Int) by omega)
    omega
  let g : Int := b2i (decide (1 < sc))
  have hg : g = 0 ∨ g = 1 := by
    show b2i (decide (1 < sc)) = 0 ∨ b2i (decide (1 < sc)) = 1
    cases decide (1 < sc)
    · exact .inl rfl
    · exact .inr rfl
  let nm : Int → Str := fun x => names.getD (x % (names.length : Int)).toNat ""
  let mk1 : Int → Mg := fun x => (nm x, (x / 4 % 9 - 4) * sc + row[34] % 9 * g)
  let mk2 : Mg → Mg := fun m => (m.1, clip m.2)
  let m1 : List Mg := nums.map mk1
  let ms : List Mg := m1.map mk2
  have onm : ∀ x ∈ nums, okS (nm x) := fun x hx => by
    show okS (names.getD (x % (names.length : Int)).toNat "")
    rw [List.getD_eq_getElem?_getD, List.getElem?_eq_getElem (jn x (dnum x hx).1)]
    exact okS_word (n5 _ (List.getElem_mem _))
  have oms : ∀ m ∈ ms, okMg m := fun m hm => by
    obtain ⟨m', hm', rfl⟩ := List.mem_map.mp hm
    obtain ⟨x, hx, rfl⟩ := List.mem_map.mp hm'
    exact ⟨onm x hx, clip_small _⟩
  let A0 : Option T := some (.d (.rol (ns.map D.int)))
  let A1 : Option T := some (.d (.lst (names.map D.str)))
  let A2 : Option T := some (.d (.lst (row.map D.int)))
  let A3 : Option T := some (.d (.lst (its.map tS)))
  let A4 : Option T := some (.d (.obj "Promise" (prF names fl)))
  let A5 : Option T := some (.d (.int sc))
  let A6 : Option T := some (.d (.lst (ms.map eMg)))
  obtain ⟨e', h1, y7, y9, y16, rfl⟩ := loop_inv0 (t := (Tg.nm 7).put) (g := b_law_1) (fun _ e => ∃ y7 y9 y16, e = e19 A0 A1 A2 A3 A4 A5 A6 y7 none y9 none none none none none none y16 none none) ((ms.take 6).map eMg) (e19 A0 A1 A2 A3 A4 A5 A6 none none none none none none none none none none none none) ⟨none, none, none, rfl⟩ (by
    rintro i x e hx ⟨y7, y9, y16, rfl⟩
    obtain ⟨m, hm, rfl⟩ := List.mem_map.mp (List.mem_of_getElem? hx)
    obtain ⟨z9, z16, q⟩ := body1_ok n4 n5 hi hl hf (oms m (List.mem_of_mem_take hm)) oms A0 A1 A2 A5 none y9 none none none none none none y16 none none
    exact ⟨_, _, rfl, q, _, _, _, rfl⟩)
  have hcut : cutD (ns.map D.int) (some 4) (some 8) = ((ns.drop 4).take 4).map D.int := cut_lr ns 4 8
  generalize hcells : ([x2, x3] ++ (ns.drop 4).take 4) = cells
  obtain ⟨e', h2, y8, y10, y11, y12, y13, y14, z16, rfl⟩ := loop_inv0 (t := (Tg.nm 8).put) (g := b_law_3) (fun _ e => ∃ y8 y10 y11 y12 y13 y14 z16, e = e19 A0 A1 A2 A3 A4 A5 A6 y7 y8 y9 y10 y11 y12 y13 y14 none z16 none none) (cells.map D.int) (e19 A0 A1 A2 A3 A4 A5 A6 y7 none y9 none none none none none none y16 none none) ⟨none, none, none, none, none, none, y16, rfl⟩ (by
    rintro i x e hx ⟨y8, y10, y11, y12, y13, y14, z16, rfl⟩
    obtain ⟨c, hc, rfl⟩ := List.mem_map.mp (List.mem_of_getElem? hx)
    obtain ⟨w10, w11, w12, w13, w14, w16, q⟩ := body3_ok n4 n5 n2 (by omega) s1 s2 c A0 A2 A3 A4 A6 y7 y9 y10 y11 y12 y13 y14 z16 none
    exact ⟨_, _, rfl, q, _, _, _, _, _, _, _, rfl⟩)
  refine runF_ret (g := f_law) (N := 19) ?_
  rw [show args0 [D.rol (ns.map D.int)] 19 = e19 A0 none none none none none none none none none none none none none none none none none none from rfl]
  unfold f_law
  refine seq_asgF (a := .lst (names.map D.str)) (callF_ok (ds := [.lst (row0.map D.int)]) (consA_ok (callF_ok (ds := [.int x0, .int (4 : Nat)]) (consA_ok (callF_ok (ds := [.rol (ns.map D.int), .int (0 : Nat)]) (consA_ok rfl (consA_ok rfl rfl)) c0) (consA_ok rfl rfl)) r0) rfl) n1) ?_
  refine seq_asgF (a := .lst (row.map D.int)) (callF_ok (ds := [.int x1, .int (40 : Nat)]) (consA_ok (callF_ok (ds := [.rol (ns.map D.int), .int (1 : Nat)]) (consA_ok rfl (consA_ok rfl rfl)) c1) (consA_ok rfl rfl)) r1) ?_
  refine seq_asgF (a := .lst (its.map tS)) (callF_ok (ds := [.lst (names.map D.str), .lst ((row.take 20).map D.int)]) (consA_ok rfl (consA_ok ?_ rfl)) i1) ?_
  · refine sliceF_of (x := .lst (row.map D.int)) (l := none) (h := some ((20 : Nat) : Int)) rfl rfl rfl ?_
    rw [sl_l, cut_to']
  refine seq_asgF (a := .obj "Promise" (prF names fl)) (makeX_of (ds := [.lst (names.map D.str), .lst (its.map tS)]) (consA_ok rfl (consA_ok rfl rfl)) hp) ?_
  refine seq_asgF (a := .int sc) (op2_of (a := .lst [.int 1, .int 1, .int 250000, .int 1001]) (b := .int (row[33] % 4)) (lstF_ok (consA_ok rfl (consA_ok rfl (consA_ok rfl (consA_ok rfl rfl)))) (by unfold SL; simp)) (op2_of (a := .int row[33]) (b := .int 4) (op2_of (a := .lst (row.map D.int)) (b := .int ((33 : Nat) : Int)) rfl rfl x33) rfl (mod_ii _ _ (by omega))) s0) ?_
  refine seq_asgF (a := .lst (m1.map eMg)) ?_ ?_
  · refine compF_ok (d := .lst (nums.map D.int)) ?_ rfl rfl (by rw [List.length_map]; unfold SL; omega) ?_
    · refine sliceF_of (x := .lst (row.map D.int)) (l := some ((20 : Nat) : Int)) (h := some ((32 : Nat) : Int)) rfl rfl rfl ?_
      rw [sl_l, cut_lr]
    · show _ = Rs.ok ((nums.map mk1).map eMg)
      rw [List.map_map]
      refine comp_yes D.int _ nums fun x hx => ⟨e19 A0 A1 A2 A3 A4 A5 none none none none none none none none none (some (.d (.int x))) none none none, rfl, ?_⟩
      have dx := dnum x hx
      refine tupF_ok (ds := [.str (nm x), .int ((x / 4 % 9 - 4) * sc + row[34] % 9 * g)]) (consA_ok ?_ (consA_ok ?_ rfl)) (by unfold SL; simp)
      · refine op2_of (a := .lst (names.map D.str)) (b := .int ((x % (names.length : Int)).toNat : Nat)) rfl (op2_of (a := .int x) (b := .int (names.length : Nat)) rfl (op1_of (a := .lst (names.map D.str)) rfl (by simp [lenD])) ?_) ?_
        · rw [mod_ii _ _ (by omega), Int.toNat_of_nonneg (Int.emod_nonneg _ (by omega))]
        · rw [idx_lN D.str names _ (jn x dx.1)]
          show _ = Rs.ok (D.str (names.getD (x % (names.length : Int)).toNat ""))
          rw [List.getD_eq_getElem?_getD, List.getElem?_eq_getElem (jn x dx.1)]
          rfl
      · refine op2_of (a := .int ((x / 4 % 9 - 4) * sc)) (b := .int (row[34] % 9 * g)) (op2_of (a := .int (x / 4 % 9 - 4)) (b := .int sc) (op2_of (a := .int (x / 4 % 9)) (b := .int 4) (op2_of (a := .int (x / 4)) (b := .int 9) (op2_of (a := .int x) (b := .int 4) rfl rfl (div_ii _ _ (by omega) (by omega))) rfl (mod_ii _ _ (by omega))) rfl (sub_ii _ _)) rfl (mul_r _ _ (by omega) (by omega))) ?_ (add_ii _ _)
        refine op2_of (a := .int (row[34] % 9)) (b := .int g) (op2_of (a := .int row[34]) (b := .int 9) (op2_of (a := .lst (row.map D.int)) (b := .int ((34 : Nat) : Int)) rfl rfl x34) rfl (mod_ii _ _ (by omega))) (op1_of (a := .bl (decide (1 < sc))) (op2_of (a := .int sc) (b := .int 1) rfl rfl (gt_ii _ _)) rfl) (mul_r _ _ (by omega) (by omega))
  refine seq_asgF (a := .lst (ms.map eMg)) ?_ ?_
  · refine compF_ok (d := .lst (m1.map eMg)) rfl rfl rfl (by rw [List.length_map, List.length_map]; unfold SL; omega) ?_
    refine Eq.trans ?_ (show Rs.ok (m1.map (eMg ∘ mk2)) = Rs.ok ((m1.map mk2).map eMg) by rw [List.map_map (l := m1) (f := mk2) (g := eMg)])
    refine comp_yes eMg (eMg ∘ mk2) m1 fun m hm => ?_
    refine ⟨e19 A0 A1 A2 A3 A4 A5 (some (.d (.lst (m1.map eMg)))) none none none none none none none none (some (.d (.int m.2))) none (some (.d (.str m.1))) none, rfl, ?_⟩
    exact tupF_ok (ds := [.str m.1, .int (clip m.2)]) (consA_ok rfl (consA_ok (op2_of (a := .int (-1000000)) (b := .int (if (1000000 : Int) < m.2 then 1000000 else m.2)) rfl (op2_of (a := .int m.2) (b := .int 1000000) rfl rfl rfl) rfl) rfl)) (by unfold SL; simp)
  refine (seqS_ok ((forF_ok (d := .lst ((ms.take 6).map eMg)) (slTo (k := 6) rfl rfl) rfl).trans h1)).trans ?_
  refine (seqS_ok ((forF_ok (d := .lst (cells.map D.int)) ?_ rfl).trans h2)).trans rfl
  refine op2_of (a := .lst [.int x2, .int x3]) (b := .lst (((ns.drop 4).take 4).map D.int)) (lstF_ok (consA_ok (callF_ok (ds := [.rol (ns.map D.int), .int (2 : Nat)]) (consA_ok rfl (consA_ok rfl rfl)) c2) (consA_ok (callF_ok (ds := [.rol (ns.map D.int), .int (3 : Nat)]) (consA_ok rfl (consA_ok rfl rfl)) c3) rfl)) (by unfold SL; simp)) ?_ ?_
  · refine Eq.trans (show _ = Rs.ok (D.lst (cutD (ns.map D.int) (some 4) (some 8))) from rfl) ?_
    rw [hcut]
  · unfold addL
    dsimp only
    rw [if_pos (by unfold SL; simp; omega), ← hcells, List.map_append]
    rfl
end Orn

set_option linter.all false
set_option maxRecDepth 100000
set_option maxHeartbeats 4000000
namespace Orn
open L2 PySem PySem.Spec PyProof.Rows
theorem all_mk {l : PySem.W.OpenLaw} {w : World} {K : PySem.W.Frag} {h : Heap} {mg : Str → Option Value} {fa C_Promise f_Promise_init f_all_items f_relation_of f_order_items f_keeps f_common_length f_is_again f_is_exchange f_shows_harm f_are_rows f_law_cell f_law_row f_law_word f_law_words f_law_names f_law_items f_law_relation f_law_item_keeps f_law_keeps f_law_shows f_law_some_items f_law_changed f_law C_InvalidPromise : Addr} (X : K.In h) (G : h.Ns mainGlobals mg) (hfa : mg "law" = some (.ref fa))
    (aC_Promise : PySem.W.nsIn K mainGlobals "Promise" = some (some (.ref C_Promise)))
    {od_Promise_init an_Promise_init : Option Addr} {sl_Promise_init : Array (Option Value)} {oc_Promise_init kV_Promise_init dc_Promise_init pm_Promise_init cd_Promise_init ct_Promise_init : Value}
    (a_Promise_init : PySem.W.findIn K (.ref C_Promise) "__init__" = some (some (.ref f_Promise_init))) (i_Promise_init : PySem.W.isFn K (.ref f_Promise_init) = true)
    (l_Promise_init : K.lookup f_Promise_init = some ⟨oc_Promise_init, od_Promise_init, .func (PySem.W.fnOf "__init__" "Promise.__init__" (defArgs s_Promise_init) (defBody s_Promise_init) (defScope s_Promise_init) .none kV_Promise_init dc_Promise_init pm_Promise_init an_Promise_init cd_Promise_init ct_Promise_init), sl_Promise_init⟩)
    (c_Promise_init : PySem.W.codeIn K cd_Promise_init "Promise.__init__" = true) (k_Promise_init : PySem.W.keepIn K (.ref f_Promise_init) = true)
    (pg_Promise : PySem.W.plainGet K C_Promise Str.empty = true) (hd_Promise : PySem.W.hasDictIn K C_Promise = true) (po_Promise : PySem.W.plainOver K C_Promise = true) (sa_Promise : PySem.W.findIn K (.ref C_Promise) "__setattr__" = some (some (.builtin "object.__setattr__"))) (mkk_Promise : PySem.W.makesIn K C_Promise = true) (kc_Promise : PySem.W.keepIn K (.ref C_Promise) = true)
    (n_Promise_names : PySem.W.findIn K (.ref C_Promise) "names" = some none)
    (n_Promise_entries : PySem.W.findIn K (.ref C_Promise) "entries" = some none)
    {od_all_items an_all_items : Option Addr} {sl_all_items : Array (Option Value)} {oc_all_items kV_all_items dc_all_items pm_all_items cd_all_items ct_all_items : Value}
    (a_all_items : PySem.W.nsIn K mainGlobals "all_items" = some (some (.ref f_all_items)))
    (l_all_items : K.lookup f_all_items = some ⟨oc_all_items, od_all_items, .func (PySem.W.fnOf "all_items" "all_items" (defArgs s_all_items) (defBody s_all_items) (defScope s_all_items) .none kV_all_items dc_all_items pm_all_items an_all_items cd_all_items ct_all_items), sl_all_items⟩)
    (c_all_items : PySem.W.codeIn K cd_all_items "all_items" = true) (k_all_items : PySem.W.keepIn K (.ref f_all_items) = true)
    {od_relation_of an_relation_of : Option Addr} {sl_relation_of : Array (Option Value)} {oc_relation_of kV_relation_of dc_relation_of pm_relation_of cd_relation_of ct_relation_of : Value}
    (a_relation_of : PySem.W.nsIn K mainGlobals "relation_of" = some (some (.ref f_relation_of)))
    (l_relation_of : K.lookup f_relation_of = some ⟨oc_relation_of, od_relation_of, .func (PySem.W.fnOf "relation_of" "relation_of" (defArgs s_relation_of) (defBody s_relation_of) (defScope s_relation_of) .none kV_relation_of dc_relation_of pm_relation_of an_relation_of cd_relation_of ct_relation_of), sl_relation_of⟩)
    (c_relation_of : PySem.W.codeIn K cd_relation_of "relation_of" = true) (k_relation_of : PySem.W.keepIn K (.ref f_relation_of) = true)
    {od_order_items an_order_items : Option Addr} {sl_order_items : Array (Option Value)} {oc_order_items kV_order_items dc_order_items pm_order_items cd_order_items ct_order_items : Value}
    (a_order_items : PySem.W.nsIn K mainGlobals "_order_items" = some (some (.ref f_order_items)))
    (l_order_items : K.lookup f_order_items = some ⟨oc_order_items, od_order_items, .func (PySem.W.fnOf "_order_items" "_order_items" (defArgs s_order_items) (defBody s_order_items) (defScope s_order_items) .none kV_order_items dc_order_items pm_order_items an_order_items cd_order_items ct_order_items), sl_order_items⟩)
    (c_order_items : PySem.W.codeIn K cd_order_items "_order_items" = true) (k_order_items : PySem.W.keepIn K (.ref f_order_items) = true)
    {od_keeps an_keeps : Option Addr} {sl_keeps : Array (Option Value)} {oc_keeps kV_keeps dc_keeps pm_keeps cd_keeps ct_keeps : Value}
    (a_keeps : PySem.W.nsIn K mainGlobals "keeps" = some (some (.ref f_keeps)))
    (l_keeps : K.lookup f_keeps = some ⟨oc_keeps, od_keeps, .func (PySem.W.fnOf "keeps" "keeps" (defArgs s_keeps) (defBody s_keeps) (defScope s_keeps) .none kV_keeps dc_keeps pm_keeps an_keeps cd_keeps ct_keeps), sl_keeps⟩)
    (c_keeps : PySem.W.codeIn K cd_keeps "keeps" = true) (k_keeps : PySem.W.keepIn K (.ref f_keeps) = true)
    {od_common_length an_common_length : Option Addr} {sl_common_length : Array (Option Value)} {oc_common_length kV_common_length dc_common_length pm_common_length cd_common_length ct_common_length : Value}
    (a_common_length : PySem.W.nsIn K mainGlobals "_common_length" = some (some (.ref f_common_length)))
    (l_common_length : K.lookup f_common_length = some ⟨oc_common_length, od_common_length, .func (PySem.W.fnOf "_common_length" "_common_length" (defArgs s_common_length) (defBody s_common_length) (defScope s_common_length) .none kV_common_length dc_common_length pm_common_length an_common_length cd_common_length ct_common_length), sl_common_length⟩)
    (c_common_length : PySem.W.codeIn K cd_common_length "_common_length" = true) (k_common_length : PySem.W.keepIn K (.ref f_common_length) = true)
    {od_is_again an_is_again : Option Addr} {sl_is_again : Array (Option Value)} {oc_is_again kV_is_again dc_is_again pm_is_again cd_is_again ct_is_again : Value}
    (a_is_again : PySem.W.nsIn K mainGlobals "_is_again" = some (some (.ref f_is_again)))
    (l_is_again : K.lookup f_is_again = some ⟨oc_is_again, od_is_again, .func (PySem.W.fnOf "_is_again" "_is_again" (defArgs s_is_again) (defBody s_is_again) (defScope s_is_again) .none kV_is_again dc_is_again pm_is_again an_is_again cd_is_again ct_is_again), sl_is_again⟩)
    (c_is_again : PySem.W.codeIn K cd_is_again "_is_again" = true) (k_is_again : PySem.W.keepIn K (.ref f_is_again) = true)
    {od_is_exchange an_is_exchange : Option Addr} {sl_is_exchange : Array (Option Value)} {oc_is_exchange kV_is_exchange dc_is_exchange pm_is_exchange cd_is_exchange ct_is_exchange : Value}
    (a_is_exchange : PySem.W.nsIn K mainGlobals "_is_exchange" = some (some (.ref f_is_exchange)))
    (l_is_exchange : K.lookup f_is_exchange = some ⟨oc_is_exchange, od_is_exchange, .func (PySem.W.fnOf "_is_exchange" "_is_exchange" (defArgs s_is_exchange) (defBody s_is_exchange) (defScope s_is_exchange) .none kV_is_exchange dc_is_exchange pm_is_exchange an_is_exchange cd_is_exchange ct_is_exchange), sl_is_exchange⟩)
    (c_is_exchange : PySem.W.codeIn K cd_is_exchange "_is_exchange" = true) (k_is_exchange : PySem.W.keepIn K (.ref f_is_exchange) = true)
    {od_shows_harm an_shows_harm : Option Addr} {sl_shows_harm : Array (Option Value)} {oc_shows_harm kV_shows_harm dc_shows_harm pm_shows_harm cd_shows_harm ct_shows_harm : Value}
    (a_shows_harm : PySem.W.nsIn K mainGlobals "shows_harm" = some (some (.ref f_shows_harm)))
    (l_shows_harm : K.lookup f_shows_harm = some ⟨oc_shows_harm, od_shows_harm, .func (PySem.W.fnOf "shows_harm" "shows_harm" (defArgs s_shows_harm) (defBody s_shows_harm) (defScope s_shows_harm) .none kV_shows_harm dc_shows_harm pm_shows_harm an_shows_harm cd_shows_harm ct_shows_harm), sl_shows_harm⟩)
    (c_shows_harm : PySem.W.codeIn K cd_shows_harm "shows_harm" = true) (k_shows_harm : PySem.W.keepIn K (.ref f_shows_harm) = true)
    {od_are_rows an_are_rows : Option Addr} {sl_are_rows : Array (Option Value)} {oc_are_rows kV_are_rows dc_are_rows pm_are_rows cd_are_rows ct_are_rows : Value}
    (a_are_rows : PySem.W.nsIn K mainGlobals "_are_rows" = some (some (.ref f_are_rows)))
    (l_are_rows : K.lookup f_are_rows = some ⟨oc_are_rows, od_are_rows, .func (PySem.W.fnOf "_are_rows" "_are_rows" (defArgs s_are_rows) (defBody s_are_rows) (defScope s_are_rows) .none kV_are_rows dc_are_rows pm_are_rows an_are_rows cd_are_rows ct_are_rows), sl_are_rows⟩)
    (c_are_rows : PySem.W.codeIn K cd_are_rows "_are_rows" = true) (k_are_rows : PySem.W.keepIn K (.ref f_are_rows) = true)
    {od_law_cell an_law_cell : Option Addr} {sl_law_cell : Array (Option Value)} {oc_law_cell kV_law_cell dc_law_cell pm_law_cell cd_law_cell ct_law_cell : Value}
    (a_law_cell : PySem.W.nsIn K mainGlobals "_law_cell" = some (some (.ref f_law_cell)))
    (l_law_cell : K.lookup f_law_cell = some ⟨oc_law_cell, od_law_cell, .func (PySem.W.fnOf "_law_cell" "_law_cell" (defArgs s_law_cell) (defBody s_law_cell) (defScope s_law_cell) .none kV_law_cell dc_law_cell pm_law_cell an_law_cell cd_law_cell ct_law_cell), sl_law_cell⟩)
    (c_law_cell : PySem.W.codeIn K cd_law_cell "_law_cell" = true) (k_law_cell : PySem.W.keepIn K (.ref f_law_cell) = true)
    {od_law_row an_law_row : Option Addr} {sl_law_row : Array (Option Value)} {oc_law_row kV_law_row dc_law_row pm_law_row cd_law_row ct_law_row : Value}
    (a_law_row : PySem.W.nsIn K mainGlobals "_law_row" = some (some (.ref f_law_row)))
    (l_law_row : K.lookup f_law_row = some ⟨oc_law_row, od_law_row, .func (PySem.W.fnOf "_law_row" "_law_row" (defArgs s_law_row) (defBody s_law_row) (defScope s_law_row) .none kV_law_row dc_law_row pm_law_row an_law_row cd_law_row ct_law_row), sl_law_row⟩)
    (c_law_row : PySem.W.codeIn K cd_law_row "_law_row" = true) (k_law_row : PySem.W.keepIn K (.ref f_law_row) = true)
    {od_law_word an_law_word : Option Addr} {sl_law_word : Array (Option Value)} {oc_law_word kV_law_word dc_law_word pm_law_word cd_law_word ct_law_word : Value}
    (a_law_word : PySem.W.nsIn K mainGlobals "_law_word" = some (some (.ref f_law_word)))
    (l_law_word : K.lookup f_law_word = some ⟨oc_law_word, od_law_word, .func (PySem.W.fnOf "_law_word" "_law_word" (defArgs s_law_word) (defBody s_law_word) (defScope s_law_word) .none kV_law_word dc_law_word pm_law_word an_law_word cd_law_word ct_law_word), sl_law_word⟩)
    (c_law_word : PySem.W.codeIn K cd_law_word "_law_word" = true) (k_law_word : PySem.W.keepIn K (.ref f_law_word) = true)
    {od_law_words an_law_words : Option Addr} {sl_law_words : Array (Option Value)} {oc_law_words kV_law_words dc_law_words pm_law_words cd_law_words ct_law_words : Value}
    (a_law_words : PySem.W.nsIn K mainGlobals "_law_words" = some (some (.ref f_law_words)))
    (l_law_words : K.lookup f_law_words = some ⟨oc_law_words, od_law_words, .func (PySem.W.fnOf "_law_words" "_law_words" (defArgs s_law_words) (defBody s_law_words) (defScope s_law_words) .none kV_law_words dc_law_words pm_law_words an_law_words cd_law_words ct_law_words), sl_law_words⟩)
    (c_law_words : PySem.W.codeIn K cd_law_words "_law_words" = true) (k_law_words : PySem.W.keepIn K (.ref f_law_words) = true)
    {od_law_names an_law_names : Option Addr} {sl_law_names : Array (Option Value)} {oc_law_names kV_law_names dc_law_names pm_law_names cd_law_names ct_law_names : Value}
    (a_law_names : PySem.W.nsIn K mainGlobals "_law_names" = some (some (.ref f_law_names)))
    (l_law_names : K.lookup f_law_names = some ⟨oc_law_names, od_law_names, .func (PySem.W.fnOf "_law_names" "_law_names" (defArgs s_law_names) (defBody s_law_names) (defScope s_law_names) .none kV_law_names dc_law_names pm_law_names an_law_names cd_law_names ct_law_names), sl_law_names⟩)
    (c_law_names : PySem.W.codeIn K cd_law_names "_law_names" = true) (k_law_names : PySem.W.keepIn K (.ref f_law_names) = true)
    {od_law_items an_law_items : Option Addr} {sl_law_items : Array (Option Value)} {oc_law_items kV_law_items dc_law_items pm_law_items cd_law_items ct_law_items : Value}
    (a_law_items : PySem.W.nsIn K mainGlobals "_law_items" = some (some (.ref f_law_items)))
    (l_law_items : K.lookup f_law_items = some ⟨oc_law_items, od_law_items, .func (PySem.W.fnOf "_law_items" "_law_items" (defArgs s_law_items) (defBody s_law_items) (defScope s_law_items) .none kV_law_items dc_law_items pm_law_items an_law_items cd_law_items ct_law_items), sl_law_items⟩)
    (c_law_items : PySem.W.codeIn K cd_law_items "_law_items" = true) (k_law_items : PySem.W.keepIn K (.ref f_law_items) = true)
    {od_law_relation an_law_relation : Option Addr} {sl_law_relation : Array (Option Value)} {oc_law_relation kV_law_relation dc_law_relation pm_law_relation cd_law_relation ct_law_relation : Value}
    (a_law_relation : PySem.W.nsIn K mainGlobals "_law_relation" = some (some (.ref f_law_relation)))
    (l_law_relation : K.lookup f_law_relation = some ⟨oc_law_relation, od_law_relation, .func (PySem.W.fnOf "_law_relation" "_law_relation" (defArgs s_law_relation) (defBody s_law_relation) (defScope s_law_relation) .none kV_law_relation dc_law_relation pm_law_relation an_law_relation cd_law_relation ct_law_relation), sl_law_relation⟩)
    (c_law_relation : PySem.W.codeIn K cd_law_relation "_law_relation" = true) (k_law_relation : PySem.W.keepIn K (.ref f_law_relation) = true)
    {od_law_item_keeps an_law_item_keeps : Option Addr} {sl_law_item_keeps : Array (Option Value)} {oc_law_item_keeps kV_law_item_keeps dc_law_item_keeps pm_law_item_keeps cd_law_item_keeps ct_law_item_keeps : Value}
    (a_law_item_keeps : PySem.W.nsIn K mainGlobals "_law_item_keeps" = some (some (.ref f_law_item_keeps)))
    (l_law_item_keeps : K.lookup f_law_item_keeps = some ⟨oc_law_item_keeps, od_law_item_keeps, .func (PySem.W.fnOf "_law_item_keeps" "_law_item_keeps" (defArgs s_law_item_keeps) (defBody s_law_item_keeps) (defScope s_law_item_keeps) .none kV_law_item_keeps dc_law_item_keeps pm_law_item_keeps an_law_item_keeps cd_law_item_keeps ct_law_item_keeps), sl_law_item_keeps⟩)
    (c_law_item_keeps : PySem.W.codeIn K cd_law_item_keeps "_law_item_keeps" = true) (k_law_item_keeps : PySem.W.keepIn K (.ref f_law_item_keeps) = true)
    {od_law_keeps an_law_keeps : Option Addr} {sl_law_keeps : Array (Option Value)} {oc_law_keeps kV_law_keeps dc_law_keeps pm_law_keeps cd_law_keeps ct_law_keeps : Value}
    (a_law_keeps : PySem.W.nsIn K mainGlobals "_law_keeps" = some (some (.ref f_law_keeps)))
    (l_law_keeps : K.lookup f_law_keeps = some ⟨oc_law_keeps, od_law_keeps, .func (PySem.W.fnOf "_law_keeps" "_law_keeps" (defArgs s_law_keeps) (defBody s_law_keeps) (defScope s_law_keeps) .none kV_law_keeps dc_law_keeps pm_law_keeps an_law_keeps cd_law_keeps ct_law_keeps), sl_law_keeps⟩)
    (c_law_keeps : PySem.W.codeIn K cd_law_keeps "_law_keeps" = true) (k_law_keeps : PySem.W.keepIn K (.ref f_law_keeps) = true)
    {od_law_shows an_law_shows : Option Addr} {sl_law_shows : Array (Option Value)} {oc_law_shows kV_law_shows dc_law_shows pm_law_shows cd_law_shows ct_law_shows : Value}
    (a_law_shows : PySem.W.nsIn K mainGlobals "_law_shows" = some (some (.ref f_law_shows)))
    (l_law_shows : K.lookup f_law_shows = some ⟨oc_law_shows, od_law_shows, .func (PySem.W.fnOf "_law_shows" "_law_shows" (defArgs s_law_shows) (defBody s_law_shows) (defScope s_law_shows) .none kV_law_shows dc_law_shows pm_law_shows an_law_shows cd_law_shows ct_law_shows), sl_law_shows⟩)
    (c_law_shows : PySem.W.codeIn K cd_law_shows "_law_shows" = true) (k_law_shows : PySem.W.keepIn K (.ref f_law_shows) = true)
    {od_law_some_items an_law_some_items : Option Addr} {sl_law_some_items : Array (Option Value)} {oc_law_some_items kV_law_some_items dc_law_some_items pm_law_some_items cd_law_some_items ct_law_some_items : Value}
    (a_law_some_items : PySem.W.nsIn K mainGlobals "_law_some_items" = some (some (.ref f_law_some_items)))
    (l_law_some_items : K.lookup f_law_some_items = some ⟨oc_law_some_items, od_law_some_items, .func (PySem.W.fnOf "_law_some_items" "_law_some_items" (defArgs s_law_some_items) (defBody s_law_some_items) (defScope s_law_some_items) .none kV_law_some_items dc_law_some_items pm_law_some_items an_law_some_items cd_law_some_items ct_law_some_items), sl_law_some_items⟩)
    (c_law_some_items : PySem.W.codeIn K cd_law_some_items "_law_some_items" = true) (k_law_some_items : PySem.W.keepIn K (.ref f_law_some_items) = true)
    {od_law_changed an_law_changed : Option Addr} {sl_law_changed : Array (Option Value)} {oc_law_changed kV_law_changed dc_law_changed pm_law_changed cd_law_changed ct_law_changed : Value}
    (a_law_changed : PySem.W.nsIn K mainGlobals "_law_changed" = some (some (.ref f_law_changed)))
    (l_law_changed : K.lookup f_law_changed = some ⟨oc_law_changed, od_law_changed, .func (PySem.W.fnOf "_law_changed" "_law_changed" (defArgs s_law_changed) (defBody s_law_changed) (defScope s_law_changed) .none kV_law_changed dc_law_changed pm_law_changed an_law_changed cd_law_changed ct_law_changed), sl_law_changed⟩)
    (c_law_changed : PySem.W.codeIn K cd_law_changed "_law_changed" = true) (k_law_changed : PySem.W.keepIn K (.ref f_law_changed) = true)
    {od_law an_law : Option Addr} {sl_law : Array (Option Value)} {oc_law kV_law dc_law pm_law cd_law ct_law : Value}
    (a_law : PySem.W.nsIn K mainGlobals "law" = some (some (.ref f_law)))
    (l_law : K.lookup f_law = some ⟨oc_law, od_law, .func (PySem.W.fnOf "law" "law" (defArgs s_law) (defBody s_law) (defScope s_law) .none kV_law dc_law pm_law an_law cd_law ct_law), sl_law⟩)
    (c_law : PySem.W.codeIn K cd_law "law" = true) (k_law : PySem.W.keepIn K (.ref f_law) = true)
    (aC_InvalidPromise : PySem.W.nsIn K mainGlobals "InvalidPromise" = some (some (.ref C_InvalidPromise))) (xc_InvalidPromise : PySem.W.excIn K C_InvalidPromise [.type "ValueError", .type "Exception", .type "BaseException", .type "object"] "ValueError.__new__" = true) (kc_InvalidPromise : PySem.W.keepIn K (.ref C_InvalidPromise) = true) (bc_InvalidPromise : PySem.W.subIn K (.ref C_InvalidPromise) (.type "BaseException") = some true) (tc_InvalidPromise : PySem.W.typeIn K (.ref C_InvalidPromise) = some (.type "type"))
    {gA_RELATIONS : Addr} {tG_RELATIONS0 tG_RELATIONS1 tG_RELATIONS2 : Tok} {nG_RELATIONS : Nat} {sG_RELATIONS : Array (Option Value)} (aG_RELATIONS : PySem.W.nsIn K mainGlobals "RELATIONS" = some (some (.ref gA_RELATIONS))) (lG_RELATIONS : K.lookup gA_RELATIONS = some ⟨.type "tuple", none, .seq #[.str "less" tG_RELATIONS0, .str "equal" tG_RELATIONS1, .str "greater" tG_RELATIONS2] nG_RELATIONS, sG_RELATIONS⟩)
    (z_all : PySem.W.nsIn K mainGlobals "all" = some none)
    (z_any : PySem.W.nsIn K mainGlobals "any" = some none)
    (z_bool : PySem.W.nsIn K mainGlobals "bool" = some none)
    (z_enumerate : PySem.W.nsIn K mainGlobals "enumerate" = some none)
    (z_int : PySem.W.nsIn K mainGlobals "int" = some none)
    (z_isinstance : PySem.W.nsIn K mainGlobals "isinstance" = some none)
    (z_len : PySem.W.nsIn K mainGlobals "len" = some none)
    (z_list : PySem.W.nsIn K mainGlobals "list" = some none)
    (z_max : PySem.W.nsIn K mainGlobals "max" = some none)
    (z_min : PySem.W.nsIn K mainGlobals "min" = some none)
    (z_range : PySem.W.nsIn K mainGlobals "range" = some none)
    (z_tuple : PySem.W.nsIn K mainGlobals "tuple" = some none)
    (z_zip : PySem.W.nsIn K mainGlobals "zip" = some none) :
    ∃ fd : FuncData, (∀ (s : Shared) (v : Value), BindsTo s fd ⟨[v], []⟩ [("script", v)]) ∧ ∀ base : Heap, K.In base → base.Ns mainGlobals mg → FnG l.prog w K mg base 5 fa fd ["script"] (spD K mg 1 false m_law) := by
  have e := hfa.symm.trans (PySem.W.mg_of X G a_law)
  cases e
  have F_Promise_init := fun_mk (st := s_Promise_init) l_Promise_init c_Promise_init k_Promise_init
  have g_Promise := PySem.W.mg_of X G aC_Promise
  have cl_Promise : Cls K C_Promise := ⟨pg_Promise, hd_Promise, po_Promise, sa_Promise⟩
  have nA_Promise : ∀ f ∈ (["names", "entries"] : List Str), NoAttr K C_Promise f := by
    intro f hf
    simp only [List.mem_cons, List.not_mem_nil, or_false] at hf
    rcases hf with rfl | rfl
    · exact n_Promise_names
    · exact n_Promise_entries
  have A_Promise : ∀ f ∈ (["names", "entries"] : List Str), ∀ C, mg "Promise" = some (.ref C) → Cls K C ∧ NoAttr K C f := by
    intro f hf C hC
    rw [g_Promise] at hC
    injection hC with hC
    injection hC with hC
    subst hC
    exact ⟨cl_Promise, nA_Promise f hf⟩
  have F_all_items := fun_mk (st := s_all_items) l_all_items c_all_items k_all_items
  have F_relation_of := fun_mk (st := s_relation_of) l_relation_of c_relation_of k_relation_of
  have F_order_items := fun_mk (st := s_order_items) l_order_items c_order_items k_order_items
  have F_keeps := fun_mk (st := s_keeps) l_keeps c_keeps k_keeps
  have F_common_length := fun_mk (st := s_common_length) l_common_length c_common_length k_common_length
  have F_is_again := fun_mk (st := s_is_again) l_is_again c_is_again k_is_again
  have F_is_exchange := fun_mk (st := s_is_exchange) l_is_exchange c_is_exchange k_is_exchange
  have F_shows_harm := fun_mk (st := s_shows_harm) l_shows_harm c_shows_harm k_shows_harm
  have F_are_rows := fun_mk (st := s_are_rows) l_are_rows c_are_rows k_are_rows
  have F_law_cell := fun_mk (st := s_law_cell) l_law_cell c_law_cell k_law_cell
  have F_law_row := fun_mk (st := s_law_row) l_law_row c_law_row k_law_row
  have F_law_word := fun_mk (st := s_law_word) l_law_word c_law_word k_law_word
  have F_law_words := fun_mk (st := s_law_words) l_law_words c_law_words k_law_words
  have F_law_names := fun_mk (st := s_law_names) l_law_names c_law_names k_law_names
  have F_law_items := fun_mk (st := s_law_items) l_law_items c_law_items k_law_items
  have F_law_relation := fun_mk (st := s_law_relation) l_law_relation c_law_relation k_law_relation
  have F_law_item_keeps := fun_mk (st := s_law_item_keeps) l_law_item_keeps c_law_item_keeps k_law_item_keeps
  have F_law_keeps := fun_mk (st := s_law_keeps) l_law_keeps c_law_keeps k_law_keeps
  have F_law_shows := fun_mk (st := s_law_shows) l_law_shows c_law_shows k_law_shows
  have F_law_some_items := fun_mk (st := s_law_some_items) l_law_some_items c_law_some_items k_law_some_items
  have F_law_changed := fun_mk (st := s_law_changed) l_law_changed c_law_changed k_law_changed
  have F_law := fun_mk (st := s_law) l_law c_law k_law
  have Ex_InvalidPromise : Exk K mg "InvalidPromise" := ⟨C_InvalidPromise, PySem.W.mg_of X G aC_InvalidPromise, xc_InvalidPromise, kc_InvalidPromise, bc_InvalidPromise, tc_InvalidPromise⟩
  have G_RELATIONS : GlD K mg "RELATIONS" (.tup [.str "less", .str "equal", .str "greater"]) := gld_strs (ss := ["less", "equal", "greater"]) (PySem.W.mg_of X G aG_RELATIONS) lG_RELATIONS rfl rfl rfl (.cons ⟨_, rfl⟩ (.cons ⟨_, rfl⟩ (.cons ⟨_, rfl⟩ .nil))) (by show 3 ≤ sizeLine; decide)
  have B : Blt mg := ⟨PySem.W.mg_none_of X G z_all, PySem.W.mg_none_of X G z_any, PySem.W.mg_none_of X G z_bool, PySem.W.mg_none_of X G z_enumerate, PySem.W.mg_none_of X G z_int, PySem.W.mg_none_of X G z_isinstance, PySem.W.mg_none_of X G z_len, PySem.W.mg_none_of X G z_list, PySem.W.mg_none_of X G z_max, PySem.W.mg_none_of X G z_min, PySem.W.mg_none_of X G z_range, PySem.W.mg_none_of X G z_tuple, PySem.W.mg_none_of X G z_zip⟩
  refine ⟨PySem.W.fnOf "law" "law" (defArgs s_law) (defBody s_law) (defScope s_law) .none kV_law dc_law pm_law an_law cd_law ct_law, fun s v => .of_eq rfl, fun base _ _ => ?_⟩
  have D_all_items : Dn l.prog w K mg base 1 "all_items" 1 false m_all_items := dn_all_items F_all_items (PySem.W.mg_of X G a_all_items) B G_RELATIONS
  have D_relation_of : Dn l.prog w K mg base 1 "relation_of" 2 false m_relation_of := dn_relation_of F_relation_of (PySem.W.mg_of X G a_relation_of) B
  have D_order_items : Dn l.prog w K mg base 2 "_order_items" 2 false m_order_items := dn_order_items F_order_items (PySem.W.mg_of X G a_order_items) B D_relation_of
  have D_keeps : Dn l.prog w K mg base 3 "keeps" 3 false m_keeps := dn_keeps F_keeps (PySem.W.mg_of X G a_keeps) B D_order_items A_Promise
  have D_common_length : Dn l.prog w K mg base 1 "_common_length" 2 false m_common_length := dn_common_length F_common_length (PySem.W.mg_of X G a_common_length) B
  have D_is_again : Dn l.prog w K mg base 2 "_is_again" 3 false m_is_again := dn_is_again F_is_again (PySem.W.mg_of X G a_is_again) B D_common_length
  have D_is_exchange : Dn l.prog w K mg base 3 "_is_exchange" 3 false m_is_exchange := dn_is_exchange F_is_exchange (PySem.W.mg_of X G a_is_exchange) B D_common_length D_order_items
  have D_shows_harm : Dn l.prog w K mg base 4 "shows_harm" 3 false m_shows_harm := dn_shows_harm F_shows_harm (PySem.W.mg_of X G a_shows_harm) B D_is_again D_is_exchange
  have D_are_rows : Dn l.prog w K mg base 1 "_are_rows" 1 false m_are_rows := dn_are_rows F_are_rows (PySem.W.mg_of X G a_are_rows) B
  have D_law_cell : Dn l.prog w K mg base 1 "_law_cell" 2 false m_law_cell := dn_law_cell F_law_cell (PySem.W.mg_of X G a_law_cell) B
  have D_law_row : Dn l.prog w K mg base 1 "_law_row" 2 false m_law_row := dn_law_row F_law_row (PySem.W.mg_of X G a_law_row) B
  have D_law_word : Dn l.prog w K mg base 1 "_law_word" 1 false m_law_word := dn_law_word F_law_word (PySem.W.mg_of X G a_law_word) B
  have D_law_words : Dn l.prog w K mg base 2 "_law_words" 2 false m_law_words := dn_law_words F_law_words (PySem.W.mg_of X G a_law_words) B D_law_word
  have D_law_names : Dn l.prog w K mg base 3 "_law_names" 1 false m_law_names := dn_law_names F_law_names (PySem.W.mg_of X G a_law_names) B D_law_words
  have D_law_items : Dn l.prog w K mg base 1 "_law_items" 1 false m_law_items := dn_law_items F_law_items (PySem.W.mg_of X G a_law_items) B
  have D_law_relation : Dn l.prog w K mg base 1 "_law_relation" 2 false m_law_relation := dn_law_relation F_law_relation (PySem.W.mg_of X G a_law_relation) B
  have D_law_item_keeps : Dn l.prog w K mg base 2 "_law_item_keeps" 3 false m_law_item_keeps := dn_law_item_keeps F_law_item_keeps (PySem.W.mg_of X G a_law_item_keeps) B D_law_relation
  have D_law_keeps : Dn l.prog w K mg base 3 "_law_keeps" 3 false m_law_keeps := dn_law_keeps F_law_keeps (PySem.W.mg_of X G a_law_keeps) B D_law_item_keeps
  have D_law_shows : Dn l.prog w K mg base 3 "_law_shows" 3 false m_law_shows := dn_law_shows F_law_shows (PySem.W.mg_of X G a_law_shows) B D_law_item_keeps
  have D_law_some_items : Dn l.prog w K mg base 2 "_law_some_items" 2 false m_law_some_items := dn_law_some_items F_law_some_items (PySem.W.mg_of X G a_law_some_items) B D_law_items
  have D_law_changed : Dn l.prog w K mg base 1 "_law_changed" 4 false m_law_changed := dn_law_changed F_law_changed (PySem.W.mg_of X G a_law_changed) B
  have M_Promise : MnX l.prog w K mg base 2 "Promise" 2 mk_Promise := mn_Promise F_Promise_init ⟨mkk_Promise, a_Promise_init, i_Promise_init, kc_Promise⟩ g_Promise cl_Promise nA_Promise B D_are_rows D_all_items Ex_InvalidPromise
  exact fn_law F_law B D_law_cell D_law_changed D_law_items D_law_keeps D_law_names D_law_row D_law_shows D_law_some_items D_keeps D_shows_harm M_Promise

end Orn

open PySem PySem.W PyProof.Rows in
set_option maxRecDepth 100000 in
set_option maxHeartbeats 0 in
theorem PySem.Challenge.cw_orderneed_k08_what_promises_keep_holds : PySem.Challenge.rw_orderneed_k08_what_promises_keep.Holds := by
  w_on; o_law; k_head; (case hw => w_witness2)
  k_fill
  refine Orn.walk_L (l := PySem.Challenge.rw_orderneed_k08_what_promises_keep) (n := 63) (k := 5) (x := "script") (g := Orn.m_law) rfl (by decide) rfl ⟨⟨rfl, by decide, by decide⟩, rfl⟩ (fun w h Y => PySem.W.kIn_of Y) Orn.law_true ?F
  case F =>
    intro w mg fa h KX G hmg
    refine' Orn.all_mk KX G hmg ?aC_Promise ?a_Promise_init ?i_Promise_init ?l_Promise_init ?c_Promise_init ?k_Promise_init ?pg_Promise ?hd_Promise ?po_Promise ?sa_Promise ?mkk_Promise ?kc_Promise ?n_Promise_names ?n_Promise_entries ?a_all_items ?l_all_items ?c_all_items ?k_all_items ?a_relation_of ?l_relation_of ?c_relation_of ?k_relation_of ?a_order_items ?l_order_items ?c_order_items ?k_order_items ?a_keeps ?l_keeps ?c_keeps ?k_keeps ?a_common_length ?l_common_length ?c_common_length ?k_common_length ?a_is_again ?l_is_again ?c_is_again ?k_is_again ?a_is_exchange ?l_is_exchange ?c_is_exchange ?k_is_exchange ?a_shows_harm ?l_shows_harm ?c_shows_harm ?k_shows_harm ?a_are_rows ?l_are_rows ?c_are_rows ?k_are_rows ?a_law_cell ?l_law_cell ?c_law_cell ?k_law_cell ?a_law_row ?l_law_row ?c_law_row ?k_law_row ?a_law_word ?l_law_word ?c_law_word ?k_law_word ?a_law_words ?l_law_words ?c_law_words ?k_law_words ?a_law_names ?l_law_names ?c_law_names ?k_law_names ?a_law_items ?l_law_items ?c_law_items ?k_law_items ?a_law_relation ?l_law_relation ?c_law_relation ?k_law_relation ?a_law_item_keeps ?l_law_item_keeps ?c_law_item_keeps ?k_law_item_keeps ?a_law_keeps ?l_law_keeps ?c_law_keeps ?k_law_keeps ?a_law_shows ?l_law_shows ?c_law_shows ?k_law_shows ?a_law_some_items ?l_law_some_items ?c_law_some_items ?k_law_some_items ?a_law_changed ?l_law_changed ?c_law_changed ?k_law_changed ?a_law ?l_law ?c_law ?k_law ?aC_InvalidPromise ?xc_InvalidPromise ?kc_InvalidPromise ?bc_InvalidPromise ?tc_InvalidPromise ?aG_RELATIONS ?lG_RELATIONS ?z_all ?z_any ?z_bool ?z_enumerate ?z_int ?z_isinstance ?z_len ?z_list ?z_max ?z_min ?z_range ?z_tuple ?z_zip
    (case aC_Promise => k_is)
    (case a_Promise_init => k_is)
    (case i_Promise_init => k_is)
    (case l_Promise_init => k_is)
    (case c_Promise_init => k_is)
    (case k_Promise_init => k_is)
    (case pg_Promise => k_is)
    (case hd_Promise => k_is)
    (case po_Promise => k_is)
    (case sa_Promise => k_is)
    (case mkk_Promise => k_is)
    (case kc_Promise => k_is)
    (case n_Promise_names => k_is)
    (case n_Promise_entries => k_is)
    (case a_all_items => k_is)
    (case l_all_items => k_is)
    (case c_all_items => k_is)
    (case k_all_items => k_is)
    (case a_relation_of => k_is)
    (case l_relation_of => k_is)
    (case c_relation_of => k_is)
    (case k_relation_of => k_is)
    (case a_order_items => k_is)
    (case l_order_items => k_is)
    (case c_order_items => k_is)
    (case k_order_items => k_is)
    (case a_keeps => k_is)
    (case l_keeps => k_is)
    (case c_keeps => k_is)
    (case k_keeps => k_is)
    (case a_common_length => k_is)
    (case l_common_length => k_is)
    (case c_common_length => k_is)
    (case k_common_length => k_is)
    (case a_is_again => k_is)
    (case l_is_again => k_is)
    (case c_is_again => k_is)
    (case k_is_again => k_is)
    (case a_is_exchange => k_is)
    (case l_is_exchange => k_is)
    (case c_is_exchange => k_is)
    (case k_is_exchange => k_is)
    (case a_shows_harm => k_is)
    (case l_shows_harm => k_is)
    (case c_shows_harm => k_is)
    (case k_shows_harm => k_is)
    (case a_are_rows => k_is)
    (case l_are_rows => k_is)
    (case c_are_rows => k_is)
    (case k_are_rows => k_is)
    (case a_law_cell => k_is)
    (case l_law_cell => k_is)
    (case c_law_cell => k_is)
    (case k_law_cell => k_is)
    (case a_law_row => k_is)
    (case l_law_row => k_is)
    (case c_law_row => k_is)
    (case k_law_row => k_is)
    (case a_law_word => k_is)
    (case l_law_word => k_is)
    (case c_law_word => k_is)
    (case k_law_word => k_is)
    (case a_law_words => k_is)
    (case l_law_words => k_is)
    (case c_law_words => k_is)
    (case k_law_words => k_is)
    (case a_law_names => k_is)
    (case l_law_names => k_is)
    (case c_law_names => k_is)
    (case k_law_names => k_is)
    (case a_law_items => k_is)
    (case l_law_items => k_is)
    (case c_law_items => k_is)
    (case k_law_items => k_is)
    (case a_law_relation => k_is)
    (case l_law_relation => k_is)
    (case c_law_relation => k_is)
    (case k_law_relation => k_is)
    (case a_law_item_keeps => k_is)
    (case l_law_item_keeps => k_is)
    (case c_law_item_keeps => k_is)
    (case k_law_item_keeps => k_is)
    (case a_law_keeps => k_is)
    (case l_law_keeps => k_is)
    (case c_law_keeps => k_is)
    (case k_law_keeps => k_is)
    (case a_law_shows => k_is)
    (case l_law_shows => k_is)
    (case c_law_shows => k_is)
    (case k_law_shows => k_is)
    (case a_law_some_items => k_is)
    (case l_law_some_items => k_is)
    (case c_law_some_items => k_is)
    (case k_law_some_items => k_is)
    (case a_law_changed => k_is)
    (case l_law_changed => k_is)
    (case c_law_changed => k_is)
    (case k_law_changed => k_is)
    (case a_law => k_is)
    (case l_law => k_is)
    (case c_law => k_is)
    (case k_law => k_is)
    (case aC_InvalidPromise => k_is)
    (case xc_InvalidPromise => k_exc)
    (case kc_InvalidPromise => k_is)
    (case bc_InvalidPromise => k_is)
    (case tc_InvalidPromise => k_is)
    (case aG_RELATIONS => k_is)
    (case lG_RELATIONS => k_is)
    (case z_all => k_is)
    (case z_any => k_is)
    (case z_bool => k_is)
    (case z_enumerate => k_is)
    (case z_int => k_is)
    (case z_isinstance => k_is)
    (case z_len => k_is)
    (case z_list => k_is)
    (case z_max => k_is)
    (case z_min => k_is)
    (case z_range => k_is)
    (case z_tuple => k_is)
    (case z_zip => k_is)
