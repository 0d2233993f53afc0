import PyProof.Rows.All
import Wide.All
import OpenK.AllK
import Wide.FinOn
import HandS.ForMost
import HandS.Walk
import HandS.Deep
import HandS.IsInst
import HandS.More
import HandS.StrMore
import HandS.ForExc
import PySem.Challenge.RW_rimword_k03_words
set_option Elab.async false
set_option linter.all false
set_option maxRecDepth 100000
set_option maxHeartbeats 8000000
/-! Data over the heap: a layer of my own over the hand layer. A def's body is read as a function of plain data. -/
namespace Dl
open PySem PySem.Spec L2
/-! ### 1. Data, and how it lies in a heap -/
inductive Dat where
  | non | bl (b : Bool) | int (i : Int) | str (x : Str) | tup (xs : List Dat) | lst (xs : List Dat) | dice
  | obj (c : Str) (ks : List Str) (xs : List Dat)
  | dT (ks : List (List Key)) (xs : List Dat)
/-- what may change -/
def isMut : HO → Bool
  | .lst _ => true
  | .dK _ => true
  | .dT _ => true
  | .set _ _ => true
  | .ins _ _ _ => true
  | .ext _ => true
  | _ => false
/-- all that stood stands, but for what may change at N -/
def Keep (N : Addr → Prop) (H H' : Hp) : Prop := ∀ b o, H b = some o → (N b → isMut o = false) → H' b = some o
theorem Keep.refl {N : Addr → Prop} {H : Hp} : Keep N H H := fun _ _ h _ => h
theorem Keep.trans {N : Addr → Prop} {H H1 H2 : Hp} (a : Keep N H H1) (b : Keep N H1 H2) : Keep N H H2 := fun c o h n => b c o (a c o h n) n
theorem Keep.weak {N N' : Addr → Prop} {H H' : Hp} (a : Keep N H H') (h : ∀ b, N b → N' b) : Keep N' H H' := fun c o e n => a c o e fun z => n (h c z)
theorem Keep.of_same {N : Addr → Prop} {H H' : Hp} (s : Same H H') : Keep N H H' := fun c o h _ => s c o h
theorem Keep.fresh {N : Addr → Prop} {H : Hp} {p : Addr} {o : HO} (h : H p = none) : Keep N H (upd H p o) := fun c u e _ => by
  rw [upd_ne (ne_of_none e h)]
  exact e
theorem same_fresh {H : Hp} {p : Addr} {o : HO} (h : H p = none) : Same H (upd H p o) := fun c u e => by
  rw [upd_ne (ne_of_none e h)]
  exact e
theorem same_refl {H : Hp} : Same H H := fun _ _ h => h
mutual
inductive Rp (K : PySem.W.Frag) (mg : Str → Option Value) (d : Option Addr) (N : Addr → Prop) (H : Hp) : V → Dat → Prop
  | non : Rp K mg d N H .non .non
  | bl (b : Bool) : Rp K mg d N H (.bl b) (.bl b)
  | int (i : Int) : Rp K mg d N H (.int i) (.int i)
  | str (x : Str) : Rp K mg d N H (.str x) (.str x)
  | tup {a : Addr} {vs : List V} {xs : List Dat} : SqT K H a vs → RpA K mg d N H vs xs → Rp K mg d N H (.ref a) (.tup xs)
  | lst {a : Addr} {vs : List V} {xs : List Dat} : H a = some (.lst vs) → ¬ N a → RpA K mg d N H vs xs → Rp K mg d N H (.ref a) (.lst xs)
  | dice {a : Addr} : d = some a → Rp K mg d N H (.ref a) .dice
  | obj {a C dx : Addr} {c : Str} {ks : List Str} {vs : List V} {xs : List Dat} : mg c = some (.ref C) → H a = some (.ins C dx (ks.zip vs)) → ks.length = vs.length → ¬ N a → RpA K mg d N H vs xs → Rp K mg d N H (.ref a) (.obj c ks xs)
  | dT {a : Addr} {ks : List (List Key)} {vs : List V} {xs : List Dat} : H a = some (.dT (ks.zip vs)) → ks.length = vs.length → ¬ N a → RpA K mg d N H vs xs → Rp K mg d N H (.ref a) (.dT ks xs)
inductive RpA (K : PySem.W.Frag) (mg : Str → Option Value) (d : Option Addr) (N : Addr → Prop) (H : Hp) : List V → List Dat → Prop
  | nil : RpA K mg d N H [] []
  | cons {v : V} {vs : List V} {x : Dat} {xs : List Dat} : Rp K mg d N H v x → RpA K mg d N H vs xs → RpA K mg d N H (v :: vs) (x :: xs)
end
section
variable {K : PySem.W.Frag} {mg : Str → Option Value} {d : Option Addr} {N N' : Addr → Prop} {H H' : Hp}
theorem sqT_keep {a : Addr} {vs : List V} (k : Keep N H H') (h : SqT K H a vs) : SqT K H' a vs := by
  rcases h with (h | ⟨o, h⟩) | h
  · exact .inl (.inl (k a _ h fun _ => rfl))
  · exact .inl (.inr ⟨o, k a _ h fun _ => rfl⟩)
  · exact .inr h
mutual
theorem Rp.keep (k : Keep N H H') (hN : ∀ b, N' b → N b ∨ H b = none) : ∀ (x : Dat) (v : V), Rp K mg d N H v x → Rp K mg d N' H' v x
  | .non, _, h => by cases h; exact .non
  | .bl b, _, h => by cases h; exact .bl b
  | .int i, _, h => by cases h; exact .int i
  | .str x, _, h => by cases h; exact .str x
  | .dice, _, h => by
    cases h with
    | dice e => exact .dice e
  | .tup xs, _, h => by
    cases h with
    | tup h1 h2 => exact .tup (sqT_keep k h1) (RpA.keep k hN xs _ h2)
  | .lst xs, _, h => by
    cases h with
    | lst h1 h2 h3 =>
      refine .lst (k _ _ h1 fun z => absurd z h2) (fun z => ?_) (RpA.keep k hN xs _ h3)
      rcases hN _ z with z | z
      · exact h2 z
      · rw [h1] at z; cases z
  | .obj c ks xs, _, h => by
    cases h with
    | obj hc h1 hl h2 h3 =>
      refine .obj hc (k _ _ h1 fun z => absurd z h2) hl (fun z => ?_) (RpA.keep k hN xs _ h3)
      rcases hN _ z with z | z
      · exact h2 z
      · rw [h1] at z; cases z
  | .dT ks xs, _, h => by
    cases h with
    | dT h1 hl h2 h3 =>
      refine .dT (k _ _ h1 fun z => absurd z h2) hl (fun z => ?_) (RpA.keep k hN xs _ h3)
      rcases hN _ z with z | z
      · exact h2 z
      · rw [h1] at z; cases z
theorem RpA.keep (k : Keep N H H') (hN : ∀ b, N' b → N b ∨ H b = none) : ∀ (xs : List Dat) (vs : List V), RpA K mg d N H vs xs → RpA K mg d N' H' vs xs
  | [], _, h => by cases h; exact .nil
  | x :: xs, _, h => by
    cases h with
    | cons h1 h2 => exact .cons (Rp.keep k hN x _ h1) (RpA.keep k hN xs _ h2)
end
theorem RpA.length : ∀ {xs : List Dat} {vs : List V}, RpA K mg d N H vs xs → vs.length = xs.length
  | [], _, h => by cases h; rfl
  | x :: xs, _, h => by
    cases h with
    | cons h1 h2 => simp [RpA.length h2]
theorem RpA.get : ∀ {xs : List Dat} {vs : List V} {i : Nat} {x : Dat}, RpA K mg d N H vs xs → xs[i]? = some x → ∃ v, vs[i]? = some v ∧ Rp K mg d N H v x
  | [], _, _, _, h, e => by simp at e
  | x :: xs, _, 0, y, h, e => by
    cases h with
    | cons h1 h2 =>
      simp at e; subst e
      exact ⟨_, rfl, h1⟩
  | x :: xs, _, i + 1, y, h, e => by
    cases h with
    | cons h1 h2 =>
      obtain ⟨v, e1, e2⟩ := RpA.get (i := i) h2 (by simpa using e)
      exact ⟨v, by simpa using e1, e2⟩
theorem RpA.getV : ∀ {xs : List Dat} {vs : List V} {i : Nat} {v : V}, RpA K mg d N H vs xs → vs[i]? = some v → ∃ x, xs[i]? = some x ∧ Rp K mg d N H v x
  | [], _, _, _, h, e => by cases h; simp at e
  | x :: xs, _, 0, y, h, e => by
    cases h with
    | cons h1 h2 =>
      simp at e; subst e
      exact ⟨_, rfl, h1⟩
  | x :: xs, _, i + 1, y, h, e => by
    cases h with
    | cons h1 h2 =>
      obtain ⟨v, e1, e2⟩ := RpA.getV (i := i) h2 (by simpa using e)
      exact ⟨v, by simpa using e1, e2⟩
theorem RpA.append : ∀ {xs ys : List Dat} {vs ws : List V}, RpA K mg d N H vs xs → RpA K mg d N H ws ys → RpA K mg d N H (vs ++ ws) (xs ++ ys)
  | [], _, _, _, h, g => by cases h; exact g
  | x :: xs, _, _, _, h, g => by
    cases h with
    | cons h1 h2 => exact .cons h1 (RpA.append h2 g)
theorem RpA.drop : ∀ {xs : List Dat} {vs : List V} (n : Nat), RpA K mg d N H vs xs → RpA K mg d N H (vs.drop n) (xs.drop n)
  | _, _, 0, h => h
  | [], _, _ + 1, h => by cases h; exact .nil
  | x :: xs, _, n + 1, h => by
    cases h with
    | cons h1 h2 => exact RpA.drop n h2
theorem RpA.take : ∀ {xs : List Dat} {vs : List V} (n : Nat), RpA K mg d N H vs xs → RpA K mg d N H (vs.take n) (xs.take n)
  | _, _, 0, h => .nil
  | [], _, _ + 1, h => by cases h; exact .nil
  | x :: xs, _, n + 1, h => by
    cases h with
    | cons h1 h2 => exact .cons h1 (RpA.take n h2)
theorem RpA.eraseIdx : ∀ {xs : List Dat} {vs : List V} (n : Nat), RpA K mg d N H vs xs → RpA K mg d N H (vs.eraseIdx n) (xs.eraseIdx n)
  | [], _, _, h => by cases h; exact .nil
  | x :: xs, _, 0, h => by
    cases h with
    | cons h1 h2 => exact h2
  | x :: xs, _, n + 1, h => by
    cases h with
    | cons h1 h2 => exact .cons h1 (RpA.eraseIdx n h2)
end
/-! ### 2. The state of a def's frame -/
inductive Slot where
  | un | val (x : Dat) | own (xs : List Dat)
abbrev Ev := List Slot
abbrev isD (d : Option Addr) : Addr → Prop := fun b => d = some b
def DiceAt (d : Option Addr) (H : Hp) (δ : List Int) : Prop := ∀ a, d = some a → H a = some (.lst (δ.map V.int))
structure Fm where
  d : Option Addr
  M : Addr → Prop
  H0 : Hp
  gv : List V
  gx : List Dat
  go : List (Addr × List Dat)
/-- what may not be reached by data: what the callers hold, the lists that are being filled -/
def NN (q : Fm) (σ : St) (env : Ev) (b : Addr) : Prop := q.M b ∨ (∃ l, (b, l) ∈ q.go) ∨ ∃ (i : Nat) (l : List Dat), env[i]? = some (Slot.own l) ∧ σ[i]? = some (some (V.ref b))
structure Ok (K : PySem.W.Frag) (mg : Str → Option Value) (q : Fm) (σ : St) (H : Hp) (env : Ev) (δ : List Int) : Prop where
  kp : Keep (isD q.d) q.H0 H
  dc : DiceAt q.d H δ
  dm : ∀ a, q.d = some a → q.M a
  md : ∀ b, q.M b → q.H0 b ≠ none
  ln : σ.length = env.length
  vl : ∀ (i : Nat) (x : Dat), env[i]? = some (Slot.val x) → ∃ v, σ[i]? = some (some v) ∧ Rp K mg q.d (NN q σ env) H v x
  ow : ∀ (i : Nat) (l : List Dat), env[i]? = some (Slot.own l) → ∃ (a : Addr) (vs : List V), σ[i]? = some (some (V.ref a)) ∧ q.H0 a = none ∧ H a = some (.lst vs) ∧ RpA K mg q.d (NN q σ env) H vs l
  ds : ∀ (i j : Nat) (l l' : List Dat) (a : Addr), env[i]? = some (Slot.own l) → env[j]? = some (Slot.own l') → σ[i]? = some (some (V.ref a)) → σ[j]? = some (some (V.ref a)) → i = j
  gh : RpA K mg q.d (NN q σ env) H q.gv q.gx
  go : ∀ (a : Addr) (l : List Dat), (a, l) ∈ q.go → q.H0 a = none ∧ (∃ vs : List V, H a = some (.lst vs) ∧ RpA K mg q.d (NN q σ env) H vs l) ∧ ∀ (i : Nat) (l' : List Dat), env[i]? = some (Slot.own l') → σ[i]? ≠ some (some (V.ref a))
section
variable {K : PySem.W.Frag} {mg : Str → Option Value} {q : Fm} {H H' : Hp} {σ : St} {env : Ev} {δ δ' : List Int}
theorem Ok.mdH (k : Ok K mg q σ H env δ) {b : Addr} (hb : q.M b) : H b ≠ none := fun e => by
  cases z : q.H0 b with
  | none => exact k.md b hb z
  | some o =>
    by_cases hd : q.d = some b
    · have := k.dc b hd
      rw [e] at this; cases this
    · have := k.kp b o z fun z => absurd z hd
      rw [e] at this; cases this
theorem Ok.nn (k : Ok K mg q σ H env δ) {b : Addr} (hb : NN q σ env b) : H b ≠ none := by
  rcases hb with hb | ⟨l, hl⟩ | ⟨i, l, h1, h2⟩
  · exact k.mdH hb
  · obtain ⟨_, ⟨vs, e, _⟩, _⟩ := k.go b l hl
    rw [e]
    intro z; cases z
  · obtain ⟨a, vs, e1, _, e2, _⟩ := k.ow i l h1
    rw [h2] at e1
    cases e1
    rw [e2]
    intro z; cases z
/-- a new address is reached by nothing -/
theorem Ok.free (k : Ok K mg q σ H env δ) {p : Addr} (hp : H p = none) : ¬ NN q σ env p := fun z => k.nn z hp
theorem Ok.free0 (k : Ok K mg q σ H env δ) {p : Addr} (hp : H p = none) : q.H0 p = none := by
  cases z : q.H0 p with
  | none => rfl
  | some o =>
    by_cases hd : q.d = some p
    · have := k.dc p hd
      rw [hp] at this; cases this
    · have := k.kp p o z fun z => absurd z hd
      rw [hp] at this; cases this
/-- an expression's heap: all stands but the dice -/
theorem Ok.step (k : Ok K mg q σ H env δ) (h : Keep (isD q.d) H H') (hd : DiceAt q.d H' δ') : Ok K mg q σ H' env δ' := by
  have hw : Keep (NN q σ env) H H' := h.weak fun b z => .inl (k.dm b z)
  refine ⟨k.kp.trans h, hd, k.dm, k.md, k.ln, fun i x e => ?_, fun i l e => ?_, k.ds, RpA.keep hw (fun b z => .inl z) _ _ k.gh, fun a l e => ?_⟩
  · obtain ⟨v, e1, r⟩ := k.vl i x e
    exact ⟨v, e1, Rp.keep hw (fun b z => .inl z) _ _ r⟩
  · obtain ⟨a, vs, e1, e2, e3, r⟩ := k.ow i l e
    refine ⟨a, vs, e1, e2, h a _ e3 fun z => ?_, RpA.keep hw (fun b z => .inl z) _ _ r⟩
    exact absurd e2 (k.md a (k.dm a z))
  · obtain ⟨e1, ⟨vs, e3, r⟩, e4⟩ := k.go a l e
    refine ⟨e1, ⟨vs, h a _ e3 fun z => ?_, RpA.keep hw (fun b z => .inl z) _ _ r⟩, e4⟩
    exact absurd e1 (k.md a (k.dm a z))
/-- the heap grows -/
theorem Ok.grow (k : Ok K mg q σ H env δ) (h : Same H H') : Ok K mg q σ H' env δ :=
  k.step (Keep.of_same h) fun a e => h a _ (k.dc a e)
theorem Ok.dn (k : Ok K mg q σ H env δ) : ∀ a, q.d = some a → NN q σ env a := fun a e => .inl (k.dm a e)
end
section
variable {K : PySem.W.Frag} {mg : Str → Option Value} {d : Option Addr} {N N' : Addr → Prop} {H H' : Hp}
/-- weak reading: the value itself may be a list that is being filled -/
def RpB (K : PySem.W.Frag) (mg : Str → Option Value) (d : Option Addr) (N : Addr → Prop) (H : Hp) (v : V) : Dat → Prop
  | .lst xs => ∃ a vs, v = .ref a ∧ H a = some (.lst vs) ∧ d ≠ some a ∧ RpA K mg d N H vs xs
  | x => Rp K mg d N H v x
theorem Rp.weak {v : V} {x : Dat} (hd : ∀ a, d = some a → N a) (h : Rp K mg d N H v x) : RpB K mg d N H v x := by
  cases x with
  | lst xs =>
    cases h with
    | lst h1 h2 h3 => exact ⟨_, _, rfl, h1, fun z => h2 (hd _ z), h3⟩
  | _ => exact h
theorem RpB.keep {v : V} {x : Dat} (hd : ∀ a, d = some a → N a) (k : Keep (isD d) H H') (hN : ∀ b, N' b → N b ∨ H b = none) (h : RpB K mg d N H v x) : RpB K mg d N' H' v x := by
  have hw : Keep N H H' := k.weak hd
  cases x with
  | lst xs =>
    obtain ⟨a, vs, e1, e2, e3, e4⟩ := h
    exact ⟨a, vs, e1, k a _ e2 fun z => absurd z e3, e3, RpA.keep hw hN _ _ e4⟩
  | non => exact Rp.keep hw hN _ _ h
  | bl => exact Rp.keep hw hN _ _ h
  | int => exact Rp.keep hw hN _ _ h
  | str => exact Rp.keep hw hN _ _ h
  | tup => exact Rp.keep hw hN _ _ h
  | dice => exact Rp.keep hw hN _ _ h
  | obj => exact Rp.keep hw hN _ _ h
  | dT => exact Rp.keep hw hN _ _ h
/-- several, weakly -/
def RpBs (K : PySem.W.Frag) (mg : Str → Option Value) (d : Option Addr) (N : Addr → Prop) (H : Hp) : List V → List Dat → Prop
  | [], [] => True
  | v :: vs, x :: xs => RpB K mg d N H v x ∧ RpBs K mg d N H vs xs
  | _, _ => False
theorem RpA.weak (hd : ∀ a, d = some a → N a) : ∀ {vs : List V} {xs : List Dat}, RpA K mg d N H vs xs → RpBs K mg d N H vs xs
  | [], _, h => by cases h; trivial
  | v :: vs, _, h => by
    cases h with
    | cons h1 h2 => exact ⟨h1.weak hd, RpA.weak hd h2⟩
end
end Dl

namespace Dl
open PySem PySem.Spec L2
/-! ### 3. Expressions -/
abbrev E := Ev → List Int → Option (Dat × List Int)
abbrev ET := Ev → List Int → Option (Bool × List Int)
abbrev EA := Ev → List Int → Option (List Dat × List Int)
/-- weak, strong, a test, arguments strong and weak -/
def RE (K : PySem.W.Frag) (mg : Str → Option Value) (t : TE) (f : E) : Prop := ∀ (q : Fm) (σ : St) (H : Hp) (env : Ev) (δ : List Int) (x : Dat) (δ' : List Int) (Q : VK), Ok K mg q σ H env δ → f env δ = some (x, δ') →
  (∀ v H', Keep (isD q.d) H H' → Ok K mg q σ H' env δ' → RpB K mg q.d (NN q σ env) H' v x → Q v H') → t σ H Q
def RS (K : PySem.W.Frag) (mg : Str → Option Value) (t : TE) (f : E) : Prop := ∀ (q : Fm) (σ : St) (H : Hp) (env : Ev) (δ : List Int) (x : Dat) (δ' : List Int) (Q : VK), Ok K mg q σ H env δ → f env δ = some (x, δ') →
  (∀ v H', Keep (isD q.d) H H' → Ok K mg q σ H' env δ' → Rp K mg q.d (NN q σ env) H' v x → Q v H') → t σ H Q
def RT (K : PySem.W.Frag) (mg : Str → Option Value) (t : TT) (f : ET) : Prop := ∀ (q : Fm) (σ : St) (H : Hp) (env : Ev) (δ : List Int) (x : Bool) (δ' : List Int) (Q : Bool → Hp → Prop), Ok K mg q σ H env δ → f env δ = some (x, δ') →
  (∀ H', Keep (isD q.d) H H' → Ok K mg q σ H' env δ' → Q x H') → t σ H Q
def RA (K : PySem.W.Frag) (mg : Str → Option Value) (t : TA) (f : EA) : Prop := ∀ (q : Fm) (σ : St) (H : Hp) (env : Ev) (δ : List Int) (x : List Dat) (δ' : List Int) (Q : List V → Hp → Prop), Ok K mg q σ H env δ → f env δ = some (x, δ') →
  (∀ v H', Keep (isD q.d) H H' → Ok K mg q σ H' env δ' → RpA K mg q.d (NN q σ env) H' v x → Q v H') → t σ H Q
def RAB (K : PySem.W.Frag) (mg : Str → Option Value) (t : TA) (f : EA) : Prop := ∀ (q : Fm) (σ : St) (H : Hp) (env : Ev) (δ : List Int) (x : List Dat) (δ' : List Int) (Q : List V → Hp → Prop), Ok K mg q σ H env δ → f env δ = some (x, δ') →
  (∀ v H', Keep (isD q.d) H H' → Ok K mg q σ H' env δ' → RpBs K mg q.d (NN q σ env) H' v x → Q v H') → t σ H Q
structure DE (X : Cx) (e : Expr) (t : TE) (f : E) : Prop where
  p : PE X e t
  r : RE X.K X.mg t f
structure DS (X : Cx) (e : Expr) (t : TE) (f : E) : Prop where
  p : PE X e t
  r : RS X.K X.mg t f
structure DT (X : Cx) (e : Expr) (t : TT) (f : ET) : Prop where
  p : PT X e t
  r : RT X.K X.mg t f
structure DA (X : Cx) (es : List Expr) (t : TA) (f : EA) : Prop where
  p : PA X es t
  r : RA X.K X.mg t f
structure DAB (X : Cx) (es : List Expr) (t : TA) (f : EA) : Prop where
  p : PA X es t
  r : RAB X.K X.mg t f
section
variable {X : Cx} {e a b : Expr} {es : List Expr} {t ta tb : TE} {f g : E} {pos : Pos}
theorem DS.w (h : DS X e t f) : DE X e t f := ⟨h.p, fun q σ H env δ x δ' Q k ef kq => h.r q σ H env δ x δ' Q k ef fun v H' k1 k2 r => kq v H' k1 k2 (r.weak k.dn)⟩
/-! names, constants -/
def eVar (i : Nat) : E := fun env δ => match env[i]? with
  | some (.val x) => some (x, δ)
  | _ => none
def eVarB (i : Nat) : E := fun env δ => match env[i]? with
  | some (.val x) => some (x, δ)
  | some (.own l) => some (.lst l, δ)
  | _ => none
theorem re_var {K : PySem.W.Frag} {mg : Str → Option Value} (i : Nat) : RS K mg (tVar i) (eVar i) := by
  intro q σ H env δ x δ' Q k ef kq
  unfold eVar at ef
  split at ef
  · rename_i y hy
    cases ef
    obtain ⟨v, e1, r⟩ := k.vl i _ hy
    exact ⟨v, e1, kq v H .refl k r⟩
  · cases ef
theorem re_varB {K : PySem.W.Frag} {mg : Str → Option Value} (i : Nat) : RE K mg (tVar i) (eVarB i) := by
  intro q σ H env δ x δ' Q k ef kq
  unfold eVarB at ef
  split at ef
  · rename_i y hy
    cases ef
    obtain ⟨v, e1, r⟩ := k.vl i _ hy
    exact ⟨v, e1, kq v H .refl k (r.weak k.dn)⟩
  · rename_i l hy
    cases ef
    obtain ⟨a, vs, e1, e2, e3, r⟩ := k.ow i _ hy
    exact ⟨.ref a, e1, kq _ H .refl k ⟨a, vs, rfl, e3, fun z => k.md a (k.dm a z) e2, r⟩⟩
  · cases ef
theorem d_var (i : Nat) (h : PE X e (tVar i)) : DS X e (tVar i) (eVar i) := ⟨h, re_var i⟩
theorem d_varB (i : Nat) (h : PE X e (tVar i)) : DE X e (tVar i) (eVarB i) := ⟨h, re_varB i⟩
def eC (x : Dat) : E := fun _ δ => some (x, δ)
theorem re_c {K : PySem.W.Frag} {mg : Str → Option Value} {v : V} {x : Dat} (h : ∀ d N H, Rp K mg d N H v x) : RS K mg (tC v) (eC x) := by
  intro q σ H env δ y δ' Q k ef kq
  cases ef
  exact kq v H .refl k (h _ _ _)
theorem d_int {i j} : DS X (.Constant (.int i) j pos) (tC (.int i)) (eC (.int i)) := ⟨pe_int, re_c fun _ _ _ => .int i⟩
theorem d_bl {i j} : DS X (.Constant (.bool i) j pos) (tC (.bl i)) (eC (.bl i)) := ⟨pe_bl, re_c fun _ _ _ => .bl i⟩
theorem d_str {i j} : DS X (.Constant (.str i) j pos) (tC (.str i)) (eC (.str i)) := ⟨pe_str, re_c fun _ _ _ => .str i⟩
theorem d_non {j} : DS X (.Constant .none j pos) (tC .non) (eC .non) := ⟨pe_non, re_c fun _ _ _ => .non⟩
/-- a constant of the module -/
theorem d_glob {x : Str} {v : V} {u : Value} {y : Dat} (hg : Gl X x) (hm : X.mg x = some u) (r : RelV v u) (h : ∀ d N H, Rp X.K X.mg d N H v y) (hd : (x == ("__debug__" : Str)) = false := by decide) : DS X (.Name x pos) (tC v) (eC y) :=
  ⟨pe_glob hg hm r hd, re_c h⟩
/-! operators -/
def eOp (F : Dat → Dat → Option Dat) (f g : E) : E := fun env δ => (f env δ).bind fun r => (g env r.2).bind fun u => (F r.1 u.1).map fun z => (z, u.2)
/-- an operator's rule by data -/
def RefO (K : PySem.W.Frag) (mg : Str → Option Value) (r : R2) (F : Dat → Dat → Option Dat) : Prop := ∀ (d : Option Addr) (N : Addr → Prop) (H : Hp) (v w : V) (x y z : Dat) (Q : VK), (∀ a, d = some a → N a) → (∀ b, N b → H b ≠ none) →
  RpB K mg d N H v x → RpB K mg d N H w y → F x y = some z → (∀ u H', Same H H' → Rp K mg d N H' u z → Q u H') → r v w H Q
theorem re_op {K : PySem.W.Frag} {mg : Str → Option Value} {r : R2} {F : Dat → Dat → Option Dat} (hr : RefO K mg r F) (ha : RE K mg ta f) (hb : RE K mg tb g) : RS K mg (tOp r ta tb) (eOp F f g) := by
  intro q σ H env δ z δ' Q k ef kq
  unfold eOp at ef
  cases e1 : f env δ with
  | none => rw [e1] at ef; cases ef
  | some r1 =>
    obtain ⟨x, δ1⟩ := r1
    rw [e1] at ef
    cases e2 : g env δ1 with
    | none => simp [e2] at ef
    | some r2 =>
      obtain ⟨y, δ2⟩ := r2
      simp only [Option.bind_some, e2] at ef
      cases e3 : F x y with
      | none => simp [e3] at ef
      | some z' =>
        simp only [e3, Option.map_some, Option.some.injEq, Prod.mk.injEq] at ef
        obtain ⟨rfl, rfl⟩ := ef
        refine ha q σ H env δ x δ1 _ k e1 fun v H1 k1 o1 r1 => ?_
        refine hb q σ H1 env δ1 y δ2 _ o1 e2 fun w H2 k2 o2 r2 => ?_
        refine hr q.d (NN q σ env) H2 v w x y z' Q o2.dn (fun b => o2.nn) (r1.keep k.dn k2 fun b z => .inl z) r2 e3 fun u H3 s3 r3 => ?_
        exact kq u H3 ((k1.trans k2).trans (.of_same s3)) (o2.grow s3) r3
theorem d_op {op : Operator} {r : R2} {F : Dat → Dat → Option Dat} (ho : OpR X (binaryOp op) r) (hr : RefO X.K X.mg r F) (ha : DE X a ta f) (hb : DE X b tb g) : DS X (.BinOp a op b pos) (tOp r ta tb) (eOp F f g) :=
  ⟨pe_op ho ha.p hb.p, re_op hr ha.r hb.r⟩
theorem d_cmp {op : CmpOp} {r : R2} {F : Dat → Dat → Option Dat} (ho : OpR X (compareOp op) r) (hr : RefO X.K X.mg r F) (ha : DE X a ta f) (hb : DE X b tb g) (hm : behindInMarks op b = false) : DS X (.Compare a [op] [b] pos) (tOp r ta tb) (eOp F f g) :=
  ⟨pe_cmpR ho ha.p hb.p hm, re_op hr ha.r hb.r⟩
/-- a value that is a truth, as a test -/
def eTest (f : E) : ET := fun env δ => (f env δ).bind fun r => match r.1 with
  | .bl k => some (k, r.2)
  | _ => none
theorem rt_test {K : PySem.W.Frag} {mg : Str → Option Value} (ha : RE K mg ta f) : RT K mg (tTest ta) (eTest f) := by
  intro q σ H env δ z δ' Q k ef kq
  unfold eTest at ef
  cases e1 : f env δ with
  | none => rw [e1] at ef; cases ef
  | some r1 =>
    obtain ⟨x, δ1⟩ := r1
    rw [e1] at ef
    cases x with
    | bl c =>
      simp only [Option.bind_some, Option.some.injEq, Prod.mk.injEq] at ef
      obtain ⟨rfl, rfl⟩ := ef
      refine ha q σ H env δ (.bl c) δ1 _ k e1 fun v H1 k1 o1 r1 => ?_
      cases r1
      exact ⟨c, rfl, kq H1 k1 o1⟩
    | _ => cases ef
theorem d_tcmp {op : CmpOp} {r : R2} {F : Dat → Dat → Option Dat} (ho : OpR X (compareOp op) r) (hr : RefO X.K X.mg r F) (ha : DE X a ta f) (hb : DE X b tb g) (hm : behindInMarks op b = false) : DT X (.Compare a [op] [b] pos) (tTest (tOp r ta tb)) (eTest (eOp F f g)) :=
  ⟨pt_cmpR ho ha.p hb.p hm, rt_test fun q σ H env δ x δ' Q k ef kq => (re_op hr ha.r hb.r) q σ H env δ x δ' Q k ef fun v H' k1 k2 r => kq v H' k1 k2 (r.weak k.dn)⟩
theorem d_tval (ha : DE X a ta f) (he : ∀ whole, isTrue a X.env whole = (do let v ← whole; standAt a.pos; holding [v] (truthy v)) := by intro _; rfl) : DT X a (tB ta) (eTest f) := by
  refine ⟨pt_val ha.p he, fun q σ H env δ x δ' Q k ef kq => ?_⟩
  exact rt_test ha.r q σ H env δ x δ' Q k ef kq
end
end Dl

namespace Dl
open PySem PySem.Spec L2
section
variable {X : Cx} {e a b c : Expr} {es rest : List Expr} {t ta tb tc : TE} {f g h : E} {pos : Pos} {tA tB' : TT} {fA fB : ET} {K : PySem.W.Frag} {mg : Str → Option Value}
/-! and, or, not -/
def eAndT (f g : ET) : ET := fun env δ => (f env δ).bind fun r => if r.1 = true then g env r.2 else some (false, r.2)
def eOrT (f g : ET) : ET := fun env δ => (f env δ).bind fun r => if r.1 = true then some (true, r.2) else g env r.2
def eNotT (f : ET) : ET := fun env δ => (f env δ).map fun r => (!r.1, r.2)
theorem rt_and (ha : RT K mg tA fA) (hb : RT K mg tB' fB) : RT K mg (tAnd tA tB') (eAndT fA fB) := by
  intro q σ H env δ z δ' Q k ef kq
  unfold eAndT at ef
  cases e1 : fA env δ with
  | none => rw [e1] at ef; cases ef
  | some r1 =>
    obtain ⟨x, δ1⟩ := r1
    rw [e1] at ef
    refine ha q σ H env δ x δ1 _ k e1 fun H1 k1 o1 => ?_
    cases x with
    | true => exact hb q σ H1 env δ1 z δ' Q o1 ef fun H2 k2 o2 => kq H2 (k1.trans k2) o2
    | false =>
      cases ef
      exact kq H1 k1 o1
theorem rt_or (ha : RT K mg tA fA) (hb : RT K mg tB' fB) : RT K mg (tOr tA tB') (eOrT fA fB) := by
  intro q σ H env δ z δ' Q k ef kq
  unfold eOrT at ef
  cases e1 : fA env δ with
  | none => rw [e1] at ef; cases ef
  | some r1 =>
    obtain ⟨x, δ1⟩ := r1
    rw [e1] at ef
    refine ha q σ H env δ x δ1 _ k e1 fun H1 k1 o1 => ?_
    cases x with
    | false => exact hb q σ H1 env δ1 z δ' Q o1 ef fun H2 k2 o2 => kq H2 (k1.trans k2) o2
    | true =>
      cases ef
      exact kq H1 k1 o1
theorem rt_not (ha : RT K mg tA fA) : RT K mg (tNot tA) (eNotT fA) := by
  intro q σ H env δ z δ' Q k ef kq
  unfold eNotT at ef
  cases e1 : fA env δ with
  | none => rw [e1] at ef; cases ef
  | some r1 =>
    obtain ⟨x, δ1⟩ := r1
    rw [e1] at ef
    cases ef
    exact ha q σ H env δ x δ1 _ k e1 fun H1 k1 o1 => kq H1 k1 o1
/-- a chain of and, or -/
structure DW (X : Cx) (e : Expr) (t : TT) (f : ET) : Prop where
  p : PW X e t
  r : RT X.K X.mg t f
theorem d_and1 (ha : DT X a tA fA) : DW X (.BoolOp .And [a] pos) tA fA := ⟨pw_and1 ha.p, ha.r⟩
theorem d_or1 (ha : DT X a tA fA) : DW X (.BoolOp .Or [a] pos) tA fA := ⟨pw_or1 ha.p, ha.r⟩
theorem d_and (ha : DT X a tA fA) (hb : DW X (.BoolOp .And (b :: rest) pos) tB' fB) : DW X (.BoolOp .And (a :: b :: rest) pos) (tAnd tA tB') (eAndT fA fB) := ⟨pw_and ha.p hb.p, rt_and ha.r hb.r⟩
theorem d_or (ha : DT X a tA fA) (hb : DW X (.BoolOp .Or (b :: rest) pos) tB' fB) : DW X (.BoolOp .Or (a :: b :: rest) pos) (tOr tA tB') (eOrT fA fB) := ⟨pw_or ha.p hb.p, rt_or ha.r hb.r⟩
theorem DW.dt (h : DW X e tA fA) : DT X e tA fA := ⟨h.p.pt, h.r⟩
theorem d_tnot (ha : DT X a tA fA) : DT X (.UnaryOp .Not a pos) (tNot tA) (eNotT fA) := ⟨pt_not ha.p, rt_not ha.r⟩
/-! the same as values (truths alone) -/
def eAnd (f g : E) : E := fun env δ => (f env δ).bind fun r => match r.1 with
  | .bl true => g env r.2
  | .bl false => some (.bl false, r.2)
  | _ => none
def eOr (f g : E) : E := fun env δ => (f env δ).bind fun r => match r.1 with
  | .bl true => some (.bl true, r.2)
  | .bl false => g env r.2
  | _ => none
def eNot (f : E) : E := fun env δ => (f env δ).bind fun r => match r.1 with
  | .bl k => some (.bl (!k), r.2)
  | _ => none
theorem re_and (ha : RE K mg ta f) (hb : RS K mg tb g) : RS K mg (tAndV ta tb) (eAnd f g) := by
  intro q σ H env δ z δ' Q k ef kq
  unfold eAnd at ef
  cases e1 : f env δ with
  | none => rw [e1] at ef; cases ef
  | some r1 =>
    obtain ⟨x, δ1⟩ := r1
    rw [e1] at ef
    cases x with
    | bl c =>
      refine ha q σ H env δ (.bl c) δ1 _ k e1 fun v H1 k1 o1 r1 => ?_
      cases r1
      refine ⟨c, rfl, ?_⟩
      cases c with
      | true => exact hb q σ H1 env δ1 z δ' Q o1 ef fun v H2 k2 o2 r2 => kq v H2 (k1.trans k2) o2 r2
      | false =>
        cases ef
        exact kq _ H1 k1 o1 (.bl false)
    | _ => cases ef
theorem re_or (ha : RE K mg ta f) (hb : RS K mg tb g) : RS K mg (tOrV ta tb) (eOr f g) := by
  intro q σ H env δ z δ' Q k ef kq
  unfold eOr at ef
  cases e1 : f env δ with
  | none => rw [e1] at ef; cases ef
  | some r1 =>
    obtain ⟨x, δ1⟩ := r1
    rw [e1] at ef
    cases x with
    | bl c =>
      refine ha q σ H env δ (.bl c) δ1 _ k e1 fun v H1 k1 o1 r1 => ?_
      cases r1
      refine ⟨c, rfl, ?_⟩
      cases c with
      | false => exact hb q σ H1 env δ1 z δ' Q o1 ef fun v H2 k2 o2 r2 => kq v H2 (k1.trans k2) o2 r2
      | true =>
        cases ef
        exact kq _ H1 k1 o1 (.bl true)
    | _ => cases ef
theorem re_not (ha : RE K mg ta f) : RS K mg (tNotV ta) (eNot f) := by
  intro q σ H env δ z δ' Q k ef kq
  unfold eNot at ef
  cases e1 : f env δ with
  | none => rw [e1] at ef; cases ef
  | some r1 =>
    obtain ⟨x, δ1⟩ := r1
    rw [e1] at ef
    cases x with
    | bl c =>
      refine ha q σ H env δ (.bl c) δ1 _ k e1 fun v H1 k1 o1 r1 => ?_
      cases r1
      cases ef
      exact ⟨c, rfl, kq _ H1 k1 o1 (.bl _)⟩
    | _ => cases ef
theorem d_one {op} (ha : DS X a ta f) : DS X (.BoolOp op [a] pos) ta f := ⟨pe_one ha.p, ha.r⟩
theorem d_vand (ha : DE X a ta f) (hb : DS X (.BoolOp .And (b :: rest) pos) tb g) : DS X (.BoolOp .And (a :: b :: rest) pos) (tAndV ta tb) (eAnd f g) := ⟨pe_and ha.p hb.p, re_and ha.r hb.r⟩
theorem d_vor (ha : DE X a ta f) (hb : DS X (.BoolOp .Or (b :: rest) pos) tb g) : DS X (.BoolOp .Or (a :: b :: rest) pos) (tOrV ta tb) (eOr f g) := ⟨pe_or ha.p hb.p, re_or ha.r hb.r⟩
theorem d_vnot (ha : DE X a ta f) : DS X (.UnaryOp .Not a pos) (tNotV ta) (eNot f) := ⟨pe_not ha.p, re_not ha.r⟩
/-! a conditional expression -/
def eIf (c : ET) (f g : E) : E := fun env δ => (c env δ).bind fun r => if r.1 = true then f env r.2 else g env r.2
theorem re_if (hc : RT K mg tA fA) (ha : RS K mg ta f) (hb : RS K mg tb g) : RS K mg (tIf tA ta tb) (eIf fA f g) := by
  intro q σ H env δ z δ' Q k ef kq
  unfold eIf at ef
  cases e1 : fA env δ with
  | none => rw [e1] at ef; cases ef
  | some r1 =>
    obtain ⟨x, δ1⟩ := r1
    rw [e1] at ef
    refine hc q σ H env δ x δ1 _ k e1 fun H1 k1 o1 => ?_
    cases x with
    | true => exact ha q σ H1 env δ1 z δ' Q o1 ef fun v H2 k2 o2 r2 => kq v H2 (k1.trans k2) o2 r2
    | false => exact hb q σ H1 env δ1 z δ' Q o1 ef fun v H2 k2 o2 r2 => kq v H2 (k1.trans k2) o2 r2
theorem d_ifExp (hc : DT X c tA fA) (ha : DS X a ta f) (hb : DS X b tb g) : DS X (.IfExp c a b pos) (tIf tA ta tb) (eIf fA f g) := ⟨pe_ifExp hc.p ha.p hb.p, re_if hc.r ha.r hb.r⟩
/-! truth of a value -/
def truD : Dat → Option Bool
  | .non => some false
  | .bl k => some k
  | .int i => some (i != 0)
  | .str x => if x.length < 1000000 then some ((x.length : Int) != 0) else none
  | .lst xs => some (!xs.isEmpty)
  | .tup xs => some (!xs.isEmpty)
  | _ => none
def eTru (f : E) : ET := fun env δ => (f env δ).bind fun r => (truD r.1).map fun k => (k, r.2)
theorem le_line {n : Nat} (h : n < 1000000) : n ≤ sizeLine := by rw [sizeLine_eq]; omega
theorem lt_line {n : Nat} (h : n < 1000000) : n < sizeLine := by rw [sizeLine_eq]; omega
theorem RpA.isEmpty {d : Option Addr} {N : Addr → Prop} {H : Hp} {vs : List V} {xs : List Dat} (h : RpA K mg d N H vs xs) : vs.isEmpty = xs.isEmpty := by
  cases h <;> rfl
theorem truV_of {d : Option Addr} {N : Addr → Prop} {H : Hp} {v : V} {x : Dat} {k : Bool} (r : RpB K mg d N H v x) (e : truD x = some k) : TruV K v H k := by
  cases x with
  | non => cases r; cases e; rfl
  | bl b => cases r; cases e; rfl
  | int i => cases r; cases e; rfl
  | str y =>
    cases r
    have e' : (if y.length < 1000000 then some ((y.length : Int) != 0) else none) = some k := e
    split at e'
    · rename_i hl
      cases e'
      exact ⟨le_line hl, rfl⟩
    · cases e'
  | lst xs =>
    obtain ⟨a, vs, rfl, e2, _, r4⟩ := r
    cases e
    exact .inl ⟨vs, .of e2, by rw [r4.isEmpty]⟩
  | tup xs =>
    cases r with
    | tup h1 h2 =>
      cases e
      exact .inr (.inl ⟨_, h1, by rw [h2.isEmpty]⟩)
  | _ => cases e
theorem d_truth (ha : DE X a ta f) (he : ∀ whole, isTrue a X.env whole = (do let v ← whole; standAt a.pos; holding [v] (truthy v)) := by intro _; rfl) : DT X a (fun σ H Q => ta σ H fun x H' => ∃ k, TruV X.K x H' k ∧ Q k H') (eTru f) := by
  refine ⟨pt_truth ha.p he, fun q σ H env δ z δ' Q k ef kq => ?_⟩
  unfold eTru at ef
  cases e1 : f env δ with
  | none => rw [e1] at ef; cases ef
  | some r1 =>
    obtain ⟨x, δ1⟩ := r1
    rw [e1] at ef
    cases e2 : truD x with
    | none => simp [e2] at ef
    | some kk =>
      simp only [Option.bind_some, e2, Option.map_some, Option.some.injEq, Prod.mk.injEq] at ef
      obtain ⟨rfl, rfl⟩ := ef
      exact ha.r q σ H env δ x δ1 _ k e1 fun v H1 k1 o1 r1 => ⟨kk, truV_of r1 e2, kq H1 k1 o1⟩
/-! arguments -/
def aNil : EA := fun _ δ => some ([], δ)
def aCons (f : E) (g : EA) : EA := fun env δ => (f env δ).bind fun r => (g env r.2).map fun u => (r.1 :: u.1, u.2)
variable {tr : TA} {fr : EA}
theorem d_anil : DA X [] tNil aNil := ⟨pa_nil, fun q σ H env δ x δ' Q k ef kq => by
  cases ef
  exact kq [] H .refl k .nil⟩
theorem d_acons (ha : DS X e ta f) (hr : DA X es tr fr) (hs : starEach (e :: es) X.env = (false, eval e X.env) :: starEach es X.env := by rfl) : DA X (e :: es) (tCons ta tr) (aCons f fr) := by
  refine ⟨pa_cons ha.p hr.p hs, fun q σ H env δ x δ' Q k ef kq => ?_⟩
  unfold aCons at ef
  cases e1 : f env δ with
  | none => rw [e1] at ef; cases ef
  | some r1 =>
    obtain ⟨y, δ1⟩ := r1
    rw [e1] at ef
    cases e2 : fr env δ1 with
    | none => simp [e2] at ef
    | some r2 =>
      obtain ⟨ys, δ2⟩ := r2
      simp only [Option.bind_some, e2, Option.map_some, Option.some.injEq, Prod.mk.injEq] at ef
      obtain ⟨rfl, rfl⟩ := ef
      refine ha.r q σ H env δ y δ1 _ k e1 fun v H1 k1 o1 r1 => ?_
      refine hr.r q σ H1 env δ1 ys δ2 _ o1 e2 fun vs H2 k2 o2 r2 => ?_
      exact kq _ H2 (k1.trans k2) o2 (.cons (Rp.keep (k2.weak k.dn) (fun b z => .inl z) _ _ r1) r2)
theorem d_abnil : DAB X [] tNil aNil := ⟨pa_nil, fun q σ H env δ x δ' Q k ef kq => by
  cases ef
  exact kq [] H .refl k trivial⟩
theorem d_abcons (ha : DE X e ta f) (hr : DAB X es tr fr) (hs : starEach (e :: es) X.env = (false, eval e X.env) :: starEach es X.env := by rfl) : DAB X (e :: es) (tCons ta tr) (aCons f fr) := by
  refine ⟨pa_cons ha.p hr.p hs, fun q σ H env δ x δ' Q k ef kq => ?_⟩
  unfold aCons at ef
  cases e1 : f env δ with
  | none => rw [e1] at ef; cases ef
  | some r1 =>
    obtain ⟨y, δ1⟩ := r1
    rw [e1] at ef
    cases e2 : fr env δ1 with
    | none => simp [e2] at ef
    | some r2 =>
      obtain ⟨ys, δ2⟩ := r2
      simp only [Option.bind_some, e2, Option.map_some, Option.some.injEq, Prod.mk.injEq] at ef
      obtain ⟨rfl, rfl⟩ := ef
      refine ha.r q σ H env δ y δ1 _ k e1 fun v H1 k1 o1 r1 => ?_
      refine hr.r q σ H1 env δ1 ys δ2 _ o1 e2 fun vs H2 k2 o2 r2 => ?_
      exact kq _ H2 (k1.trans k2) o2 ⟨r1.keep k.dn k2 fun b z => .inl z, r2⟩
/-! displays -/
def eTup (fr : EA) : E := fun env δ => (fr env δ).bind fun r => if r.1.length < 1000000 then some (.tup r.1, r.2) else none
def eLst (fr : EA) : E := fun env δ => (fr env δ).bind fun r => if r.1.length < 1000000 then some (.lst r.1, r.2) else none
theorem d_tup {x1} (hr : DA X es tr fr) : DS X (.Tuple es x1 pos) (tTup tr) (eTup fr) := by
  refine ⟨pe_tup hr.p, fun q σ H env δ x δ' Q k ef kq => ?_⟩
  unfold eTup at ef
  cases e1 : fr env δ with
  | none => rw [e1] at ef; cases ef
  | some r1 =>
    obtain ⟨ys, δ1⟩ := r1
    rw [e1] at ef
    simp only [Option.bind_some] at ef
    split at ef
    · rename_i hl
      cases ef
      refine hr.r q σ H env δ ys _ _ k e1 fun vs H1 k1 o1 r1 => ⟨by rw [r1.length]; exact le_line hl, fun p hp => ?_⟩
      have s := same_fresh (o := .tup vs) hp
      exact kq _ _ (k1.trans (.of_same s)) (o1.grow s) (.tup (.of upd_same) (RpA.keep (.of_same s) (fun b z => .inl z) _ _ r1))
    · cases ef
theorem d_lst (hr : DA X es tr fr) : DS X (.List es pos) (tLst tr) (eLst fr) := by
  refine ⟨pe_lst hr.p, fun q σ H env δ x δ' Q k ef kq => ?_⟩
  unfold eLst at ef
  cases e1 : fr env δ with
  | none => rw [e1] at ef; cases ef
  | some r1 =>
    obtain ⟨ys, δ1⟩ := r1
    rw [e1] at ef
    simp only [Option.bind_some] at ef
    split at ef
    · rename_i hl
      cases ef
      refine hr.r q σ H env δ ys _ _ k e1 fun vs H1 k1 o1 r1 => ⟨by rw [r1.length]; exact le_line hl, fun p hp => ?_⟩
      have s := same_fresh (o := .lst vs) hp
      exact kq _ _ (k1.trans (.of_same s)) (o1.grow s) (.lst upd_same (o1.free hp) (RpA.keep (.of_same s) (fun b z => .inl z) _ _ r1))
    · cases ef
/-! calls of built-ins -/
def RefC (K : PySem.W.Frag) (mg : Str → Option Value) (r : List V → Hp → VK → Prop) (F : List Dat → Option Dat) : Prop := ∀ (d : Option Addr) (N : Addr → Prop) (H : Hp) (vs : List V) (xs : List Dat) (z : Dat) (Q : VK), (∀ a, d = some a → N a) → (∀ b, N b → H b ≠ none) →
  RpBs K mg d N H vs xs → F xs = some z → (∀ u H', Same H H' → Rp K mg d N H' u z → Q u H') → r vs H Q
def eB (F : List Dat → Option Dat) (fr : EA) : E := fun env δ => (fr env δ).bind fun r => (F r.1).map fun z => (z, r.2)
theorem re_b {r : List V → Hp → VK → Prop} {F : List Dat → Option Dat} (hr : RefC K mg r F) (ha : RAB K mg tr fr) : RS K mg (tCB r tr) (eB F fr) := by
  intro q σ H env δ z δ' Q k ef kq
  unfold eB at ef
  cases e1 : fr env δ with
  | none => rw [e1] at ef; cases ef
  | some r1 =>
    obtain ⟨ys, δ1⟩ := r1
    rw [e1] at ef
    cases e3 : F ys with
    | none => simp [e3] at ef
    | some z' =>
      simp only [Option.bind_some, e3, Option.map_some, Option.some.injEq, Prod.mk.injEq] at ef
      obtain ⟨rfl, rfl⟩ := ef
      refine ha q σ H env δ ys δ1 _ k e1 fun vs H1 k1 o1 r1 => ?_
      exact hr q.d (NN q σ env) H1 vs ys z' Q o1.dn (fun b => o1.nn) r1 e3 fun u H3 s3 r3 => kq u H3 (k1.trans (.of_same s3)) (o1.grow s3) r3
variable {x id T : String} {p : Pos} {nm : Str}
theorem d_callB {r : List V → Hp → VK → Prop} {F : List Dat → Option Dat} (hc : CallR X (.builtin id) r) (hr : RefC X.K X.mg r F) (hg : Gl X nm) (hm : X.mg nm = none) (hv : bootBuiltins nm = some (.builtin id)) (ha : DAB X (e :: es) tr fr) (hn : nm ≠ "__name__" := by decide) (hdb : (nm == ("__debug__" : Str)) = false := by decide)
    (he : starEach (e :: es) X.env = (false, eval e X.env) :: starEach es X.env := by rfl) (hpl : (backTo pos (starEach es X.env)).any (·.1) = false := by rfl) : DS X (.Call (.Name nm p) (e :: es) [] pos) (tCB r tr) (eB F fr) :=
  ⟨pe_callB hc hg hm hv ha.p hn hdb he hpl, re_b hr ha.r⟩
theorem d_callTy {r : List V → Hp → VK → Prop} {F : List Dat → Option Dat} (hc : CallR X (.type T) r) (hr : RefC X.K X.mg r F) (hg : Gl X nm) (hm : X.mg nm = none) (hv : bootBuiltins nm = some (.type T)) (ha : DAB X (e :: es) tr fr) (hn : nm ≠ "__name__" := by decide) (hdb : (nm == ("__debug__" : Str)) = false := by decide)
    (he : starEach (e :: es) X.env = (false, eval e X.env) :: starEach es X.env := by rfl) (hpl : (backTo pos (starEach es X.env)).any (·.1) = false := by rfl) : DS X (.Call (.Name nm p) (e :: es) [] pos) (tCB r tr) (eB F fr) :=
  ⟨pe_callTy hc hg hm hv ha.p hn hdb he hpl, re_b hr ha.r⟩
/-! calls of own defs -/
abbrev GF := List Dat → List Int → Option (Dat × List Int)
def spG (K : PySem.W.Frag) (mg : Str → Option Value) (n : Nat) (G : GF) : Sp := fun vs H Q _ => ∃ (d : Option Addr) (N : Addr → Prop) (xs : List Dat) (δ : List Int) (y : Dat) (δ' : List Int),
  xs.length = n ∧ (∀ a, d = some a → N a) ∧ (∀ b, N b → H b ≠ none) ∧ DiceAt d H δ ∧ RpA K mg d N H vs xs ∧ G xs δ = some (y, δ') ∧
  ∀ v H', Keep (isD d) H H' → DiceAt d H' δ' → Rp K mg d N H' v y → Q v H'
abbrev FnG (P : Program) (w : World) (K : PySem.W.Frag) (mg : Str → Option Value) (base : Heap) (k : Nat) (f : Addr) (fd : FuncData) (ps : List Str) (G : GF) : Prop := FnOk P w K mg base CX0 k f fd ps (spG K mg ps.length G)
def eCall (G : GF) (n : Nat) (fr : EA) : E := fun env δ => (fr env δ).bind fun r => if r.1.length = n then G r.1 r.2 else none
theorem re_call {n : Nat} {G : GF} {E0' : XK} (ha : RA K mg tr fr) : RS K mg (tCall (spG K mg n G) [] E0' tr) (eCall G n fr) := by
  intro q σ H env δ z δ' Q k ef kq
  unfold eCall at ef
  cases e1 : fr env δ with
  | none => rw [e1] at ef; cases ef
  | some r1 =>
    obtain ⟨ys, δ1⟩ := r1
    rw [e1] at ef
    simp only [Option.bind_some] at ef
    split at ef
    · rename_i hl
      refine ha q σ H env δ ys δ1 _ k e1 fun vs H1 k1 o1 r1 => ?_
      rw [List.append_nil]
      exact ⟨q.d, NN q σ env, ys, δ1, z, δ', hl, o1.dn, fun b => o1.nn, o1.dc, r1, ef, fun v H2 k2 d2 r2 => kq v H2 (k1.trans k2) (o1.step k2 d2) r2⟩
    · cases ef
theorem d_call {kk : Nat} {ff : Addr} {fd : FuncData} {ps : List Str} {G : GF} (F : FnG X.prog X.w X.K X.mg X.base kk ff fd ps G) (hr : Room kk X.A) (hg : Gl X nm) (hm : X.mg nm = some (.ref ff)) (hk : PySem.W.keepIn X.K (.ref ff) = true) (hb : Binds X.K fd ps [])
    (ha : DA X (e :: es) tr fr) (hdb : (nm == ("__debug__" : Str)) = false := by decide) (he : starEach (e :: es) X.env = (false, eval e X.env) :: starEach es X.env := by rfl) (hpl : (backTo pos (starEach es X.env)).any (·.1) = false := by rfl) :
    DS X (.Call (.Name nm p) (e :: es) [] pos) (tCall (spG X.K X.mg ps.length G) [] E0 tr) (eCall G ps.length fr) :=
  ⟨pe_call F hr hg hm hk hb .nil pass0 ha.p hdb he hpl, re_call ha.r⟩
end
end Dl

namespace Dl
open PySem PySem.Spec L2
/-! ### 4. The state changes -/
section
variable {K : PySem.W.Frag} {mg : Str → Option Value} {q : Fm} {H H' : Hp} {σ : St} {env : Ev} {δ δ' : List Int}
theorem get_set_some {α : Type} {l : List α} {i j : Nat} {x y : α} (h : (l.set i x)[j]? = some y) : (i = j ∧ x = y ∧ j < l.length) ∨ (i ≠ j ∧ l[j]? = some y) := by
  by_cases e : i = j
  · subst e
    by_cases hl : i < l.length
    · rw [List.getElem?_set_self hl] at h
      exact .inl ⟨rfl, Option.some.inj h, hl⟩
    · rw [List.getElem?_eq_none (by simpa using hl)] at h
      cases h
  · rw [List.getElem?_set_ne e] at h
    exact .inr ⟨e, h⟩
abbrev Fm.withGo (q : Fm) (p : Addr) (l : List Dat) : Fm := { q with go := (p, l) :: q.go }
abbrev Fm.withGh (q : Fm) (vs : List V) (xs : List Dat) : Fm := { q with gv := vs ++ q.gv, gx := xs ++ q.gx }
/-- a slot takes a value -/
theorem NN.set_val {i : Nat} {v : Option V} {x : Slot} (hx : ∀ l, x ≠ .own l) {b : Addr} (h : NN q (σ.set i v) (env.set i x) b) : NN q σ env b := by
  rcases h with h | h | ⟨j, l, h1, h2⟩
  · exact .inl h
  · exact .inr (.inl h)
  · rcases get_set_some h1 with ⟨_, e, _⟩ | ⟨ne, e⟩
    · exact absurd e (hx l)
    · rw [List.getElem?_set_ne ne] at h2
      exact .inr (.inr ⟨j, l, e, h2⟩)
theorem Ok.set (k : Ok K mg q σ H env δ) (i : Nat) {v : V} {x : Dat} (r : Rp K mg q.d (NN q σ env) H v x) : Ok K mg q (σ.set i (some v)) H (env.set i (.val x)) δ := by
  have hN : ∀ b, NN q (σ.set i (some v)) (env.set i (.val x)) b → NN q σ env b ∨ H b = none := fun b z => .inl (z.set_val (fun l e => by cases e))
  refine ⟨k.kp, k.dc, k.dm, k.md, by simp [k.ln], fun j y e => ?_, fun j l e => ?_, fun j1 j2 l l' a e1 e2 e3 e4 => ?_, RpA.keep .refl hN _ _ k.gh, fun a l e => ?_⟩
  · rcases get_set_some e with ⟨rfl, e', hl⟩ | ⟨ne, e'⟩
    · cases e'
      exact ⟨v, List.getElem?_set_self (by rw [k.ln]; exact hl), Rp.keep .refl hN _ _ r⟩
    · obtain ⟨w, e1, r1⟩ := k.vl j y e'
      exact ⟨w, by rw [List.getElem?_set_ne ne]; exact e1, Rp.keep .refl hN _ _ r1⟩
  · rcases get_set_some e with ⟨rfl, e', hl⟩ | ⟨ne, e'⟩
    · cases e'
    · obtain ⟨a, vs, e1, e2, e3, r1⟩ := k.ow j l e'
      exact ⟨a, vs, by rw [List.getElem?_set_ne ne]; exact e1, e2, e3, RpA.keep .refl hN _ _ r1⟩
  · rcases get_set_some e1 with ⟨_, e', _⟩ | ⟨ne1, e1'⟩
    · cases e'
    · rcases get_set_some e2 with ⟨_, e', _⟩ | ⟨ne2, e2'⟩
      · cases e'
      · rw [List.getElem?_set_ne ne1] at e3
        rw [List.getElem?_set_ne ne2] at e4
        exact k.ds j1 j2 l l' a e1' e2' e3 e4
  · obtain ⟨e1, ⟨vs, e3, r1⟩, e4⟩ := k.go a l e
    refine ⟨e1, ⟨vs, e3, RpA.keep .refl hN _ _ r1⟩, fun j l' e5 => ?_⟩
    rcases get_set_some e5 with ⟨_, e', _⟩ | ⟨ne, e5'⟩
    · cases e'
    · rw [List.getElem?_set_ne ne]
      exact e4 j l' e5'
/-- a slot is forgotten -/
theorem Ok.unset (k : Ok K mg q σ H env δ) (i : Nat) : Ok K mg q (σ.set i none) H (env.set i .un) δ := by
  have hN : ∀ b, NN q (σ.set i none) (env.set i .un) b → NN q σ env b ∨ H b = none := fun b z => .inl (z.set_val (fun l e => by cases e))
  refine ⟨k.kp, k.dc, k.dm, k.md, by simp [k.ln], fun j y e => ?_, fun j l e => ?_, fun j1 j2 l l' a e1 e2 e3 e4 => ?_, RpA.keep .refl hN _ _ k.gh, fun a l e => ?_⟩
  · rcases get_set_some e with ⟨rfl, e', hl⟩ | ⟨ne, e'⟩
    · cases e'
    · obtain ⟨w, e1, r1⟩ := k.vl j y e'
      exact ⟨w, by rw [List.getElem?_set_ne ne]; exact e1, Rp.keep .refl hN _ _ r1⟩
  · rcases get_set_some e with ⟨rfl, e', hl⟩ | ⟨ne, e'⟩
    · cases e'
    · obtain ⟨a, vs, e1, e2, e3, r1⟩ := k.ow j l e'
      exact ⟨a, vs, by rw [List.getElem?_set_ne ne]; exact e1, e2, e3, RpA.keep .refl hN _ _ r1⟩
  · rcases get_set_some e1 with ⟨_, e', _⟩ | ⟨ne1, e1'⟩
    · cases e'
    · rcases get_set_some e2 with ⟨_, e', _⟩ | ⟨ne2, e2'⟩
      · cases e'
      · rw [List.getElem?_set_ne ne1] at e3
        rw [List.getElem?_set_ne ne2] at e4
        exact k.ds j1 j2 l l' a e1' e2' e3 e4
  · obtain ⟨e1, ⟨vs, e3, r1⟩, e4⟩ := k.go a l e
    refine ⟨e1, ⟨vs, e3, RpA.keep .refl hN _ _ r1⟩, fun j l' e5 => ?_⟩
    rcases get_set_some e5 with ⟨_, e', _⟩ | ⟨ne, e5'⟩
    · cases e'
    · rw [List.getElem?_set_ne ne]
      exact e4 j l' e5'
theorem NN.go {p : Addr} {l : List Dat} {b : Addr} (h : NN (q.withGo p l) σ env b) : b = p ∨ NN q σ env b := by
  rcases h with h | ⟨l', h⟩ | h
  · exact .inr (.inl h)
  · rcases List.mem_cons.mp h with h | h
    · cases h
      exact .inl rfl
    · exact .inr (.inr (.inl ⟨l', h⟩))
  · exact .inr (.inr (.inr h))
theorem NN.of_go {p : Addr} {l : List Dat} {b : Addr} (h : NN q σ env b) : NN (q.withGo p l) σ env b := by
  rcases h with h | ⟨l', h⟩ | h
  · exact .inl h
  · exact .inr (.inl ⟨l', List.mem_cons_of_mem _ h⟩)
  · exact .inr (.inr h)
/-- a new list that is being filled -/
theorem Ok.pushGo (k : Ok K mg q σ H env δ) {p : Addr} {vs : List V} {l : List Dat} (hp : H p = none) (r : RpA K mg q.d (NN q σ env) H vs l) :
    Ok K mg (q.withGo p l) σ (upd H p (.lst vs)) env δ ∧ ∀ l', (p, l') ∉ q.go := by
  have s := same_fresh (o := .lst vs) hp
  have k' := k.grow s
  have hN : ∀ b, NN (q.withGo p l) σ env b → NN q σ env b ∨ H b = none := fun b z => by
    rcases z.go with rfl | z
    · exact .inr hp
    · exact .inl z
  have hK : Keep (NN q σ env) H (upd H p (.lst vs)) := .of_same s
  refine ⟨⟨k'.kp, k'.dc, k.dm, k.md, k.ln, fun j y e => ?_, fun j l' e => ?_, k.ds, RpA.keep hK hN _ _ k.gh, fun a l' e => ?_⟩, fun l' h => ?_⟩
  · obtain ⟨w, e1, r1⟩ := k.vl j y e
    exact ⟨w, e1, Rp.keep hK hN _ _ r1⟩
  · obtain ⟨a, ws, e1, e2, e3, r1⟩ := k.ow j l' e
    exact ⟨a, ws, e1, e2, s a _ e3, RpA.keep hK hN _ _ r1⟩
  · rcases List.mem_cons.mp e with e | e
    · cases e
      refine ⟨k.free0 hp, ⟨vs, upd_same, RpA.keep hK hN _ _ r⟩, fun j l' e5 e6 => ?_⟩
      obtain ⟨a, ws, e1, e2, e3, r1⟩ := k.ow j l' e5
      rw [e6] at e1
      cases e1
      rw [hp] at e3
      cases e3
    · obtain ⟨e1, ⟨ws, e3, r1⟩, e4⟩ := k.go a l' e
      exact ⟨e1, ⟨ws, s a _ e3, RpA.keep hK hN _ _ r1⟩, e4⟩
  · obtain ⟨_, ⟨ws, e3, _⟩, _⟩ := k.go p l' h
    rw [hp] at e3
    cases e3
/-- it is a value -/
theorem Ok.popGo {p : Addr} {l : List Dat} (k : Ok K mg (q.withGo p l) σ H env δ) (hp : ∀ l', (p, l') ∉ q.go) : Ok K mg q σ H env δ ∧ Rp K mg q.d (NN q σ env) H (.ref p) (.lst l) := by
  have hN : ∀ b, NN q σ env b → NN (q.withGo p l) σ env b ∨ H b = none := fun b z => .inl z.of_go
  refine ⟨⟨k.kp, k.dc, k.dm, k.md, k.ln, fun j y e => ?_, fun j l' e => ?_, k.ds, RpA.keep .refl hN _ _ k.gh, fun a l' e => ?_⟩, ?_⟩
  · obtain ⟨w, e1, r1⟩ := k.vl j y e
    exact ⟨w, e1, Rp.keep .refl hN _ _ r1⟩
  · obtain ⟨a, ws, e1, e2, e3, r1⟩ := k.ow j l' e
    exact ⟨a, ws, e1, e2, e3, RpA.keep .refl hN _ _ r1⟩
  · obtain ⟨e1, ⟨ws, e3, r1⟩, e4⟩ := k.go a l' (List.mem_cons_of_mem _ e)
    exact ⟨e1, ⟨ws, e3, RpA.keep .refl hN _ _ r1⟩, e4⟩
  · obtain ⟨e1, ⟨ws, e3, r1⟩, e4⟩ := k.go p l List.mem_cons_self
    refine .lst e3 (fun z => ?_) (RpA.keep .refl hN _ _ r1)
    rcases z with z | ⟨l', z⟩ | ⟨j, l', z1, z2⟩
    · exact k.md p z e1
    · exact hp l' z
    · exact e4 j l' z1 z2
/-- one item more -/
theorem Ok.growGo {p : Addr} {l : List Dat} {vs : List V} {v : V} {x : Dat} (k : Ok K mg (q.withGo p l) σ H env δ) (hp : ∀ l', (p, l') ∉ q.go) (e : H p = some (.lst vs)) (r : Rp K mg q.d (NN (q.withGo p l) σ env) H v x) :
    Ok K mg (q.withGo p (l ++ [x])) σ (upd H p (.lst (vs ++ [v]))) env δ := by
  obtain ⟨g1, ⟨ws, g3, gr⟩, g4⟩ := k.go p l List.mem_cons_self
  rw [e] at g3
  cases g3
  have pN : NN (q.withGo p l) σ env p := .inr (.inl ⟨l, List.mem_cons_self⟩)
  have dp : q.d ≠ some p := fun z => k.md p (k.dm p z) g1
  have ne : ∀ b o, H b = some o → b ≠ p → upd H p (.lst (vs ++ [v])) b = some o := fun b o h n => by rw [upd_ne n]; exact h
  have hK : Keep (NN (q.withGo p l) σ env) H (upd H p (.lst (vs ++ [v]))) := fun b o h n => by
    refine ne b o h fun z => ?_
    subst z
    rw [e] at h
    cases h
    exact absurd (n pN) (by intro z; cases z)
  have hN : ∀ b, NN (q.withGo p (l ++ [x])) σ env b → NN (q.withGo p l) σ env b ∨ H b = none := fun b z => .inl (by
    rcases z.go with rfl | z
    · exact pN
    · exact z.of_go)
  refine ⟨fun b o h n => ne b o (k.kp b o h n) fun z => by subst z; exact absurd h (by rw [g1]; intro z; cases z), fun a ha => ?_, k.dm, k.md, k.ln, fun j y e => ?_, fun j l' e5 => ?_, k.ds, RpA.keep hK hN _ _ k.gh, fun a l' e5 => ?_⟩
  · exact ne a _ (k.dc a ha) fun z => dp (by rw [← z]; exact ha)
  · obtain ⟨w, e1, r1⟩ := k.vl j y e
    exact ⟨w, e1, Rp.keep hK hN _ _ r1⟩
  · obtain ⟨a, ws, e1, e2, e3, r1⟩ := k.ow j l' e5
    exact ⟨a, ws, e1, e2, ne a _ e3 fun z => g4 j l' e5 (by rw [← z]; exact e1), RpA.keep hK hN _ _ r1⟩
  · rcases List.mem_cons.mp e5 with e5 | e5
    · cases e5
      refine ⟨g1, ⟨_, upd_same, RpA.append (RpA.keep hK hN _ _ gr) (.cons (Rp.keep hK hN _ _ r) .nil)⟩, g4⟩
    · obtain ⟨e1, ⟨ws, e3, r1⟩, e4⟩ := k.go a l' (List.mem_cons_of_mem _ e5)
      exact ⟨e1, ⟨ws, ne a _ e3 fun z => hp l' (by rw [← z]; exact e5), RpA.keep hK hN _ _ r1⟩, e4⟩
/-- it goes to a slot -/
theorem Ok.goOwn {p : Addr} {l : List Dat} (k : Ok K mg (q.withGo p l) σ H env δ) (hp : ∀ l', (p, l') ∉ q.go) (i : Nat) : Ok K mg q (σ.set i (some (.ref p))) H (env.set i (.own l)) δ := by
  obtain ⟨g1, ⟨vs, g3, gr⟩, g4⟩ := k.go p l List.mem_cons_self
  have hN : ∀ b, NN q (σ.set i (some (.ref p))) (env.set i (.own l)) b → NN (q.withGo p l) σ env b ∨ H b = none := fun b z => .inl (by
    rcases z with z | ⟨l', z⟩ | ⟨j, l', z1, z2⟩
    · exact .inl z
    · exact .inr (.inl ⟨l', List.mem_cons_of_mem _ z⟩)
    · rcases get_set_some z1 with ⟨rfl, e', hl⟩ | ⟨ne, z1'⟩
      · rw [List.getElem?_set_self (by rw [k.ln]; exact hl)] at z2
        cases z2
        exact .inr (.inl ⟨l, List.mem_cons_self⟩)
      · rw [List.getElem?_set_ne ne] at z2
        exact .inr (.inr ⟨j, l', z1', z2⟩))
  refine ⟨k.kp, k.dc, k.dm, k.md, by simp [k.ln], fun j y e => ?_, fun j l' e => ?_, fun j1 j2 l1 l2 a e1 e2 e3 e4 => ?_, RpA.keep .refl hN _ _ k.gh, fun a l' e => ?_⟩
  · rcases get_set_some e with ⟨rfl, e', hl⟩ | ⟨ne, e'⟩
    · cases e'
    · obtain ⟨w, e1, r1⟩ := k.vl j y e'
      exact ⟨w, by rw [List.getElem?_set_ne ne]; exact e1, Rp.keep .refl hN _ _ r1⟩
  · rcases get_set_some e with ⟨rfl, e', hl⟩ | ⟨ne, e'⟩
    · cases e'
      exact ⟨p, vs, List.getElem?_set_self (by rw [k.ln]; exact hl), g1, g3, RpA.keep .refl hN _ _ gr⟩
    · obtain ⟨a, ws, e1, e2, e3, r1⟩ := k.ow j l' e'
      exact ⟨a, ws, by rw [List.getElem?_set_ne ne]; exact e1, e2, e3, RpA.keep .refl hN _ _ r1⟩
  · rcases get_set_some e1 with ⟨rfl, e', hl⟩ | ⟨ne1, e1'⟩
    · rw [List.getElem?_set_self (by rw [k.ln]; exact hl)] at e3
      cases e3
      rcases get_set_some e2 with ⟨h, _, _⟩ | ⟨ne2, e2'⟩
      · exact h
      · rw [List.getElem?_set_ne ne2] at e4
        exact absurd e4 (g4 j2 l2 e2')
    · rw [List.getElem?_set_ne ne1] at e3
      rcases get_set_some e2 with ⟨rfl, e', hl⟩ | ⟨ne2, e2'⟩
      · rw [List.getElem?_set_self (by rw [k.ln]; exact hl)] at e4
        cases e4
        exact absurd e3 (g4 j1 l1 e1')
      · rw [List.getElem?_set_ne ne2] at e4
        exact k.ds j1 j2 l1 l2 a e1' e2' e3 e4
  · obtain ⟨e1, ⟨ws, e3, r1⟩, e4⟩ := k.go a l' (List.mem_cons_of_mem _ e)
    refine ⟨e1, ⟨ws, e3, RpA.keep .refl hN _ _ r1⟩, fun j l2 e5 => ?_⟩
    rcases get_set_some e5 with ⟨rfl, e', hl⟩ | ⟨ne, e5'⟩
    · rw [List.getElem?_set_self (by rw [k.ln]; exact hl)]
      intro z
      cases z
      exact hp l' e
    · rw [List.getElem?_set_ne ne]
      exact e4 j l2 e5'
/-- a slot's list changes -/
theorem Ok.ownUpd (k : Ok K mg q σ H env δ) {i : Nat} {a : Addr} {l l' : List Dat} {vs' : List V} (he : env[i]? = some (.own l)) (hs : σ[i]? = some (some (.ref a))) (r : RpA K mg q.d (NN q σ env) H vs' l') :
    Ok K mg q σ (upd H a (.lst vs')) (env.set i (.own l')) δ := by
  obtain ⟨a', vs, s1, g1, g3, gr⟩ := k.ow i l he
  rw [hs] at s1
  cases s1
  have hi : i < env.length := (List.getElem?_eq_some_iff.mp he).1
  have pN : NN q σ env a := .inr (.inr ⟨i, l, he, hs⟩)
  have dp : q.d ≠ some a := fun z => k.md a (k.dm a z) g1
  have ne : ∀ b o, H b = some o → b ≠ a → upd H a (.lst vs') b = some o := fun b o h n => by rw [upd_ne n]; exact h
  have hK : Keep (NN q σ env) H (upd H a (.lst vs')) := fun b o h n => by
    refine ne b o h fun z => ?_
    subst z
    rw [g3] at h
    cases h
    exact absurd (n pN) (by intro z; cases z)
  have hN : ∀ b, NN q σ (env.set i (.own l')) b → NN q σ env b ∨ H b = none := fun b z => .inl (by
    rcases z with z | z | ⟨j, l2, z1, z2⟩
    · exact .inl z
    · exact .inr (.inl z)
    · rcases get_set_some z1 with ⟨rfl, e', hl⟩ | ⟨ne, z1'⟩
      · exact .inr (.inr ⟨i, l, he, z2⟩)
      · exact .inr (.inr ⟨j, l2, z1', z2⟩))
  refine ⟨fun b o h n => ne b o (k.kp b o h n) fun z => by subst z; exact absurd h (by rw [g1]; intro z; cases z), fun b hb => ?_, k.dm, k.md, by simp [k.ln], fun j y e => ?_, fun j l2 e5 => ?_, fun j1 j2 l1 l2 b e1 e2 e3 e4 => ?_, RpA.keep hK hN _ _ k.gh, fun b l2 e5 => ?_⟩
  · exact ne b _ (k.dc b hb) fun z => dp (by rw [← z]; exact hb)
  · rcases get_set_some e with ⟨rfl, e', hl⟩ | ⟨ne, e'⟩
    · cases e'
    · obtain ⟨w, e1, r1⟩ := k.vl j y e'
      exact ⟨w, e1, Rp.keep hK hN _ _ r1⟩
  · rcases get_set_some e5 with ⟨rfl, e', hl⟩ | ⟨ne', e'⟩
    · cases e'
      exact ⟨a, vs', hs, g1, upd_same, RpA.keep hK hN _ _ r⟩
    · obtain ⟨b, ws, e1, e2, e3, r1⟩ := k.ow j l2 e'
      exact ⟨b, ws, e1, e2, ne b _ e3 fun z => ne' (by subst z; exact k.ds i j l l2 b he e' hs e1), RpA.keep hK hN _ _ r1⟩
  · have f : ∀ (j : Nat) (l3 : List Dat), (env.set i (.own l'))[j]? = some (.own l3) → ∃ l4, env[j]? = some (.own l4) := fun j l3 h => by
      rcases get_set_some h with ⟨rfl, e', hl⟩ | ⟨ne', e'⟩
      · exact ⟨l, he⟩
      · exact ⟨l3, e'⟩
    obtain ⟨l3, f1⟩ := f j1 l1 e1
    obtain ⟨l4, f2⟩ := f j2 l2 e2
    exact k.ds j1 j2 l3 l4 b f1 f2 e3 e4
  · obtain ⟨e1, ⟨ws, e3, r1⟩, e4⟩ := k.go b l2 e5
    refine ⟨e1, ⟨ws, ne b _ e3 fun z => ?_, RpA.keep hK hN _ _ r1⟩, fun j l3 e6 => ?_⟩
    · subst z
      exact e4 i l he hs
    · rcases get_set_some e6 with ⟨rfl, e', hl⟩ | ⟨ne', e'⟩
      · exact e4 i l he
      · exact e4 j l3 e'
/-- a slot's list is a value from now on -/
theorem Ok.freeze (k : Ok K mg q σ H env δ) {i : Nat} {l : List Dat} (he : env[i]? = some (.own l)) : Ok K mg q σ H (env.set i (.val (.lst l))) δ := by
  obtain ⟨a, vs, hs, g1, g3, gr⟩ := k.ow i l he
  have sub : ∀ b, NN q σ (env.set i (.val (.lst l))) b → NN q σ env b := fun b z => by
    rcases z with z | z | ⟨j, l2, z1, z2⟩
    · exact .inl z
    · exact .inr (.inl z)
    · rcases get_set_some z1 with ⟨rfl, e', hl⟩ | ⟨ne, z1'⟩
      · cases e'
      · exact .inr (.inr ⟨j, l2, z1', z2⟩)
  have hN : ∀ b, NN q σ (env.set i (.val (.lst l))) b → NN q σ env b ∨ H b = none := fun b z => .inl (sub b z)
  refine ⟨k.kp, k.dc, k.dm, k.md, by simp [k.ln], fun j y e => ?_, fun j l' e => ?_, fun j1 j2 l1 l2 b e1 e2 e3 e4 => ?_, RpA.keep .refl hN _ _ k.gh, fun b l' e => ?_⟩
  · rcases get_set_some e with ⟨rfl, e', hl⟩ | ⟨ne, e'⟩
    · cases e'
      refine ⟨.ref a, hs, .lst g3 (fun z => ?_) (RpA.keep .refl hN _ _ gr)⟩
      rcases z with z | ⟨l', z⟩ | ⟨j, l', z1, z2⟩
      · exact k.md a z g1
      · obtain ⟨_, _, e4⟩ := k.go a l' z
        exact e4 i l he hs
      · rcases get_set_some z1 with ⟨rfl, e', hl⟩ | ⟨ne, z1'⟩
        · cases e'
        · exact ne (k.ds i j l l' a he z1' hs z2)
    · obtain ⟨w, e1, r1⟩ := k.vl j y e'
      exact ⟨w, e1, Rp.keep .refl hN _ _ r1⟩
  · rcases get_set_some e with ⟨rfl, e', hl⟩ | ⟨ne, e'⟩
    · cases e'
    · obtain ⟨b, ws, e1, e2, e3, r1⟩ := k.ow j l' e'
      exact ⟨b, ws, e1, e2, e3, RpA.keep .refl hN _ _ r1⟩
  · rcases get_set_some e1 with ⟨rfl, e', hl⟩ | ⟨ne1, e1'⟩
    · cases e'
    · rcases get_set_some e2 with ⟨rfl, e', hl⟩ | ⟨ne2, e2'⟩
      · cases e'
      · exact k.ds j1 j2 l1 l2 b e1' e2' e3 e4
  · obtain ⟨e1, ⟨ws, e3, r1⟩, e4⟩ := k.go b l' e
    refine ⟨e1, ⟨ws, e3, RpA.keep .refl hN _ _ r1⟩, fun j l2 e5 => ?_⟩
    rcases get_set_some e5 with ⟨rfl, e', hl⟩ | ⟨ne, e5'⟩
    · cases e'
    · exact e4 j l2 e5'
/-- ghosts -/
theorem Ok.pushGh (k : Ok K mg q σ H env δ) {vs : List V} {xs : List Dat} (r : RpA K mg q.d (NN q σ env) H vs xs) : Ok K mg (q.withGh vs xs) σ H env δ :=
  ⟨k.kp, k.dc, k.dm, k.md, k.ln, k.vl, k.ow, k.ds, RpA.append r k.gh, k.go⟩
theorem RpA.split {d : Option Addr} {N : Addr → Prop} : ∀ {vs ws : List V} {xs ys : List Dat}, vs.length = xs.length → RpA K mg d N H (vs ++ ws) (xs ++ ys) → RpA K mg d N H vs xs ∧ RpA K mg d N H ws ys
  | [], _, [], _, _, h => ⟨.nil, h⟩
  | v :: vs, _, x :: xs, _, e, h => by
    cases h with
    | cons h1 h2 =>
      obtain ⟨a, b⟩ := RpA.split (vs := vs) (xs := xs) (by simpa using e) h2
      exact ⟨.cons h1 a, b⟩
  | [], _, _ :: _, _, e, _ => by simp at e
  | _ :: _, _, [], _, e, _ => by simp at e
theorem Ok.popGh {vs : List V} {xs : List Dat} (hl : vs.length = xs.length) (k : Ok K mg (q.withGh vs xs) σ H env δ) : Ok K mg q σ H env δ ∧ RpA K mg q.d (NN q σ env) H vs xs := by
  obtain ⟨r1, r2⟩ := RpA.split hl k.gh
  exact ⟨⟨k.kp, k.dc, k.dm, k.md, k.ln, k.vl, k.ow, k.ds, r2, k.go⟩, r1⟩
end
end Dl

namespace Dl
open PySem PySem.Spec L2
/-! ### 5. Statements -/
inductive Out where
  | nx (env : Ev) (δ : List Int) | rt (x : Dat) (δ : List Int) | bk (env : Ev) (δ : List Int) | ct (env : Ev) (δ : List Int)
abbrev Sg := Ev → List Int → Option Out
def EOk (K : PySem.W.Frag) (mg : Str → Option Value) (q : Fm) (D : Ends) : Out → Prop
  | .nx env δ => ∀ σ H, Ok K mg q σ H env δ → D.nx σ H
  | .bk env δ => ∀ σ H, Ok K mg q σ H env δ → D.bk σ H
  | .ct env δ => ∀ σ H, Ok K mg q σ H env δ → D.ct σ H
  | .rt x δ => ∀ v H, Keep (isD q.d) q.H0 H → DiceAt q.d H δ → Rp K mg q.d q.M H v x → D.rt v H
def RSt (K : PySem.W.Frag) (mg : Str → Option Value) (t : TS) (g : Sg) : Prop := ∀ (q : Fm) (σ : St) (H : Hp) (env : Ev) (δ : List Int) (o : Out) (D : Ends), Ok K mg q σ H env δ → g env δ = some o → EOk K mg q D o → t D σ H
structure DSt (X : Cx) (st : Stmt) (t : TS) (g : Sg) : Prop where
  p : PS X st t
  r : RSt X.K X.mg t g
structure DSs (X : Cx) (st : List Stmt) (t : TS) (g : Sg) : Prop where
  p : PSs X st t
  r : RSt X.K X.mg t g
section
variable {X : Cx} {st : Stmt} {sts : List Stmt} {e a b c : Expr} {es : List Expr} {t u : TS} {ta tb te : TE} {tc : TT} {f : E} {fc : ET} {g g1 g2 : Sg} {pos : Pos} {K : PySem.W.Frag} {mg : Str → Option Value}
def gNext : Sg := fun env δ => some (.nx env δ)
def gSeq (g1 g2 : Sg) : Sg := fun env δ => (g1 env δ).bind fun o => match o with
  | .nx env' δ' => g2 env' δ'
  | o => some o
theorem rs_next : RSt K mg tNext gNext := by
  intro q σ H env δ o D k ef ko
  cases ef
  exact ko σ H k
theorem rs_seq (h1 : RSt K mg t g1) (h2 : RSt K mg u g2) : RSt K mg (tSeq t u) (gSeq g1 g2) := by
  intro q σ H env δ o D k ef ko
  unfold gSeq at ef
  cases e1 : g1 env δ with
  | none => rw [e1] at ef; cases ef
  | some o1 =>
    rw [e1] at ef
    cases o1 with
    | nx env' δ' => exact h1 q σ H env δ _ { D with nx := u D } k e1 fun σ' H' k' => h2 q σ' H' env' δ' o D k' ef ko
    | rt x δ' =>
      cases ef
      exact h1 q σ H env δ _ { D with nx := u D } k e1 ko
    | bk env' δ' =>
      cases ef
      exact h1 q σ H env δ _ { D with nx := u D } k e1 ko
    | ct env' δ' =>
      cases ef
      exact h1 q σ H env δ _ { D with nx := u D } k e1 ko
theorem d_nil : DSs X [] tNext gNext := ⟨pss_nil, rs_next⟩
theorem d_cons (h1 : DSt X st t g1) (h2 : DSs X sts u g2) : DSs X (st :: sts) (tSeq t u) (gSeq g1 g2) := ⟨pss_cons h1.p h2.p, rs_seq h1.r h2.r⟩
theorem d_last (h1 : DSt X st t g1) : DSs X [st] t g1 := ⟨pss_one h1.p, h1.r⟩
theorem d_pass : DSt X (.Pass pos) tNext gNext := ⟨ps_pass, rs_next⟩
def gBreak : Sg := fun env δ => some (.bk env δ)
def gCont : Sg := fun env δ => some (.ct env δ)
theorem d_break : DSt X (.Break pos) tBreak gBreak := ⟨ps_break, fun q σ H env δ o D k ef ko => by cases ef; exact ko σ H k⟩
theorem d_cont : DSt X (.Continue pos) tCont gCont := ⟨ps_continue, fun q σ H env δ o D k ef ko => by cases ef; exact ko σ H k⟩
/-! return -/
theorem Ok.ret {q : Fm} {σ : St} {H : Hp} {env : Ev} {δ : List Int} {D : Ends} {v : V} {x : Dat} (k : Ok K mg q σ H env δ) (ko : EOk K mg q D (.rt x δ)) (r : Rp K mg q.d (NN q σ env) H v x) : D.rt v H :=
  ko v H k.kp k.dc (Rp.keep .refl (fun b z => .inl (.inl z)) _ _ r)
def gRet (f : E) : Sg := fun env δ => (f env δ).map fun r => .rt r.1 r.2
theorem d_ret (he : DS X e te f) : DSt X (.Return (some e) pos) (tRet te) (gRet f) := by
  refine ⟨ps_ret he.p, fun q σ H env δ o D k ef ko => ?_⟩
  unfold gRet at ef
  cases e1 : f env δ with
  | none => rw [e1] at ef; cases ef
  | some r1 =>
    rw [e1] at ef
    cases ef
    exact he.r q σ H env δ r1.1 r1.2 _ k e1 fun v H1 k1 o1 r => o1.ret ko r
def gRetOwn (i : Nat) : Sg := fun env δ => match env[i]? with
  | some (.own l) => some (.rt (.lst l) δ)
  | _ => none
theorem d_retOwn (i : Nat) (he : PE X e (tVar i)) : DSt X (.Return (some e) pos) (tRet (tVar i)) (gRetOwn i) := by
  refine ⟨ps_ret he, fun q σ H env δ o D k ef ko => ?_⟩
  unfold gRetOwn at ef
  split at ef
  · rename_i l hy
    cases ef
    obtain ⟨a, vs, e1, g1, e3, r⟩ := k.ow i _ hy
    exact ⟨.ref a, e1, ko _ _ k.kp k.dc (.lst e3 (fun z => k.md a z g1) (RpA.keep .refl (fun b z => .inl (.inl z)) _ _ r))⟩
  · cases ef
def gRetN : Sg := fun _ δ => some (.rt .non δ)
theorem d_retN : DSt X (.Return none pos) tRetN gRetN := ⟨ps_retN, fun q σ H env δ o D k ef ko => by cases ef; exact k.ret ko .non⟩
/-! if -/
def gIf (c : ET) (g1 g2 : Sg) : Sg := fun env δ => (c env δ).bind fun r => if r.1 = true then g1 env r.2 else g2 env r.2
theorem d_if {s1 s2 : List Stmt} (hc : DT X c tc fc) (h1 : DSs X s1 t g1) (h2 : DSs X s2 u g2) : DSt X (.If c s1 s2 pos) (tIfS tc t u) (gIf fc g1 g2) := by
  refine ⟨ps_if hc.p h1.p h2.p, fun q σ H env δ o D k ef ko => ?_⟩
  unfold gIf at ef
  cases e1 : fc env δ with
  | none => rw [e1] at ef; cases ef
  | some r1 =>
    obtain ⟨x, δ1⟩ := r1
    rw [e1] at ef
    refine hc.r q σ H env δ x δ1 _ k e1 fun H1 k1 o1 => ?_
    cases x with
    | true => exact h1.r q σ H1 env δ1 o D o1 ef ko
    | false => exact h2.r q σ H1 env δ1 o D o1 ef ko
/-! targets -/
abbrev GT := Dat → Ev → Option Ev
abbrev GTs := List Dat → Ev → Option Ev
/-- alike but at ts -/
def Ag {α : Type} (ts : List Nat) (l l' : List α) : Prop := l'.length = l.length ∧ ∀ j, j ∉ ts → l'[j]? = l[j]?
theorem Ag.refl {α : Type} {ts : List Nat} {l : List α} : Ag ts l l := ⟨rfl, fun _ _ => rfl⟩
theorem Ag.set {α : Type} {l : List α} {i : Nat} {x : α} : Ag [i] l (l.set i x) := ⟨by simp, fun j hj => List.getElem?_set_ne fun e => hj (by simp [e])⟩
theorem Ag.trans {α : Type} {ts us : List Nat} {l l1 l2 : List α} (a : Ag ts l l1) (b : Ag us l1 l2) : Ag (ts ++ us) l l2 :=
  ⟨b.1.trans a.1, fun j hj => (b.2 j fun z => hj (List.mem_append_right _ z)).trans (a.2 j fun z => hj (List.mem_append_left _ z))⟩
def RG (K : PySem.W.Frag) (mg : Str → Option Value) (t : TG) (g : GT) (ts : List Nat) : Prop := ∀ (q : Fm) (σ : St) (H : Hp) (env : Ev) (δ : List Int) (v : V) (x : Dat) (env' : Ev) (Q : St → Hp → Prop), Ok K mg q σ H env δ → Rp K mg q.d (NN q σ env) H v x → g x env = some env' → (∀ σ', Ag ts σ σ' → Ag ts env env' → Ok K mg q σ' H env' δ → Q σ' H) → t v σ H Q
def RGs (K : PySem.W.Frag) (mg : Str → Option Value) (t : TGs) (g : GTs) (ts : List Nat) : Prop := ∀ (q : Fm) (σ : St) (H : Hp) (env : Ev) (δ : List Int) (vs : List V) (xs : List Dat) (env' : Ev) (Q : St → Hp → Prop), Ok K mg q σ H env δ → RpA K mg q.d (NN q σ env) H vs xs → g xs env = some env' → (∀ σ', Ag ts σ σ' → Ag ts env env' → Ok K mg q σ' H env' δ → Q σ' H) → t vs σ H Q
structure DG (X : Cx) (e : Expr) (t : TG) (g : GT) (ts : List Nat) : Prop where
  p : PG X e t
  r : RG X.K X.mg t g ts
structure DGs (X : Cx) (es : List Expr) (t : TGs) (g : GTs) (ts : List Nat) : Prop where
  p : PGs X es t
  r : RGs X.K X.mg t g ts
def tgName (i : Nat) : GT := fun x env => some (env.set i (.val x))
theorem rg_name (i : Nat) : RG K mg (gName i) (tgName i) [i] := by
  intro q σ H env δ v x env' Q k r ef kq
  cases ef
  exact kq _ .set .set (k.set i r)
theorem d_gname (i : Nat) (h : PG X e (gName i)) : DG X e (gName i) (tgName i) [i] := ⟨h, rg_name i⟩
def tgNil : GTs := fun xs env => match xs with
  | [] => some env
  | _ => none
/-- several targets: the later items are read ahead of the first store -/
def tgCons (g : GT) (gs : GTs) : GTs := fun xs env => match xs with
  | x :: xs => (g x env).bind fun env' => gs xs env'
  | [] => none
theorem d_gnil : DGs X [] gNil tgNil [] := ⟨pgs_nil, fun q σ H env δ vs xs env' Q k r ef kq => by
  cases r with
  | nil => cases ef; exact ⟨rfl, kq _ .refl .refl k⟩
  | cons _ _ => cases ef⟩
theorem d_gcons {tg : TG} {gd : GT} {tgs : TGs} {gds : GTs} {ts us : List Nat} (h1 : DG X e tg gd ts) (h2 : DGs X es tgs gds us) (hs : (assignEach (e :: es) X.env).map (·.2) = assign e X.env :: (assignEach es X.env).map (·.2) := by rfl) : DGs X (e :: es) (gCons tg tgs) (tgCons gd gds) (ts ++ us) := by
  refine ⟨pgs_cons h1.p h2.p hs, fun q σ H env δ vs xs env' Q k r ef kq => ?_⟩
  cases r with
  | nil => cases ef
  | cons r1 r2 =>
    rename_i v vs x xs
    refine ⟨v, vs, rfl, ?_⟩
    have ef' : ((gd x env).bind fun env' => gds xs env') = some env' := ef
    cases e1 : gd x env with
    | none => rw [e1] at ef'; cases ef'
    | some env1 =>
      rw [e1] at ef'
      refine h1.r (q.withGh vs xs) σ H env δ v x env1 _ (k.pushGh r2) r1 e1 fun σ1 a1 b1 k1 => ?_
      obtain ⟨k2, r3⟩ := k1.popGh r2.length
      exact h2.r q σ1 H env1 δ vs xs env' Q k2 r3 ef' fun σ2 a2 b2 k3 => kq σ2 (a1.trans a2) (b1.trans b2) k3
def tgTup (n : Nat) (gs : GTs) : GT := fun x env => match x with
  | .tup xs => if xs.length = n then gs xs env else none
  | _ => none
theorem d_gtup {kk n : Nat} {tgs : TGs} {gds : GTs} {ts : List Nat} (hc : X.calm = true) (h : DGs X es tgs gds ts) (hn : (assignEach es X.env).length = n := by rfl) (hst : (assignEach es X.env).findIdx? (·.1) = none := by rfl) :
    DG X (.Tuple es kk pos) (gTup X.K n tgs) (tgTup n gds) ts := by
  refine ⟨pg_tup hc h.p hn hst, fun q σ H env δ v x env' Q k r ef kq => ?_⟩
  cases x with
  | tup xs =>
    have ef' : (if xs.length = n then gds xs env else none) = some env' := ef
    split at ef'
    · rename_i hl
      cases r with
      | tup h1 h2 => exact ⟨_, _, rfl, h1, by rw [h2.length]; exact hl, h.r q σ H env δ _ xs env' Q k h2 ef' kq⟩
    · cases ef'
  | _ => cases ef
/-! assignments -/
def gAsg (gd : GT) (f : E) : Sg := fun env δ => (f env δ).bind fun r => (gd r.1 env).map fun env' => .nx env' r.2
theorem rs_asg {tg : TG} {gd : GT} {ts : List Nat} (he : RS K mg te f) (hg : RG K mg tg gd ts) : RSt K mg (tAsg te tg) (gAsg gd f) := by
  intro q σ H env δ o D k ef ko
  unfold gAsg at ef
  cases e1 : f env δ with
  | none => rw [e1] at ef; cases ef
  | some r1 =>
    obtain ⟨x, δ1⟩ := r1
    rw [e1] at ef
    cases e2 : gd x env with
    | none => simp [e2] at ef
    | some env' =>
      simp only [Option.bind_some, e2, Option.map_some, Option.some.injEq] at ef
      subst ef
      exact he q σ H env δ x δ1 _ k e1 fun v H1 k1 o1 r => hg q σ H1 env δ1 v x env' _ o1 r e2 fun σ' _ _ k2 => ko σ' H1 k2
theorem d_asg {tg : TG} {gd : GT} {x : Expr} {ts : List Nat} (he : DS X e te f) (hg : DG X x tg gd ts) (hs : swapsWithSole [x] e pos.line X.env = pure false := by rfl) (hw : swappedStores [x] e X.env = pure none := by rfl)
    (h1 : (assignEach [x] X.env).map (·.2) = [assign x X.env] := by rfl) : DSt X (.Assign [x] e pos) (tAsg te tg) (gAsg gd f) := ⟨ps_asg he.p hg.p hs hw h1, rs_asg he.r hg.r⟩
theorem d_set (i : Nat) {x : Expr} (he : DS X e te f) (h : ∀ {te : TE}, PE X e te → PS X (.Assign [x] e pos) (tAsg te (gName i))) : DSt X (.Assign [x] e pos) (tAsg te (gName i)) (gAsg (tgName i) f) := ⟨h he.p, rs_asg he.r (rg_name i)⟩
/-! lists that are filled -/
def RF (K : PySem.W.Frag) (mg : Str → Option Value) (t : TE) (f : EA) : Prop := ∀ (q : Fm) (σ : St) (H : Hp) (env : Ev) (δ : List Int) (l : List Dat) (δ' : List Int) (Q : VK), Ok K mg q σ H env δ → f env δ = some (l, δ') →
  (∀ p H', Keep (isD q.d) H H' → (∀ l', (p, l') ∉ q.go) → Ok K mg (q.withGo p l) σ H' env δ' → Q (.ref p) H') → t σ H Q
structure DF (X : Cx) (e : Expr) (t : TE) (f : EA) : Prop where
  p : PE X e t
  r : RF X.K X.mg t f
def eF (f : EA) : E := fun env δ => (f env δ).map fun r => (.lst r.1, r.2)
theorem DF.s {fa : EA} (h : DF X e te fa) : DS X e te (eF fa) := by
  refine ⟨h.p, fun q σ H env δ x δ' Q k ef kq => ?_⟩
  unfold eF at ef
  cases e1 : fa env δ with
  | none => rw [e1] at ef; cases ef
  | some r1 =>
    rw [e1] at ef
    cases ef
    refine h.r q σ H env δ r1.1 r1.2 _ k e1 fun p H1 k1 hp o1 => ?_
    obtain ⟨o2, r⟩ := o1.popGo hp
    exact kq _ H1 k1 o2 r
def fLst (fr : EA) : EA := fun env δ => (fr env δ).bind fun r => if r.1.length < 1000000 then some r else none
theorem d_lstF {tr : TA} {fr : EA} (hr : DA X es tr fr) : DF X (.List es pos) (tLst tr) (fLst fr) := by
  refine ⟨pe_lst hr.p, fun q σ H env δ x δ' Q k ef kq => ?_⟩
  unfold fLst at ef
  cases e1 : fr env δ with
  | none => rw [e1] at ef; cases ef
  | some r1 =>
    obtain ⟨ys, δ1⟩ := r1
    rw [e1] at ef
    simp only [Option.bind_some] at ef
    split at ef
    · rename_i hl
      cases ef
      refine hr.r q σ H env δ _ _ _ k e1 fun vs H1 k1 o1 r1 => ⟨by rw [r1.length]; exact le_line hl, fun p hp => ?_⟩
      obtain ⟨o2, h2⟩ := o1.pushGo hp r1
      exact kq p _ (k1.trans (.fresh hp)) h2 o2
    · cases ef
def gOwn (i : Nat) (fa : EA) : Sg := fun env δ => (fa env δ).map fun r => .nx (env.set i (.own r.1)) r.2
theorem d_own (i : Nat) {x : Expr} {fa : EA} (he : DF X e te fa) (h : ∀ {te : TE}, PE X e te → PS X (.Assign [x] e pos) (tAsg te (gName i))) : DSt X (.Assign [x] e pos) (tAsg te (gName i)) (gOwn i fa) := by
  refine ⟨h he.p, fun q σ H env δ o D k ef ko => ?_⟩
  unfold gOwn at ef
  cases e1 : fa env δ with
  | none => rw [e1] at ef; cases ef
  | some r1 =>
    rw [e1] at ef
    cases ef
    exact he.r q σ H env δ r1.1 r1.2 _ k e1 fun p H1 k1 hp o1 => ko _ H1 (o1.goOwn hp i)
def gAppend (i : Nat) (f : E) : Sg := fun env δ => (f env δ).bind fun r => match env[i]? with
  | some (.own l) => if l.length < 1000000 then some (.nx (env.set i (.own (l ++ [r.1]))) r.2) else none
  | _ => none
theorem d_append (i : Nat) (he : DS X e te f) (h : ∀ {tr : TA}, PA X [e] tr → PS X st (tDrop (tBM X.K "list" rAppend (tVar i) tr))) (hs : starEach [e] X.env = (false, eval e X.env) :: starEach [] X.env := by rfl) : DSt X st (tDrop (tBM X.K "list" rAppend (tVar i) (tCons te tNil))) (gAppend i f) := by
  refine ⟨h (pa_cons he.p pa_nil hs), fun q σ H env δ o D k ef ko => ?_⟩
  unfold gAppend at ef
  cases e1 : f env δ with
  | none => rw [e1] at ef; cases ef
  | some r1 =>
    obtain ⟨y, δ1⟩ := r1
    rw [e1] at ef
    simp only [Option.bind_some] at ef
    split at ef
    · rename_i l hl
      split at ef
      · rename_i hz
        cases ef
        obtain ⟨a, vs, s1, g1, g3, gr⟩ := k.ow i l hl
        refine ⟨.ref a, s1, .inl ⟨rfl, vs, .of g3⟩, ?_⟩
        refine he.r q σ H env δ y _ _ k e1 fun v H1 k1 o1 r => ?_
        obtain ⟨a', vs', s1', g1', g3', gr'⟩ := o1.ow i l hl
        rw [s1] at s1'
        cases s1'
        refine ⟨a, vs', v, rfl, rfl, g3', by rw [gr'.length]; exact lt_line hz, ?_⟩
        exact ko σ _ (o1.ownUpd hl s1 (gr'.append (.cons r .nil)))
      · cases ef
    · cases ef
theorem RpA.dropLast {d : Option Addr} {N : Addr → Prop} {H : Hp} {vs : List V} {xs : List Dat} (h : RpA K mg d N H vs xs) : RpA K mg d N H vs.dropLast xs.dropLast := by
  rw [List.dropLast_eq_take, List.dropLast_eq_take, h.length]
  exact RpA.take _ h
/-- x.pop() -/
def gPop (i : Nat) : Sg := fun env δ => match env[i]? with
  | some (.own l) => if l = [] then none else some (.nx (env.set i (.own l.dropLast)) δ)
  | _ => none
theorem gPop_eq (i : Nat) : gPop i = fun env δ => match env[i]? with
  | some (.own []) => none
  | some (.own (y :: l)) => some (.nx (env.set i (.own (y :: l).dropLast)) δ)
  | _ => none := by
  funext env δ
  unfold gPop
  split
  · rename_i l h
    cases l <;> simp [h]
  · rename_i h
    split
    · rename_i h2; exact absurd h2 (h _)
    · rename_i h2; exact absurd h2 (h _)
    · rfl
theorem d_pop (i : Nat) (h : PS X st (tDrop (tBM0 X.K "list" rPop (tVar i)))) : DSt X st (tDrop (tBM0 X.K "list" rPop (tVar i))) (gPop i) := by
  refine ⟨h, fun q σ H env δ o D k ef ko => ?_⟩
  unfold gPop at ef
  split at ef
  · rename_i l hl
    split at ef
    · cases ef
    · rename_i hne
      cases ef
      obtain ⟨a, vs, s1, g1, g3, gr⟩ := k.ow i l hl
      have hlen := gr.length
      have hpos : 0 < vs.length := by
        rw [hlen]
        exact List.length_pos_iff.mpr hne
      exact ⟨.ref a, s1, .inl ⟨rfl, vs, .of g3⟩, a, vs, vs[vs.length - 1], rfl, rfl, g3, List.getElem?_eq_getElem (by omega), ko σ _ (k.ownUpd hl s1 gr.dropLast)⟩
  · cases ef
/-- from here on a value -/
def gFreeze (i : Nat) (g : Sg) : Sg := fun env δ => match env[i]? with
  | some (.own l) => g (env.set i (.val (.lst l))) δ
  | _ => none
theorem d_freeze (i : Nat) (h : DSs X sts t g) : DSs X sts t (gFreeze i g) := by
  refine ⟨h.p, fun q σ H env δ o D k ef ko => ?_⟩
  unfold gFreeze at ef
  split at ef
  · rename_i l hl
    exact h.r q σ H _ δ o D (k.freeze hl) ef ko
  · cases ef
/-! while -/
def whileD (c : ET) (b : Sg) : Nat → Sg
  | 0 => fun _ _ => none
  | n + 1 => fun env δ => (c env δ).bind fun r => if r.1 = true then (b env r.2).bind fun o => match o with
      | .nx env' δ' => whileD c b n env' δ'
      | .ct env' δ' => whileD c b n env' δ'
      | .bk env' δ' => some (.nx env' δ')
      | .rt x δ' => some (.rt x δ')
    else some (.nx env r.2)
theorem d_while (n : Nat) {body : List Stmt} (hp : PassesOwn (model X.prog X.w) X.A X.env X.xe) (hc : DT X c tc fc) (hb : DSs X body t g) : DSt X (.While c body [] pos) (tWhile tc t) (whileD fc g n) := by
  refine ⟨ps_while hp hc.p hb.p, fun q σ H env δ o D k ef ko => ?_⟩
  refine ⟨fun m σ H => ∃ env δ, Ok X.K X.mg q σ H env δ ∧ whileD fc g m env δ = some o, ⟨n, env, δ, k, ef⟩, fun m σ H ⟨env, δ, k, ef⟩ => ?_⟩
  cases m with
  | zero => cases ef
  | succ m =>
    unfold whileD at ef
    cases e1 : fc env δ with
    | none => rw [e1] at ef; cases ef
    | some r1 =>
      obtain ⟨x, δ1⟩ := r1
      rw [e1] at ef
      refine hc.r q σ H env δ x δ1 _ k e1 fun H1 k1 o1 => ?_
      cases x with
      | false =>
        cases ef
        exact ko σ H1 o1
      | true =>
        simp only [Option.bind_some, if_true] at ef
        rw [if_pos rfl]
        refine ⟨fun σ' H' => ∃ env δ, Ok X.K X.mg q σ' H' env δ ∧ whileD fc g m env δ = some o, fun σ' H' h => ⟨m, Nat.lt_succ_self m, h⟩, ?_⟩
        cases e2 : g env δ1 with
        | none => rw [e2] at ef; cases ef
        | some o2 =>
          rw [e2] at ef
          refine hb.r q σ H1 env δ1 o2 _ o1 e2 ?_
          cases o2 with
          | nx env' δ' => exact fun σ' H' k' => ⟨env', δ', k', ef⟩
          | ct env' δ' => exact fun σ' H' k' => ⟨env', δ', k', ef⟩
          | bk env' δ' =>
            cases ef
            exact ko
          | rt x δ' =>
            cases ef
            exact ko
/-! what a for walks -/
structure Src (K : PySem.W.Frag) (mg : Str → Option Value) (d : Option Addr) (J : It) (gv : List V) (gx : List Dat) (xs : List Dat) : Prop where
  len : gv.length = gx.length
  go : ∀ N H i, RpA K mg d N H gv gx → i < xs.length → J.go i H
  stop : ∀ N H, RpA K mg d N H gv gx → J.stop xs.length H
  yld : ∀ N H i v H', RpA K mg d N H gv gx → J.yld i H v H' → Same H H' ∧ ∀ x, xs[i]? = some x → Rp K mg d N H' v x
def RI (K : PySem.W.Frag) (mg : Str → Option Value) (wi : TI) (f : EA) : Prop := ∀ (q : Fm) (σ : St) (H : Hp) (env : Ev) (δ : List Int) (xs : List Dat) (δ' : List Int) (R : It → Hp → Prop), Ok K mg q σ H env δ → f env δ = some (xs, δ') →
  (∀ J H' gv gx, Keep (isD q.d) H H' → Src K mg q.d J gv gx xs → Ok K mg (q.withGh gv gx) σ H' env δ' → R J H') → wi σ H R
structure DI (X : Cx) (tg iter : Expr) (wi : TI) (f : EA) : Prop where
  p : PI X tg iter wi
  r : RI X.K X.mg wi f
variable {tg : Expr} {wi : TI} {fi : EA}
def iLst (f : E) : EA := fun env δ => (f env δ).bind fun r => match r.1 with
  | .lst xs => some (xs, r.2)
  | _ => none
theorem d_ilist (he : DS X e te f) : DI X tg e (iList X.K te) (iLst f) := by
  refine ⟨pi_list he.p, fun q σ H env δ xs δ' R k ef kr => ?_⟩
  unfold iLst at ef
  cases e1 : f env δ with
  | none => rw [e1] at ef; cases ef
  | some r1 =>
    obtain ⟨x, δ1⟩ := r1
    rw [e1] at ef
    cases x with
    | lst ys =>
      cases ef
      refine he.r q σ H env δ (.lst xs) _ _ k e1 fun v H1 k1 o1 r => ?_
      cases r with
      | lst h1 h2 h3 =>
        rename_i a vs
        refine ⟨a, rfl, ⟨vs, .of h1⟩, kr _ H1 [.ref a] [.lst xs] k1 ⟨rfl, fun N H i h hi => ?_, fun N H h => ?_, fun N H i v H' h y => ?_⟩ (o1.pushGh (.cons (.lst h1 h2 h3) .nil))⟩
        · cases h with
          | cons h _ =>
            cases h with
            | lst g1 g2 g3 =>
              obtain ⟨v, e1, _⟩ := g3.get (List.getElem?_eq_getElem hi)
              exact ⟨_, v, .of g1, e1⟩
        · cases h with
          | cons h _ =>
            cases h with
            | lst g1 g2 g3 => exact ⟨_, .of g1, by rw [g3.length]; exact Nat.le_refl _⟩
        · obtain ⟨rfl, y⟩ := y
          refine ⟨same_refl, fun x hx => ?_⟩
          cases h with
          | cons h _ =>
            cases h with
            | lst g1 g2 g3 =>
              obtain ⟨w, e1, r⟩ := g3.get hx
              rw [y _ (.of g1)] at e1
              cases e1
              exact r
    | _ => cases ef
def iTupD (f : E) : EA := fun env δ => (f env δ).bind fun r => match r.1 with
  | .tup xs => some (xs, r.2)
  | _ => none
theorem d_ituple (he : DE X e te f) : DI X tg e (iTup X.K te) (iTupD f) := by
  refine ⟨pi_tup he.p, fun q σ H env δ xs δ' R k ef kr => ?_⟩
  unfold iTupD at ef
  cases e1 : f env δ with
  | none => rw [e1] at ef; cases ef
  | some r1 =>
    obtain ⟨x, δ1⟩ := r1
    rw [e1] at ef
    cases x with
    | tup ys =>
      cases ef
      refine he.r q σ H env δ (.tup xs) _ _ k e1 fun v H1 k1 o1 r => ?_
      cases r with
      | tup h1 h3 =>
        rename_i a vs
        refine ⟨a, rfl, ⟨vs, h1⟩, kr _ H1 [.ref a] [.tup xs] k1 ⟨rfl, fun N H i h hi => ?_, fun N H h => ?_, fun N H i v H' h y => ?_⟩ (o1.pushGh (.cons (.tup h1 h3) .nil))⟩
        · cases h with
          | cons h _ =>
            cases h with
            | tup g1 g3 =>
              obtain ⟨v, e1, _⟩ := g3.get (List.getElem?_eq_getElem hi)
              exact ⟨_, v, g1, e1⟩
        · cases h with
          | cons h _ =>
            cases h with
            | tup g1 g3 => exact ⟨_, g1, by rw [g3.length]; exact Nat.le_refl _⟩
        · obtain ⟨rfl, y⟩ := y
          refine ⟨same_refl, fun x hx => ?_⟩
          cases h with
          | cons h _ =>
            cases h with
            | tup g1 g3 =>
              obtain ⟨w, e1, r⟩ := g3.get hx
              rw [y _ g1] at e1
              cases e1
              exact r
    | _ => cases ef
def iStrD (f : E) : EA := fun env δ => (f env δ).bind fun r => match r.1 with
  | .str z => some (z.cps.toList.map fun c => .str ⟨#[c]⟩, r.2)
  | _ => none
theorem d_istr (he : DE X e te f) : DI X tg e (iStr te) (iStrD f) := by
  refine ⟨pi_str he.p, fun q σ H env δ xs δ' R k ef kr => ?_⟩
  unfold iStrD at ef
  cases e1 : f env δ with
  | none => rw [e1] at ef; cases ef
  | some r1 =>
    obtain ⟨x, δ1⟩ := r1
    rw [e1] at ef
    cases x with
    | str z =>
      cases ef
      refine he.r q σ H env δ (.str z) _ _ k e1 fun v H1 k1 o1 r => ?_
      cases r
      refine ⟨z, rfl, kr _ H1 [] [] k1 ⟨rfl, fun N H i h hi => ?_, fun N H h => ?_, fun N H i v H' h y => ?_⟩ (o1.pushGh .nil)⟩
      · show i < z.cps.size
        simpa using hi
      · show z.cps.size ≤ _
        simp
      · obtain ⟨rfl, c, hc, rfl⟩ := y
        refine ⟨same_refl, fun x hx => ?_⟩
        rw [List.getElem?_map, Array.getElem?_toList, hc] at hx
        cases hx
        exact .str _
    | _ => cases ef
def rangeD (lo hi : Int) : List Dat := (List.range (hi - lo).toNat).map fun i => .int (lo + (i : Nat))
def bnd (i : Int) : Bool := decide (-(2 ^ 62) ≤ i) && decide (i < 2 ^ 62)
def iR1 (fr : EA) : EA := fun env δ => (fr env δ).bind fun r => match r.1 with
  | [.int j] => if bnd j = true then some (rangeD 0 j, r.2) else none
  | _ => none
def iR2 (fr : EA) : EA := fun env δ => (fr env δ).bind fun r => match r.1 with
  | [.int i, .int j] => if (bnd i && bnd j) = true then some (rangeD i j, r.2) else none
  | _ => none
theorem src_range {d : Option Addr} (lo hi : Int) : Src K mg d (Itr lo (hi - lo).toNat) [] [] (rangeD lo hi) := by
  refine ⟨rfl, fun N H i h hlt => ?_, fun N H h => ?_, fun N H i v H' h y => ?_⟩
  · unfold rangeD at hlt
    rw [List.length_map, List.length_range] at hlt
    exact hlt
  · show (hi - lo).toNat ≤ _
    unfold rangeD
    simp
  · obtain ⟨rfl, rfl⟩ := y
    refine ⟨same_refl, fun x hx => ?_⟩
    unfold rangeD at hx
    rw [List.getElem?_map] at hx
    by_cases hlt : i < (hi - lo).toNat
    · rw [List.getElem?_range hlt] at hx
      cases hx
      exact .int _
    · rw [List.getElem?_eq_none (by rw [List.length_range]; omega)] at hx
      cases hx
variable {p' : Pos} {tr : TA} {fr : EA}
theorem d_irange1 (hg : Gl X "range") (hm : X.mg "range" = none) (ha : DAB X [a] tr fr) (hs : starEach [a] X.env = [(false, eval a X.env)] := by rfl) : DI X tg (.Call (.Name "range" p') [a] [] pos) (iRng1 tr) (iR1 fr) := by
  refine ⟨pi_range1 hg hm ha.p hs, fun q σ H env δ xs δ' R k ef kr => ?_⟩
  unfold iR1 at ef
  cases e1 : fr env δ with
  | none => rw [e1] at ef; cases ef
  | some r1 =>
    obtain ⟨x, δ1⟩ := r1
    rw [e1] at ef
    simp only [Option.bind_some] at ef
    split at ef
    · rename_i j
      split at ef
      · rename_i hb
        cases ef
        unfold bnd at hb
        simp only [Bool.and_eq_true, decide_eq_true_eq] at hb
        refine ha.r q σ H env δ _ _ _ k e1 fun vs H1 k1 o1 r => ?_
        match vs, r with
        | [v], ⟨r, _⟩ =>
          cases r
          refine ⟨j, rfl, hb.1, hb.2, ?_⟩
          have := src_range (K := X.K) (mg := X.mg) (d := q.d) 0 j
          rw [Int.sub_zero] at this
          exact kr _ H1 [] [] k1 this (o1.pushGh .nil)
      · cases ef
    · cases ef
theorem d_irange2 (hg : Gl X "range") (hm : X.mg "range" = none) (ha : DAB X [a, b] tr fr) (hs : starEach [a, b] X.env = [(false, eval a X.env), (false, eval b X.env)] := by rfl) (hs2 : starEach [b] X.env = [(false, eval b X.env)] := by rfl) : DI X tg (.Call (.Name "range" p') [a, b] [] pos) (iRng2 tr) (iR2 fr) := by
  refine ⟨pi_range2 hg hm ha.p hs hs2, fun q σ H env δ xs δ' R k ef kr => ?_⟩
  unfold iR2 at ef
  cases e1 : fr env δ with
  | none => rw [e1] at ef; cases ef
  | some r1 =>
    obtain ⟨x, δ1⟩ := r1
    rw [e1] at ef
    simp only [Option.bind_some] at ef
    split at ef
    · rename_i i j
      split at ef
      · rename_i hb
        cases ef
        unfold bnd at hb
        simp only [Bool.and_eq_true, decide_eq_true_eq] at hb
        refine ha.r q σ H env δ _ _ _ k e1 fun vs H1 k1 o1 r => ?_
        match vs, r with
        | [v, w], ⟨r, r2, _⟩ =>
          cases r
          cases r2
          exact ⟨i, j, rfl, ⟨hb.1.1, hb.1.2, hb.2.1, hb.2.2⟩, kr _ H1 [] [] k1 (src_range i j) (o1.pushGh .nil)⟩
      · cases ef
    · cases ef
/-! for -/
def forD (gd : GT) (b : Sg) : List Dat → Sg
  | [] => fun env δ => some (.nx env δ)
  | x :: xs => fun env δ => (gd x env).bind fun env1 => (b env1 δ).bind fun o => match o with
      | .nx env' δ' => forD gd b xs env' δ'
      | .ct env' δ' => forD gd b xs env' δ'
      | .bk env' δ' => some (.nx env' δ')
      | .rt x δ' => some (.rt x δ')
def gFor (fi : EA) (gd : GT) (b : Sg) : Sg := fun env δ => (fi env δ).bind fun r => forD gd b r.1 env r.2
theorem d_for {tgd : TG} {gd : GT} {ts : List Nat} {body : List Stmt} (hp : PassesOwn (model X.prog X.w) X.A X.env X.xe) (hc : X.calm = true) (hi : DI X tg e wi fi) (hg : DG X tg tgd gd ts) (hb : DSs X body t g)
    (hs : ∀ x, foldedSetIterable e X.env x = pure x := by intro _; rfl) : DSt X (.For tg e body [] pos) (tFor wi tgd t) (gFor fi gd g) := by
  refine ⟨ps_for hp hc hi.p hg.p hb.p hs, fun q σ H env δ o D k ef ko => ?_⟩
  unfold gFor at ef
  cases e1 : fi env δ with
  | none => rw [e1] at ef; cases ef
  | some r1 =>
    obtain ⟨xs, δ1⟩ := r1
    rw [e1] at ef
    simp only [Option.bind_some] at ef
    refine hi.r q σ H env δ xs δ1 _ k e1 fun J H1 gv gx k1 S o1 => ?_
    refine ⟨fun i m σ H => m = xs.length - i ∧ i ≤ xs.length ∧ ∃ env δ, Ok X.K X.mg (q.withGh gv gx) σ H env δ ∧ forD gd g (xs.drop i) env δ = some o, ⟨xs.length, by simp, Nat.zero_le _, env, δ1, o1, ef⟩, ?_⟩
    rintro i m σ H ⟨rfl, hi', env, δ, k, ef⟩
    obtain ⟨k0, rg⟩ := k.popGh S.len
    by_cases hlt : i < xs.length
    · rw [List.drop_eq_getElem_cons hlt] at ef
      refine .inr ⟨S.go _ _ i rg hlt, fun σ' H' => ∃ env δ, Ok X.K X.mg (q.withGh gv gx) σ' H' env δ ∧ forD gd g (xs.drop (i + 1)) env δ = some o, fun σ' H' h => ⟨xs.length - (i + 1), by omega, rfl, hlt, h⟩, fun v H' y => ?_⟩
      obtain ⟨s, ry⟩ := S.yld _ _ i v H' rg y
      have rx := ry _ (List.getElem?_eq_getElem hlt)
      unfold forD at ef
      cases e2 : gd xs[i] env with
      | none => rw [e2] at ef; cases ef
      | some env1 =>
        rw [e2] at ef
        refine hg.r (q.withGh gv gx) σ H' env δ v xs[i] env1 _ (k.grow s) rx e2 fun σ2 _ _ k2 => ?_
        simp only [Option.bind_some] at ef
        cases e3 : g env1 δ with
        | none => rw [e3] at ef; cases ef
        | some o3 =>
          rw [e3] at ef
          refine hb.r (q.withGh gv gx) σ2 H' env1 δ o3 _ k2 e3 ?_
          cases o3 with
          | nx env' δ' => exact fun σ' H' k' => ⟨env', δ', k', ef⟩
          | ct env' δ' => exact fun σ' H' k' => ⟨env', δ', k', ef⟩
          | bk env' δ' =>
            cases ef
            exact fun σ' H' k' => ko σ' H' (k'.popGh S.len).1
          | rt x δ' =>
            cases ef
            exact ko
    · have e' : i = xs.length := by omega
      subst e'
      rw [List.drop_length] at ef
      cases ef
      exact .inl ⟨S.stop _ _ rg, ko σ H k0⟩
end
end Dl

namespace Dl
open PySem PySem.Spec L2
/-! ### 6. Comprehensions -/
def wipeE (env : Ev) : List Nat → Ev
  | [] => env
  | v :: vs => (wipeE env vs).set v .un
theorem get_wipe (σ : St) : ∀ (vs : List Nat) (j : Nat), (wipe σ vs)[j]? = if j ∈ vs then (if j < σ.length then some none else none) else σ[j]?
  | [], j => by simp [wipe]
  | v :: vs, j => by
    unfold wipe
    by_cases e : v = j
    · subst e
      by_cases hl : v < σ.length
      · rw [List.getElem?_set_self (by rw [wipe_length]; exact hl)]
        simp [hl]
      · rw [List.getElem?_eq_none (by rw [List.length_set, wipe_length]; omega)]
        simp [hl]
    · rw [List.getElem?_set_ne e, get_wipe σ vs j]
      have : j ≠ v := fun z => e z.symm
      simp [this]
theorem len_wipeE (env : Ev) : ∀ vs : List Nat, (wipeE env vs).length = env.length
  | [] => rfl
  | v :: vs => by unfold wipeE; rw [List.length_set, len_wipeE env vs]
theorem get_wipeE (env : Ev) : ∀ (vs : List Nat) (j : Nat), (wipeE env vs)[j]? = if j ∈ vs then (if j < env.length then some .un else none) else env[j]?
  | [], j => by simp [wipeE]
  | v :: vs, j => by
    unfold wipeE
    by_cases e : v = j
    · subst e
      by_cases hl : v < env.length
      · rw [List.getElem?_set_self (by rw [len_wipeE]; exact hl)]
        simp [hl]
      · rw [List.getElem?_eq_none (by rw [List.length_set, len_wipeE]; omega)]
        simp [hl]
    · rw [List.getElem?_set_ne e, get_wipeE env vs j]
      have : j ≠ v := fun z => e z.symm
      simp [this]
theorem wipe_ag {σ σ' : St} {ts vs : List Nat} (h : Ag ts (wipe σ vs) σ') (hs : ∀ j ∈ ts, j ∈ vs) : wipe σ' vs = wipe σ vs := by
  refine List.ext_getElem? fun j => ?_
  rw [get_wipe, get_wipe]
  have hl : σ'.length = σ.length := h.1.trans (wipe_length σ vs)
  by_cases hj : j ∈ vs
  · simp [hj, hl]
  · have := h.2 j fun z => hj (hs j z)
    rw [get_wipe] at this
    simp [hj] at this
    simp [hj, this]
section
variable {X : Cx} {e a b c elt iter tg : Expr} {es ifs : List Expr} {t ta tb te : TE} {f g fe : E} {ft : ET} {fi fr : EA} {gd : GT} {tgd : TG} {tt : TT} {wi : TI} {ts : List Nat} {tr : TA} {pos : Pos} {K : PySem.W.Frag} {mg : Str → Option Value}
theorem Ok.wiped {q : Fm} {H : Hp} {σ : St} {env : Ev} {δ : List Int} (k : Ok K mg q σ H env δ) : ∀ vs : List Nat, Ok K mg q (wipe σ vs) H (wipeE env vs) δ
  | [] => k
  | v :: vs => (Ok.wiped k vs).unset v
def noOwn (env : Ev) (vs : List Nat) : Bool := vs.all fun i => match env[i]? with
  | some (.own _) => false
  | _ => true
structure DTs (X : Cx) (ifs : List Expr) (t : TT) (f : ET) : Prop where
  p : PTs X ifs t
  r : RT X.K X.mg t f
def eYes : ET := fun _ δ => some (true, δ)
theorem d_tsnil : DTs X [] tYes eYes := ⟨pts_nil, fun q σ H env δ x δ' Q k ef kq => by cases ef; exact kq H .refl k⟩
theorem d_tsone (h : DT X e tt ft) : DTs X [e] tt ft := ⟨pts_one h.p, h.r⟩
def lcD (gd : GT) (ft : ET) (fe : E) (env : Ev) : List Dat → List Int → Option (List Dat × List Int)
  | [], δ => some ([], δ)
  | x :: xs, δ => (gd x env).bind fun e1 => (ft e1 δ).bind fun r => if r.1 = true then (fe e1 r.2).bind fun y => (lcD gd ft fe env xs y.2).map fun u => (y.1 :: u.1, u.2) else lcD gd ft fe env xs r.2
def fLc (fi : EA) (gd : GT) (ft : ET) (fe : E) (vs : List Nat) : EA := fun env δ => (fi env δ).bind fun r =>
  if (decide (r.1.length < 1000000) && noOwn env vs) = true then lcD gd ft fe (wipeE env vs) r.1 r.2 else none
theorem nn_back {q : Fm} {σ σ' : St} {env env' : Ev} {vs ts : List Nat} (hv : noOwn env vs = true) (hs : ∀ j ∈ ts, j ∈ vs) (a1 : Ag ts (wipe σ vs) σ') (a2 : Ag ts (wipeE env vs) env') {b : Addr} (h : NN q σ env b) : NN q σ' env' b := by
  rcases h with h | h | ⟨i, l, h1, h2⟩
  · exact .inl h
  · exact .inr (.inl h)
  · have hi : i ∉ vs := fun z => by
      have := List.all_eq_true.mp hv i z
      rw [h1] at this
      cases this
    refine .inr (.inr ⟨i, l, ?_, ?_⟩)
    · rw [a2.2 i fun z => hi (hs i z), get_wipeE]
      simp [hi, h1]
    · rw [a1.2 i fun z => hi (hs i z), get_wipe]
      simp [hi, h2]
theorem rf_lc {vs : List Nat} (hi : RI K mg wi fi) (hg : RG K mg tgd gd ts) (ht : RT K mg tt ft) (he : RS K mg te fe) (hs : ∀ j ∈ ts, j ∈ vs) : RF K mg (tLc wi tgd tt te vs) (fLc fi gd ft fe vs) := by
  intro q σ H env δ l δ' Q k ef kq
  unfold fLc at ef
  cases e1 : fi env δ with
  | none => rw [e1] at ef; cases ef
  | some r1 =>
    obtain ⟨xs, δ1⟩ := r1
    rw [e1] at ef
    simp only [Option.bind_some] at ef
    split at ef
    rotate_left
    · cases ef
    rename_i hc
    rw [Bool.and_eq_true, decide_eq_true_eq] at hc
    obtain ⟨hz, hv⟩ := hc
    refine hi q σ H env δ xs δ1 _ k e1 fun J H1 gv gx k1 S o1 D hD => ?_
    obtain ⟨o2, hDq⟩ := o1.pushGo (l := []) (vs := []) hD .nil
    have hDq' : ∀ l', (D, l') ∉ q.go := hDq
    have hDn : H D = none := by
      cases z : H D with
      | none => rfl
      | some o =>
        by_cases hd : q.d = some D
        · have := o1.dc D hd
          rw [hD] at this; cases this
        · have := k1 D o z fun z => absurd z hd
          rw [hD] at this; cases this
    refine ⟨fun i m H' => m = xs.length - i ∧ i ≤ xs.length ∧ Keep (isD q.d) H H' ∧ ∃ acc δi u, Ok K mg ((q.withGh gv gx).withGo D acc) σ H' env δi ∧ acc.length ≤ i ∧ lcD gd ft fe (wipeE env vs) (xs.drop i) δi = some (u, δ') ∧ acc ++ u = l,
      ⟨xs.length, by simp, Nat.zero_le _, k1.trans (.fresh hD), [], δ1, l, o2, Nat.zero_le _, ef, rfl⟩, ?_⟩
    rintro i m H2 ⟨rfl, hile, kk, acc, δi, u, k2, hal, el, eu⟩
    have gh2 := (Ok.popGh S.len (q := q.withGo D acc) ⟨k2.kp, k2.dc, k2.dm, k2.md, k2.ln, k2.vl, k2.ow, k2.ds, k2.gh, k2.go⟩).2
    by_cases hlt : i < xs.length
    · rw [List.drop_eq_getElem_cons hlt] at el
      refine .inr ⟨S.go _ _ i gh2 hlt, fun H' => Keep (isD q.d) H H' ∧ ∃ acc δi u, Ok K mg ((q.withGh gv gx).withGo D acc) σ H' env δi ∧ acc.length ≤ i + 1 ∧ lcD gd ft fe (wipeE env vs) (xs.drop (i + 1)) δi = some (u, δ') ∧ acc ++ u = l,
        fun H' h => ⟨xs.length - (i + 1), by omega, rfl, hlt, h.1, h.2⟩, fun v H3 y => ?_⟩
      obtain ⟨s, ry⟩ := S.yld _ _ i v H3 gh2 y
      have rx := ry _ (List.getElem?_eq_getElem hlt)
      unfold lcD at el
      cases e2 : gd xs[i] (wipeE env vs) with
      | none => rw [e2] at el; cases el
      | some env1 =>
        rw [e2] at el
        simp only [Option.bind_some] at el
        have k3 : Ok K mg ((q.withGh gv gx).withGo D acc) σ H3 env δi := k2.grow s
        have k3w := k3.wiped vs
        have rx' : Rp K mg q.d (NN ((q.withGh gv gx).withGo D acc) (wipe σ vs) (wipeE env vs)) H3 v xs[i] := by
          refine Rp.keep .refl (fun b z => .inl ?_) _ _ rx
          rcases z with z | z | ⟨j, l', z1, z2⟩
          · exact .inl z
          · exact .inr (.inl z)
          · rw [get_wipeE] at z1
            rw [get_wipe] at z2
            by_cases hj : j ∈ vs
            · rw [if_pos hj] at z1
              split at z1 <;> cases z1
            · rw [if_neg hj] at z1 z2
              exact .inr (.inr ⟨j, l', z1, z2⟩)
        refine hg ((q.withGh gv gx).withGo D acc) (wipe σ vs) H3 (wipeE env vs) δi v xs[i] env1 _ k3w rx' e2 fun σ2 a1 a2 k4 => ⟨wipe_ag a1 hs, ?_⟩
        cases e3 : ft env1 δi with
        | none => rw [e3] at el; cases el
        | some r3 =>
          obtain ⟨bb, δ3⟩ := r3
          rw [e3] at el
          refine ht _ σ2 H3 env1 δi bb δ3 _ k4 e3 fun H4 k5 o5 => ?_
          cases bb with
          | false =>
            rw [if_neg Bool.false_ne_true]
            simp only [Option.bind_some, Bool.false_eq_true, if_false] at el
            exact ⟨kk.trans ((Keep.of_same s).trans k5), acc, δ3, u, k3.step k5 o5.dc, by omega, el, eu⟩
          | true =>
            rw [if_pos rfl]
            simp only [Option.bind_some, if_true] at el
            cases e4 : fe env1 δ3 with
            | none => rw [e4] at el; cases el
            | some r4 =>
              obtain ⟨yy, δ4⟩ := r4
              rw [e4] at el
              simp only [Option.bind_some] at el
              cases e5 : lcD gd ft fe (wipeE env vs) (xs.drop (i + 1)) δ4 with
              | none => rw [e5] at el; cases el
              | some r5 =>
                obtain ⟨uu, δ5⟩ := r5
                rw [e5] at el
                cases el
                refine he _ σ2 H4 env1 δ3 yy δ4 _ o5 e4 fun w H5 k6 o6 r6 => ?_
                have k7 : Ok K mg ((q.withGh gv gx).withGo D acc) σ H5 env δ4 := k3.step (k5.trans k6) o6.dc
                obtain ⟨_, ⟨ws, g3, gr⟩, _⟩ := k7.go D acc List.mem_cons_self
                have r7 : Rp K mg q.d (NN ((q.withGh gv gx).withGo D acc) σ env) H5 w yy := Rp.keep .refl (fun b z => .inl (nn_back hv hs a1 a2 z)) _ _ r6
                refine ⟨ws, g3, by rw [gr.length]; exact lt_line (by omega), ?_⟩
                have k8 := k7.growGo (q := q.withGh gv gx) hDq g3 r7
                refine ⟨?_, acc ++ [yy], δ4, uu, k8, by simp; omega, e5, by simp [eu]⟩
                intro b o hb hn
                rw [upd_ne (ne_of_none hb hDn)]
                exact (kk.trans ((Keep.of_same s).trans (k5.trans k6))) b o hb hn
    · have e' : i = xs.length := by omega
      subst e'
      rw [List.drop_length] at el
      cases el
      rw [List.append_nil] at eu
      subst eu
      refine .inl ⟨S.stop _ _ gh2, ?_⟩
      refine kq D H2 kk hDq' (Ok.popGh S.len (q := q.withGo D acc) ⟨k2.kp, k2.dc, k2.dm, k2.md, k2.ln, k2.vl, k2.ow, k2.ds, k2.gh, k2.go⟩).1
end
end Dl

namespace Dl
open PySem PySem.Spec L2
section
variable {X : Cx} {e a b c elt iter tg : Expr} {es ifs : List Expr} {t ta tb te : TE} {f g fe : E} {ft : ET} {fi fr : EA} {gd : GT} {tgd : TG} {tt : TT} {wi : TI} {ts : List Nat} {tr : TA} {pos : Pos} {K : PySem.W.Frag} {mg : Str → Option Value}
theorem d_lc {scope : Scope} {own : List (Str × Nat)} (hc : X.calm = true) (hN : X.N.Nodup) (hi : DI X tg iter wi fi) (ok : BlkOk X.N X.env.scope scope own)
    (hg : ∀ (s : Shared) (H : Hp) (C : Addr) (cl : List (Str × Addr)) (fp : List Addr), DG (X.blk s H scope (compEnvC scope cl C X.env) fp) tg tgd gd ts)
    (ht : ∀ (s : Shared) (H : Hp) (C : Addr) (cl : List (Str × Addr)) (fp : List Addr), DTs (X.blk s H scope (compEnvC scope cl C X.env) fp) ifs tt ft)
    (he : ∀ (s : Shared) (H : Hp) (C : Addr) (cl : List (Str × Addr)) (fp : List Addr), DS (X.blk s H scope (compEnvC scope cl C X.env) fp) elt te fe)
    (hts : ∀ j ∈ ts, j ∈ own.map (·.2) := by decide) (hs : ∀ x, foldedSetIterable iter X.env x = pure x := by intro _; rfl) :
    DF X (.ListComp elt [⟨tg, iter, ifs, 0⟩] scope pos) (tLc wi tgd tt te (own.map (·.2))) (fLc fi gd ft fe (own.map (·.2))) :=
  ⟨pe_lc hc hN hi.p ok (fun s H C cl fp => (hg s H C cl fp).p) (fun s H C cl fp => (ht s H C cl fp).p) (fun s H C cl fp => (he s H C cl fp).p) hs,
   rf_lc hi.r (hg X.s_0 X.H_0 0 [] []).r (ht X.s_0 X.H_0 0 [] []).r (he X.s_0 X.H_0 0 [] []).r hts⟩

/-! ### 7. The operators by data -/
theorem refO_or {r r' : R2} {F G : Dat → Dat → Option Dat} (h : RefO K mg r F) (h' : RefO K mg r' G) : RefO K mg (fun x y H Q => r x y H Q ∨ r' x y H Q) (fun x y => (F x y).orElse fun _ => G x y) := by
  intro d N H v w x y z Q hd hN rv rw' e kq
  have e : ((F x y).orElse fun _ => G x y) = some z := e
  cases e1 : F x y with
  | none =>
    rw [e1] at e
    exact .inr (h' d N H v w x y z Q hd hN rv rw' e kq)
  | some z' =>
    rw [e1] at e
    exact .inl (h d N H v w x y z Q hd hN rv rw' (by rw [e1]; exact e) kq)
def dI (f : Int → Int → Dat) : Dat → Dat → Option Dat
  | .int i, .int j => some (f i j)
  | _, _ => none
def dIC (C : Int → Int → Bool) (f : Int → Int → Dat) : Dat → Dat → Option Dat
  | .int i, .int j => if C i j = true then some (f i j) else none
  | _, _ => none
theorem refO_int0 {gi : Int → Int → Int} : RefO K mg (rI0 fun i j => .int (gi i j)) (dI fun i j => .int (gi i j)) := by
  intro d N H v w x y z Q hd hN rv rw' e kq
  cases x <;> cases y <;> first | (cases e; done) | skip
  cases rv; cases rw'; cases e
  exact ⟨_, _, rfl, rfl, kq _ H same_refl (.int _)⟩
theorem refO_bl0 {gi : Int → Int → Bool} : RefO K mg (rI0 fun i j => .bl (gi i j)) (dI fun i j => .bl (gi i j)) := by
  intro d N H v w x y z Q hd hN rv rw' e kq
  cases x <;> cases y <;> first | (cases e; done) | skip
  cases rv; cases rw'; cases e
  exact ⟨_, _, rfl, rfl, kq _ H same_refl (.bl _)⟩
theorem refO_intC {C : Int → Int → Prop} {Cb : Int → Int → Bool} {gi : Int → Int → Int} (hC : ∀ i j, Cb i j = true → C i j) : RefO K mg (rI C fun i j => .int (gi i j)) (dIC Cb fun i j => .int (gi i j)) := by
  intro d N H v w x y z Q hd hN rv rw' e kq
  cases x <;> cases y <;> first | (cases e; done) | skip
  rename_i i j
  cases rv; cases rw'
  have e' : (if Cb i j = true then some (Dat.int (gi i j)) else none) = some z := e
  split at e'
  · rename_i hc
    cases e'
    exact ⟨_, _, rfl, rfl, hC i j hc, kq _ H same_refl (.int _)⟩
  · cases e'
def dStrAdd : Dat → Dat → Option Dat
  | .str a, .str b => if a.length + b.length < 1000000 then some (.str (a ++ b)) else none
  | _, _ => none
theorem refO_strAdd : RefO K mg (fun x y H Q => ∃ i j, x = .str i ∧ y = .str j ∧ i.length + j.length ≤ sizeLine ∧ Q (.str (i ++ j)) H) dStrAdd := by
  intro d N H v w x y z Q hd hN rv rw' e kq
  cases x <;> cases y <;> first | (cases e; done) | skip
  rename_i a b
  cases rv; cases rw'
  have e' : (if a.length + b.length < 1000000 then some (Dat.str (a ++ b)) else none) = some z := e
  split at e'
  · rename_i hc
    cases e'
    exact ⟨a, b, rfl, rfl, le_line hc, kq _ H same_refl (.str _)⟩
  · cases e'
def dLstAdd : Dat → Dat → Option Dat
  | .lst a, .lst b => if a.length + b.length < 1000000 then some (.lst (a ++ b)) else none
  | _, _ => none
theorem refO_lstAdd : RefO K mg rCat dLstAdd := by
  intro d N H v w x y z Q hd hN rv rw' e kq
  cases x <;> cases y <;> first | (cases e; done) | skip
  rename_i xs ys
  obtain ⟨a, vs, rfl, e2, _, r1⟩ := rv
  obtain ⟨b, ws, rfl, g2, _, r2⟩ := rw'
  have e' : (if xs.length + ys.length < 1000000 then some (Dat.lst (xs ++ ys)) else none) = some z := e
  split at e'
  · rename_i hc
    cases e'
    refine ⟨a, b, vs, ws, rfl, rfl, e2, g2, by rw [r1.length, r2.length]; exact le_line hc, fun p hp => ?_⟩
    have s := same_fresh (o := .lst (vs ++ ws)) hp
    exact kq _ _ s (.lst upd_same (fun z => hN p z hp) (RpA.keep (.of_same s) (fun b z => .inl z) _ _ (r1.append r2)))
  · cases e'
/-- + -/
def dAdd : Dat → Dat → Option Dat := fun x y => (dI (fun i j => .int (i + j)) x y).orElse fun _ => (dStrAdd x y).orElse fun _ => dLstAdd x y
abbrev rAddU : R2 := fun x y H Q => (rI0 fun i j => .int (i + j)) x y H Q ∨ ((fun x y H Q => ∃ i j, x = .str i ∧ y = .str j ∧ i.length + j.length ≤ sizeLine ∧ Q (.str (i ++ j)) H : R2) x y H Q ∨ rCat x y H Q)
theorem op_addU : OpR X (binaryOp .Add) rAddU := op_add.or (op_add_str.or op_cat)
theorem ref_add : RefO K mg rAddU dAdd :=
  refO_or refO_int0 (refO_or refO_strAdd refO_lstAdd)
theorem d_add (ha : DE X a ta f) (hb : DE X b tb g) : DS X (.BinOp a .Add b pos) (tOp rAddU ta tb) (eOp dAdd f g) := d_op op_addU ref_add ha hb
def dSub : Dat → Dat → Option Dat := dI fun i j => .int (i - j)
theorem d_sub (ha : DE X a ta f) (hb : DE X b tb g) : DS X (.BinOp a .Sub b pos) (tOp (rI0 fun i j => .int (i - j)) ta tb) (eOp dSub f g) := d_op op_sub refO_int0 ha hb
def mulC (i j : Int) : Bool := (decide (-(2 ^ 64) < i) && decide (i < 2 ^ 64)) || (decide (-(2 ^ 64) < j) && decide (j < 2 ^ 64))
def dMul : Dat → Dat → Option Dat := dIC mulC fun i j => .int (i * j)
theorem d_mul (ha : DE X a ta f) (hb : DE X b tb g) : DS X (.BinOp a .Mult b pos) (tOp (rI CMul fun i j => .int (i * j)) ta tb) (eOp dMul f g) := d_op op_mul (refO_intC fun i j h => by
  unfold mulC at h
  simp only [Bool.or_eq_true, Bool.and_eq_true, decide_eq_true_eq] at h
  exact h) ha hb
def dMod : Dat → Dat → Option Dat := dIC (fun _ j => decide (0 < j)) fun i j => .int (i % j)
theorem d_mod (ha : DE X a ta f) (hb : DE X b tb g) : DS X (.BinOp a .Mod b pos) (tOp (rI (fun _ j => 0 < j) fun i j => .int (i % j)) ta tb) (eOp dMod f g) := d_op op_mod (refO_intC fun i j h => of_decide_eq_true h) ha hb
def dFdiv : Dat → Dat → Option Dat := dIC (fun _ j => decide (0 < j) && decide (j < 1073741824)) fun i j => .int (i / j)
theorem d_fdiv (ha : DE X a ta f) (hb : DE X b tb g) : DS X (.BinOp a .FloorDiv b pos) (tOp (rI CDiv fun i j => .int (i / j)) ta tb) (eOp dFdiv f g) := d_op op_fdiv (refO_intC fun i j h => by
  simp only [Bool.and_eq_true, decide_eq_true_eq] at h
  exact h) ha hb
def dPow : Dat → Dat → Option Dat := dIC (fun i j => decide (0 ≤ j) && decide (j ≤ 1000000) && decide (i.natAbs < 2 ^ 64)) fun i j => .int (i ^ j.toNat)
theorem d_pow (ha : DE X a ta f) (hb : DE X b tb g) : DS X (.BinOp a .Pow b pos) (tOp (rI CPow fun i j => .int (i ^ j.toNat)) ta tb) (eOp dPow f g) := d_op op_pow (refO_intC fun i j h => by
  simp only [Bool.and_eq_true, decide_eq_true_eq] at h
  exact ⟨h.1.1, h.1.2, h.2⟩) ha hb
def dNeg : Dat → Option Dat
  | .int i => some (.int (-i))
  | _ => none
def eUn (F : Dat → Option Dat) (f : E) : E := fun env δ => (f env δ).bind fun r => (F r.1).map fun z => (z, r.2)
theorem d_neg (ha : DE X a ta f) : DS X (.UnaryOp .USub a pos) (tUn (rU fun i => .int (-i)) ta) (eUn dNeg f) := by
  refine ⟨pe_un un_neg ha.p, fun q σ H env δ z δ' Q k ef kq => ?_⟩
  unfold eUn at ef
  cases e1 : f env δ with
  | none => rw [e1] at ef; cases ef
  | some r1 =>
    obtain ⟨x, δ1⟩ := r1
    rw [e1] at ef
    cases x <;> first | (cases ef; done) | skip
    cases ef
    refine ha.r q σ H env δ _ _ _ k e1 fun v H1 k1 o1 r1 => ?_
    cases r1
    exact ⟨_, rfl, kq _ H1 k1 o1 (.int _)⟩
/-! comparisons -/
mutual
def toPy : Dat → Option PyData
  | .non => some .none
  | .bl b => some (.bool b)
  | .int i => some (.int i)
  | .str x => some (.str x)
  | .tup xs => (toPyA xs).map .tuple
  | .lst xs => (toPyA xs).map .list
  | .dice => none
  | .obj _ _ _ => none
  | .dT _ _ => none
def toPyA : List Dat → Option (List PyData)
  | [] => some []
  | x :: xs => (toPy x).bind fun y => (toPyA xs).map fun ys => y :: ys
end
mutual
theorem Rp.dp {d : Option Addr} {N : Addr → Prop} {H : Hp} : ∀ (x : Dat) (v : V) (p : PyData), Rp K mg d N H v x → toPy x = some p → Dp K H v p
  | .non, _, _, h, e => by cases h; simp [toPy] at e; subst e; exact .non
  | .bl b, _, _, h, e => by cases h; simp [toPy] at e; subst e; exact .bl b
  | .int i, _, _, h, e => by cases h; simp [toPy] at e; subst e; exact .int i
  | .str x, _, _, h, e => by cases h; simp [toPy] at e; subst e; exact .str x
  | .tup xs, _, _, h, e => by
    cases h with
    | tup h1 h2 =>
      simp only [toPy] at e
      cases e1 : toPyA xs with
      | none => rw [e1] at e; cases e
      | some ps =>
        rw [e1] at e
        cases e
        exact .tup h1 (RpA.dp xs _ ps h2 e1)
  | .lst xs, _, _, h, e => by
    cases h with
    | lst h1 _ h2 =>
      simp only [toPy] at e
      cases e1 : toPyA xs with
      | none => rw [e1] at e; cases e
      | some ps =>
        rw [e1] at e
        cases e
        exact .lst (.of h1) (RpA.dp xs _ ps h2 e1)
  | .dice, _, _, _, e => by simp [toPy] at e
  | .obj _ _ _, _, _, _, e => by simp [toPy] at e
  | .dT _ _, _, _, _, e => by simp [toPy] at e
theorem RpA.dp {d : Option Addr} {N : Addr → Prop} {H : Hp} : ∀ (xs : List Dat) (vs : List V) (ps : List PyData), RpA K mg d N H vs xs → toPyA xs = some ps → DpAll K H vs ps
  | [], _, _, h, e => by cases h; simp [toPyA] at e; subst e; exact .nil
  | x :: xs, _, _, h, e => by
    cases h with
    | cons h1 h2 =>
      simp only [toPyA] at e
      cases e1 : toPy x with
      | none => rw [e1] at e; cases e
      | some p =>
        rw [e1] at e
        cases e2 : toPyA xs with
        | none => rw [e2] at e; cases e
        | some ps =>
          rw [e2] at e
          cases e
          exact .cons (Rp.dp x _ p h1 e1) (RpA.dp xs _ ps h2 e2)
end
theorem RpB.dp {d : Option Addr} {N : Addr → Prop} {H : Hp} {x : Dat} {v : V} {p : PyData} (h : RpB K mg d N H v x) (e : toPy x = some p) : Dp K H v p := by
  cases x with
  | lst xs =>
    obtain ⟨a, vs, rfl, e2, _, r⟩ := h
    simp only [toPy] at e
    cases e1 : toPyA xs with
    | none => rw [e1] at e; cases e
    | some ps =>
      rw [e1] at e
      cases e
      exact .lst (.of e2) (RpA.dp xs _ ps r e1)
  | non => exact Rp.dp _ _ _ h e
  | bl => exact Rp.dp _ _ _ h e
  | int => exact Rp.dp _ _ _ h e
  | str => exact Rp.dp _ _ _ h e
  | tup => exact Rp.dp _ _ _ h e
  | dice => exact Rp.dp _ _ _ h e
  | obj => exact Rp.dp _ _ _ h e
  | dT => exact Rp.dp _ _ _ h e
/-- equal data, none where the library's rule does not reach -/
def eqD (x y : Dat) : Option Bool := (toPy x).bind fun a => (toPy y).bind fun b => if (SeqAt.shaped a && SeqAt.shaped b) = true then some (PyData.eqv a b) else none
theorem eqD_some {x y : Dat} {k : Bool} (h : eqD x y = some k) : ∃ a b, toPy x = some a ∧ toPy y = some b ∧ SeqAt.shaped a = true ∧ SeqAt.shaped b = true ∧ PyData.eqv a b = k := by
  unfold eqD at h
  cases e1 : toPy x with
  | none => rw [e1] at h; cases h
  | some a =>
    rw [e1] at h
    cases e2 : toPy y with
    | none => rw [e2] at h; cases h
    | some b =>
      rw [e2] at h
      simp only [Option.bind_some] at h
      split at h
      · rename_i hc
        rw [Bool.and_eq_true] at hc
        exact ⟨a, b, rfl, rfl, hc.1, hc.2, Option.some.inj h⟩
      · cases h
def dEq : Dat → Dat → Option Dat := fun x y => (eqD x y).map .bl
def dNe : Dat → Dat → Option Dat := fun x y => (eqD x y).map fun k => .bl (!k)
theorem ref_eq : RefO K mg (rEqD K) dEq := by
  intro d N H v w x y z Q hd hN rv rw' e kq
  unfold dEq at e
  cases e1 : eqD x y with
  | none => rw [e1] at e; cases e
  | some k =>
    rw [e1] at e
    cases e
    obtain ⟨a, b, h1, h2, h3, h4, rfl⟩ := eqD_some e1
    exact ⟨a, b, rv.dp h1, rw'.dp h2, h3, h4, kq _ H same_refl (.bl _)⟩
theorem ref_ne : RefO K mg (rNeD K) dNe := by
  intro d N H v w x y z Q hd hN rv rw' e kq
  unfold dNe at e
  cases e1 : eqD x y with
  | none => rw [e1] at e; cases e
  | some k =>
    rw [e1] at e
    cases e
    obtain ⟨a, b, h1, h2, h3, h4, rfl⟩ := eqD_some e1
    exact ⟨a, b, rv.dp h1, rw'.dp h2, h3, h4, kq _ H same_refl (.bl _)⟩
/-- x in a list, by equality -/
def inD (x : Dat) (ys : List Dat) : Option Bool := (toPy x).bind fun a => (toPyA ys).bind fun bs => if (SeqAt.shaped a && SeqAt.shaped (.list bs)) = true then some (bs.any fun z => PyData.eqv z a) else none
theorem inD_some {x : Dat} {ys : List Dat} {k : Bool} (h : inD x ys = some k) : ∃ a bs, toPy x = some a ∧ toPyA ys = some bs ∧ SeqAt.shaped a = true ∧ SeqAt.shaped (.list bs) = true ∧ (bs.any fun z => PyData.eqv z a) = k := by
  unfold inD at h
  cases e1 : toPy x with
  | none => rw [e1] at h; cases h
  | some a =>
    rw [e1] at h
    cases e2 : toPyA ys with
    | none => rw [e2] at h; cases h
    | some b =>
      rw [e2] at h
      simp only [Option.bind_some] at h
      split at h
      · rename_i hc
        rw [Bool.and_eq_true] at hc
        exact ⟨a, b, rfl, rfl, hc.1, hc.2, Option.some.inj h⟩
      · cases h
def dInL (neg : Bool) : Dat → Dat → Option Dat
  | x, .lst ys => (inD x ys).map fun k => .bl (k != neg)
  | _, _ => none
theorem ref_inL : RefO K mg (rInD K) (dInL false) := by
  intro d N H v w x y z Q hd hN rv rw' e kq
  cases y <;> first | (cases e; done) | skip
  rename_i ys
  have e' : ((inD x ys).map fun k => Dat.bl (k != false)) = some z := e
  cases e1 : inD x ys with
  | none => rw [e1] at e'; cases e'
  | some k =>
    rw [e1] at e'
    cases e'
    obtain ⟨a, bs, h1, h2, h3, h4, rfl⟩ := inD_some e1
    refine ⟨a, bs, rv.dp h1, rw'.dp (by simp [toPy, h2]), h3, h4, kq _ H same_refl ?_⟩
    show Rp K mg d N H _ (.bl ((bs.any fun z => PyData.eqv z a) != false))
    rw [Bool.bne_false]
    exact .bl _
theorem ref_notInL : RefO K mg (rNotInD K) (dInL true) := by
  intro d N H v w x y z Q hd hN rv rw' e kq
  cases y <;> first | (cases e; done) | skip
  rename_i ys
  have e' : ((inD x ys).map fun k => Dat.bl (k != true)) = some z := e
  cases e1 : inD x ys with
  | none => rw [e1] at e'; cases e'
  | some k =>
    rw [e1] at e'
    cases e'
    obtain ⟨a, bs, h1, h2, h3, h4, rfl⟩ := inD_some e1
    refine ⟨a, bs, rv.dp h1, rw'.dp (by simp [toPy, h2]), h3, h4, kq _ H same_refl ?_⟩
    show Rp K mg d N H _ (.bl ((bs.any fun z => PyData.eqv z a) != true))
    rw [Bool.bne_true]
    exact .bl _
/-- flat items -/
def toV : Dat → Option V
  | .non => some .non
  | .bl b => some (.bl b)
  | .int i => some (.int i)
  | .str x => some (.str x)
  | _ => none
def toVs : List Dat → Option (List V)
  | [] => some []
  | x :: xs => (toV x).bind fun v => (toVs xs).map fun vs => v :: vs
theorem Rp.toV {d : Option Addr} {N : Addr → Prop} {H : Hp} {x : Dat} {v u : V} (h : Rp K mg d N H v x) (e : Dl.toV x = some u) : v = u ∧ flatV u = true := by
  cases x <;> first | (cases e; done) | skip
  all_goals (cases h; cases e; exact ⟨rfl, rfl⟩)
theorem RpA.toVs {d : Option Addr} {N : Addr → Prop} {H : Hp} : ∀ {xs : List Dat} {vs us : List V}, RpA K mg d N H vs xs → Dl.toVs xs = some us → vs = us ∧ us.all flatV = true
  | [], _, _, h, e => by cases h; cases e; exact ⟨rfl, rfl⟩
  | x :: xs, _, _, h, e => by
    cases h with
    | cons h1 h2 =>
      unfold Dl.toVs at e
      cases e1 : Dl.toV x with
      | none => rw [e1] at e; cases e
      | some u =>
        rw [e1] at e
        cases e2 : Dl.toVs xs with
        | none => rw [e2] at e; cases e
        | some us =>
          rw [e2] at e
          cases e
          obtain ⟨rfl, f1⟩ := h1.toV e1
          obtain ⟨rfl, f2⟩ := RpA.toVs h2 e2
          exact ⟨rfl, by simp [f1, f2]⟩
def dInT (neg : Bool) : Dat → Dat → Option Dat
  | x, .tup ys => (toV x).bind fun u => (toVs ys).map fun us => .bl (if neg then !inV u us else inV u us)
  | _, _ => none
theorem ref_inT (neg : Bool) : RefO K mg (rIn K neg) (dInT neg) := by
  intro d N H v w x y z Q hd hN rv rw' e kq
  cases y <;> first | (cases e; done) | skip
  rename_i ys
  have e' : ((toV x).bind fun u => (toVs ys).map fun us => Dat.bl (if neg then !inV u us else inV u us)) = some z := e
  cases e1 : toV x with
  | none => rw [e1] at e'; cases e'
  | some u =>
    rw [e1] at e'
    cases e2 : toVs ys with
    | none => rw [e2] at e'; cases e'
    | some us =>
      rw [e2] at e'
      cases e'
      have rx : Rp K mg d N H v x := by
        cases x <;> first | (cases e1; done) | exact rv
      obtain ⟨rfl, f1⟩ := rx.toV e1
      cases rw' with
      | tup h1 h2 =>
        obtain ⟨rfl, f2⟩ := h2.toVs e2
        exact ⟨_, _, rfl, .inr h1, f1, f2, kq _ H same_refl (.bl _)⟩
def dIn : Dat → Dat → Option Dat := fun x y => (dInL false x y).orElse fun _ => dInT false x y
def dNotIn : Dat → Dat → Option Dat := fun x y => (dInL true x y).orElse fun _ => dInT true x y
variable {k : Nat}
theorem d_eq (hr : Room k X.A) (ha : DE X a ta f) (hb : DE X b tb g) : DS X (.Compare a [.Eq] [b] pos) (tOp (rEqD X.K) ta tb) (eOp dEq f g) := d_cmp (op_eqD hr.units) ref_eq ha hb (nomark _)
theorem d_ne (hr : Room k X.A) (ha : DE X a ta f) (hb : DE X b tb g) : DS X (.Compare a [.NotEq] [b] pos) (tOp (rNeD X.K) ta tb) (eOp dNe f g) := d_cmp (op_neD hr.units) ref_ne ha hb (nomark _)
theorem d_teq (hr : Room k X.A) (ha : DE X a ta f) (hb : DE X b tb g) : DT X (.Compare a [.Eq] [b] pos) (tTest (tOp (rEqD X.K) ta tb)) (eTest (eOp dEq f g)) := d_tcmp (op_eqD hr.units) ref_eq ha hb (nomark _)
theorem d_tne (hr : Room k X.A) (ha : DE X a ta f) (hb : DE X b tb g) : DT X (.Compare a [.NotEq] [b] pos) (tTest (tOp (rNeD X.K) ta tb)) (eTest (eOp dNe f g)) := d_tcmp (op_neD hr.units) ref_ne ha hb (nomark _)
theorem room65 {A : Around} (hr : Room k A) : A.units + 65 < cLine := by have := hr.un; omega
abbrev rInU (K : PySem.W.Frag) : R2 := fun x y H Q => rInD K x y H Q ∨ rIn K false x y H Q
abbrev rNotInU (K : PySem.W.Frag) : R2 := fun x y H Q => rNotInD K x y H Q ∨ rIn K true x y H Q
abbrev rIsNV : R2 := fun x y H Q => y = .non ∧ Q (.bl (decide (x = .non))) H
abbrev rNotNV : R2 := fun x y H Q => y = .non ∧ Q (.bl (!decide (x = .non))) H
theorem op_inU (hr : Room k X.A) : OpR X (compareOp .In) (rInU X.K) := (op_inD (room65 hr)).or op_in_seq
theorem op_notInU (hr : Room k X.A) : OpR X (compareOp .NotIn) (rNotInU X.K) := (op_notInD (room65 hr)).or op_notIn_seq
theorem d_in (hr : Room k X.A) (ha : DE X a ta f) (hb : DE X b tb g) (hm : behindInMarks .In b = false := by rfl) : DS X (.Compare a [.In] [b] pos) (tOp (rInU X.K) ta tb) (eOp dIn f g) := d_cmp (op_inU hr) (refO_or ref_inL (ref_inT false)) ha hb hm
theorem d_notIn (hr : Room k X.A) (ha : DE X a ta f) (hb : DE X b tb g) (hm : behindInMarks .NotIn b = false := by rfl) : DS X (.Compare a [.NotIn] [b] pos) (tOp (rNotInU X.K) ta tb) (eOp dNotIn f g) := d_cmp (op_notInU hr) (refO_or ref_notInL (ref_inT true)) ha hb hm
theorem d_tin (hr : Room k X.A) (ha : DE X a ta f) (hb : DE X b tb g) (hm : behindInMarks .In b = false := by rfl) : DT X (.Compare a [.In] [b] pos) (tTest (tOp (rInU X.K) ta tb)) (eTest (eOp dIn f g)) := d_tcmp (op_inU hr) (refO_or ref_inL (ref_inT false)) ha hb hm
theorem d_tnotIn (hr : Room k X.A) (ha : DE X a ta f) (hb : DE X b tb g) (hm : behindInMarks .NotIn b = false := by rfl) : DT X (.Compare a [.NotIn] [b] pos) (tTest (tOp (rNotInU X.K) ta tb)) (eTest (eOp dNotIn f g)) := d_tcmp (op_notInU hr) (refO_or ref_notInL (ref_inT true)) ha hb hm
def dLt := dI fun i j => .bl (decide (i < j))
def dLe := dI fun i j => .bl (decide (i ≤ j))
def dGt := dI fun i j => .bl (decide (j < i))
def dGe := dI fun i j => .bl (decide (j ≤ i))
theorem d_lt (ha : DE X a ta f) (hb : DE X b tb g) : DS X (.Compare a [.Lt] [b] pos) (tOp (rI0 fun i j => .bl (decide (i < j))) ta tb) (eOp dLt f g) := d_cmp op_lt refO_bl0 ha hb (nomark _)
theorem d_le (ha : DE X a ta f) (hb : DE X b tb g) : DS X (.Compare a [.LtE] [b] pos) (tOp (rI0 fun i j => .bl (decide (i ≤ j))) ta tb) (eOp dLe f g) := d_cmp op_le refO_bl0 ha hb (nomark _)
theorem d_gt (ha : DE X a ta f) (hb : DE X b tb g) : DS X (.Compare a [.Gt] [b] pos) (tOp (rI0 fun i j => .bl (decide (j < i))) ta tb) (eOp dGt f g) := d_cmp op_gt refO_bl0 ha hb (nomark _)
theorem d_ge (ha : DE X a ta f) (hb : DE X b tb g) : DS X (.Compare a [.GtE] [b] pos) (tOp (rI0 fun i j => .bl (decide (j ≤ i))) ta tb) (eOp dGe f g) := d_cmp op_ge refO_bl0 ha hb (nomark _)
theorem d_tlt (ha : DE X a ta f) (hb : DE X b tb g) : DT X (.Compare a [.Lt] [b] pos) (tTest (tOp (rI0 fun i j => .bl (decide (i < j))) ta tb)) (eTest (eOp dLt f g)) := d_tcmp op_lt refO_bl0 ha hb (nomark _)
theorem d_tle (ha : DE X a ta f) (hb : DE X b tb g) : DT X (.Compare a [.LtE] [b] pos) (tTest (tOp (rI0 fun i j => .bl (decide (i ≤ j))) ta tb)) (eTest (eOp dLe f g)) := d_tcmp op_le refO_bl0 ha hb (nomark _)
theorem d_tgt (ha : DE X a ta f) (hb : DE X b tb g) : DT X (.Compare a [.Gt] [b] pos) (tTest (tOp (rI0 fun i j => .bl (decide (j < i))) ta tb)) (eTest (eOp dGt f g)) := d_tcmp op_gt refO_bl0 ha hb (nomark _)
theorem d_tge (ha : DE X a ta f) (hb : DE X b tb g) : DT X (.Compare a [.GtE] [b] pos) (tTest (tOp (rI0 fun i j => .bl (decide (j ≤ i))) ta tb)) (eTest (eOp dGe f g)) := d_tcmp op_ge refO_bl0 ha hb (nomark _)
/-- is None -/
def dIsN : Dat → Dat → Option Dat
  | .non, .non => some (.bl true)
  | .dice, .non => none
  | _, .non => some (.bl false)
  | _, _ => none
def dNotN : Dat → Dat → Option Dat
  | .non, .non => some (.bl false)
  | .dice, .non => none
  | _, .non => some (.bl true)
  | _, _ => none
theorem ref_isN : RefO K mg (fun x y H Q => y = .non ∧ Q (.bl (decide (x = .non))) H) dIsN := by
  intro d N H v w x y z Q hd hN rv rw' e kq
  cases y <;> first | (cases x <;> cases e; done) | skip
  cases rw'
  refine ⟨rfl, kq _ H same_refl ?_⟩
  cases x with
  | lst xs => obtain ⟨a, vs, rfl, _⟩ := rv; cases e; exact .bl _
  | dice => cases e
  | _ => cases rv; cases e; exact .bl _
theorem ref_notN : RefO K mg (fun x y H Q => y = .non ∧ Q (.bl (!decide (x = .non))) H) dNotN := by
  intro d N H v w x y z Q hd hN rv rw' e kq
  cases y <;> first | (cases x <;> cases e; done) | skip
  cases rw'
  refine ⟨rfl, kq _ H same_refl ?_⟩
  cases x with
  | lst xs => obtain ⟨a, vs, rfl, _⟩ := rv; cases e; exact .bl _
  | dice => cases e
  | _ => cases rv; cases e; exact .bl _
theorem d_isN (ha : DE X a ta f) (hb : DE X b tb g) : DS X (.Compare a [.Is] [b] pos) (tOp rIsNV ta tb) (eOp dIsN f g) := d_cmp op_isN ref_isN ha hb (nomark _)
theorem d_notN (ha : DE X a ta f) (hb : DE X b tb g) : DS X (.Compare a [.IsNot] [b] pos) (tOp rNotNV ta tb) (eOp dNotN f g) := d_cmp op_notN ref_notN ha hb (nomark _)
theorem d_tisN (ha : DE X a ta f) (hb : DE X b tb g) : DT X (.Compare a [.Is] [b] pos) (tTest (tOp rIsNV ta tb)) (eTest (eOp dIsN f g)) := d_tcmp op_isN ref_isN ha hb (nomark _)
theorem d_tnotN (ha : DE X a ta f) (hb : DE X b tb g) : DT X (.Compare a [.IsNot] [b] pos) (tTest (tOp rNotNV ta tb)) (eTest (eOp dNotN f g)) := d_tcmp op_notN ref_notN ha hb (nomark _)
end
end Dl

namespace Dl
open PySem PySem.Spec L2
open PyProof.Rows (envOfC)
section
variable {X : Cx} {e a b c elt iter tg : Expr} {es ifs : List Expr} {t ta tb te tc : TE} {f g h fe : E} {ft : ET} {fi fr : EA} {gd : GT} {tgd : TG} {tt : TT} {wi : TI} {ts : List Nat} {tr : TA} {pos p2 : Pos} {K : PySem.W.Frag} {mg : Str → Option Value}
/-! a op b op c -/
def eChain (F G : Dat → Dat → Option Dat) (f g h : E) : E := fun env δ => (f env δ).bind fun r => (g env r.2).bind fun u => (F r.1 u.1).bind fun z => match z with
  | .bl true => (h env u.2).bind fun w => (G u.1 w.1).map fun z => (z, w.2)
  | .bl false => some (.bl false, u.2)
  | _ => none
theorem re_chain {r r' : R2} {F G : Dat → Dat → Option Dat} (hr : RefO K mg r F) (hr' : RefO K mg r' G) (ha : RE K mg ta f) (hb : RE K mg tb g) (hc : RE K mg tc h) : RS K mg (tChain r r' ta tb tc) (eChain F G f g h) := by
  intro q σ H env δ z δ' Q k ef kq
  unfold eChain at ef
  cases e1 : f env δ with
  | none => rw [e1] at ef; cases ef
  | some r1 =>
    obtain ⟨x, δ1⟩ := r1
    rw [e1] at ef
    cases e2 : g env δ1 with
    | none => simp [e2] at ef
    | some r2 =>
      obtain ⟨y, δ2⟩ := r2
      simp only [Option.bind_some, e2] at ef
      cases e3 : F x y with
      | none => simp [e3] at ef
      | some z' =>
        simp only [e3, Option.bind_some] at ef
        refine ha q σ H env δ x δ1 _ k e1 fun v H1 k1 o1 r1 => ?_
        refine hb q σ H1 env δ1 y δ2 _ o1 e2 fun w H2 k2 o2 r2 => ?_
        refine hr q.d (NN q σ env) H2 v w x y z' _ o2.dn (fun b => o2.nn) (r1.keep k.dn k2 fun b z => .inl z) r2 e3 fun u H3 s3 r3 => ?_
        cases z' with
        | bl kb =>
          cases r3
          refine ⟨kb, rfl, ?_⟩
          have o3 := o2.grow s3
          cases kb with
          | false =>
            cases ef
            exact kq _ H3 ((k1.trans k2).trans (.of_same s3)) o3 (.bl false)
          | true =>
            have ef : ((h env δ2).bind fun w => (G y w.1).map fun z => (z, w.2)) = some (z, δ') := ef
            cases e4 : h env δ2 with
            | none => rw [e4] at ef; cases ef
            | some r4 =>
              obtain ⟨y4, δ4⟩ := r4
              rw [e4] at ef
              simp only [Option.bind_some] at ef
              cases e5 : G y y4 with
              | none => rw [e5] at ef; cases ef
              | some z5 =>
                rw [e5] at ef
                cases ef
                refine hc q σ H3 env δ2 y4 _ _ o3 e4 fun w4 H4 k4 o4 r4 => ?_
                refine hr' q.d (NN q σ env) H4 w w4 y y4 z Q o4.dn (fun b => o4.nn) ((r2.keep k.dn (.of_same s3) fun b z => .inl z).keep k.dn k4 fun b z => .inl z) r4 e5 fun u5 H5 s5 r5 => ?_
                exact kq u5 H5 ((((k1.trans k2).trans (.of_same s3)).trans k4).trans (.of_same s5)) (o4.grow s5) r5
        | _ => cases ef
theorem d_chain {op op' : CmpOp} {r r' : R2} {F G : Dat → Dat → Option Dat} (ho : OpR X (compareOp op) r) (ho' : OpR X (compareOp op') r') (hr : RefO X.K X.mg r F) (hr' : RefO X.K X.mg r' G) (ha : DE X a ta f) (hb : DE X b tb g) (hc : DE X c tc h)
    (hm : lastMarks [op, op'] [b, c] = false := by with_unfolding_all rfl) : DS X (.Compare a [op, op'] [b, c] pos) (tChain r r' ta tb tc) (eChain F G f g h) := ⟨pe_chain ho ho' ha.p hb.p hc.p hm, re_chain hr hr' ha.r hb.r hc.r⟩
theorem d_tchain {op op' : CmpOp} {r r' : R2} {F G : Dat → Dat → Option Dat} (ho : OpR X (compareOp op) r) (ho' : OpR X (compareOp op') r') (hr : RefO X.K X.mg r F) (hr' : RefO X.K X.mg r' G) (ha : DE X a ta f) (hb : DE X b tb g) (hc : DE X c tc h)
    (hm : lastMarks [op, op'] [b, c] = false := by with_unfolding_all rfl) : DT X (.Compare a [op, op'] [b, c] pos) (tTest (tChain r r' ta tb tc)) (eTest (eChain F G f g h)) :=
  ⟨pt_chain ho ho' ha.p hb.p hc.p hm, rt_test fun q σ H env δ x δ' Q k ef kq => (re_chain hr hr' ha.r hb.r hc.r) q σ H env δ x δ' Q k ef fun v H' k1 k2 r => kq v H' k1 k2 (r.weak k.dn)⟩
/-! subscripts -/
def dIx : Dat → Dat → Option Dat
  | .lst xs, .int i => atI xs i
  | .tup xs, .int i => atI xs i
  | .str z, .int i => if z.length < 1000000 then (atI z.cps.toList i).map fun c => .str ⟨#[c]⟩ else none
  | _, _ => none
theorem RpA.atI {d : Option Addr} {N : Addr → Prop} {H : Hp} {vs : List V} {xs : List Dat} {i : Int} {x : Dat} (h : RpA K mg d N H vs xs) (e : L2.atI xs i = some x) : ∃ v, L2.atI vs i = some v ∧ Rp K mg d N H v x := by
  unfold L2.atI at e ⊢
  rw [h.length]
  cases q : ixN xs.length i with
  | none => rw [q] at e; cases e
  | some j =>
    rw [q] at e
    exact h.get e
theorem ref_ix : RefO K mg (rIx K) dIx := by
  intro d N H v w x y z Q hd hN rv rw' e kq
  cases x <;> cases y <;> first | (cases e; done) | skip
  · rename_i s i
    cases rv; cases rw'
    have e' : (if s.length < 1000000 then (L2.atI s.cps.toList i).map fun c => Dat.str ⟨#[c]⟩ else none) = some z := e
    split at e'
    · rename_i hl
      cases q : L2.atI s.cps.toList i with
      | none => rw [q] at e'; cases e'
      | some c =>
        rw [q] at e'
        cases e'
        exact .inr (.inr ⟨s, i, c, rfl, rfl, le_line hl, q, kq _ H same_refl (.str _)⟩)
    · cases e'
  · rename_i xs i
    cases rw'
    cases rv with
    | tup h1 h2 =>
      obtain ⟨u, e1, r1⟩ := h2.atI e
      exact .inr (.inl ⟨_, _, i, u, rfl, rfl, h1, e1, kq u H same_refl r1⟩)
  · rename_i xs i
    cases rw'
    obtain ⟨a, vs, rfl, e2, _, r⟩ := rv
    obtain ⟨u, e1, r1⟩ := r.atI e
    exact .inl ⟨a, vs, i, u, rfl, rfl, .of e2, e1, kq u H same_refl r1⟩
theorem d_ix (ha : DE X a ta f) (hb : DE X b tb g) (hs : PlainIx b := by exact fun _ _ => rfl) : DS X (.Subscript a b pos) (tOp (rIx X.K) ta tb) (eOp dIx f g) := ⟨pe_ix ix_seq ha.p hb.p hs, re_op ref_ix ha.r hb.r⟩
/-- a written dict with text keys -/
def eKd (tbl : Str → Option Dat) (f : E) : E := fun env δ => (f env δ).bind fun r => match r.1 with
  | .str z => (tbl z).map fun y => (y, r.2)
  | _ => none
theorem d_kd {tbl : Str → Option Dat} {nm : Str} {p : Pos} {ad : Addr} (hg : Gl X nm) (hm : X.mg nm = some (.ref ad)) (ht : ∀ z y, tbl z = some y → ∃ v, KDct X.K X.w ad z v ∧ ∀ d N H, Rp X.K X.mg d N H v y) (hb : DE X b tb g)
    (hd : (nm == ("__debug__" : Str)) = false := by decide) (hs : PlainIx b := by exact fun _ _ => rfl) : DS X (.Subscript (.Name nm p) b pos) (tOp (rIxD X.K X.w) (tC (.ref ad)) tb) (eKd tbl g) := by
  refine ⟨pe_ix ix_kdict (pe_glob hg hm rfl hd) hb.p hs, fun q σ H env δ x δ' Q k ef kq => ?_⟩
  unfold eKd at ef
  cases e1 : g env δ with
  | none => rw [e1] at ef; cases ef
  | some r1 =>
    obtain ⟨y, δ1⟩ := r1
    rw [e1] at ef
    cases y <;> first | (cases ef; done) | skip
    rename_i z
    have ef : ((tbl z).map fun y => (y, δ1)) = some (x, δ') := ef
    cases e2 : tbl z with
    | none => rw [e2] at ef; cases ef
    | some w =>
      rw [e2] at ef
      cases ef
      obtain ⟨v, kd, r⟩ := ht z _ e2
      refine hb.r q σ H env δ _ _ _ k e1 fun u H1 k1 o1 r1 => ?_
      cases r1
      exact ⟨ad, z, v, rfl, rfl, kd, kq v H1 k1 o1 (r _ _ _)⟩
/-! slices -/
abbrev EO := Ev → List Int → Option (Option Int × List Int)
structure DO (X : Cx) (e : Option Expr) (t : TO) (f : EO) : Prop where
  p : PO X e t
  r : ∀ (q : Fm) (σ : St) (H : Hp) (env : Ev) (δ : List Int) (x : Option Int) (δ' : List Int) (Q : Option Int → Hp → Prop), Ok X.K X.mg q σ H env δ → f env δ = some (x, δ') → (∀ H', Keep (isD q.d) H H' → Ok X.K X.mg q σ H' env δ' → Q x H') → t σ H Q
def oNone : EO := fun _ δ => some (none, δ)
def oSome (f : E) : EO := fun env δ => (f env δ).bind fun r => match r.1 with
  | .int i => some (some i, r.2)
  | _ => none
theorem d_onone : DO X none tNoPart oNone := ⟨po_none, fun q σ H env δ x δ' Q k ef kq => by cases ef; exact kq H .refl k⟩
theorem d_osome (ha : DE X a ta f) : DO X (some a) (tPart ta) (oSome f) := by
  refine ⟨po_some ha.p, fun q σ H env δ x δ' Q k ef kq => ?_⟩
  unfold oSome at ef
  cases e1 : f env δ with
  | none => rw [e1] at ef; cases ef
  | some r1 =>
    obtain ⟨y, δ1⟩ := r1
    rw [e1] at ef
    cases y <;> first | (cases ef; done) | skip
    cases ef
    refine ha.r q σ H env δ _ _ _ k e1 fun u H1 k1 o1 r1 => ?_
    cases r1
    exact ⟨_, rfl, kq H1 k1 o1⟩
def cutD (xs : List Dat) (lo hi : Option Int) : List Dat := (xs.drop (HT.sIx xs.length 0 lo)).take (HT.sIx xs.length xs.length hi - HT.sIx xs.length 0 lo)
def dSl : Dat → Option Int → Option Int → Option Dat
  | .str z, lo, hi => if z.length < 1000000 then some (.str (cutS z lo hi)) else none
  | .lst xs, lo, hi => some (.lst (cutD xs lo hi))
  | _, _, _ => none
def eSl (f : E) (fl fh : EO) : E := fun env δ => (f env δ).bind fun r => (fl env r.2).bind fun u => (fh env u.2).bind fun w => (dSl r.1 u.1 w.1).map fun z => (z, w.2)
variable {lo hi : Option Expr} {tl th : TO} {fl fh : EO}
theorem d_sl (ha : DE X a ta f) (hl : DO X lo tl fl) (hh : DO X hi th fh) : DS X (.Subscript a (.Slice lo hi none p2) pos) (tSl (fun x l u H Q => rSlS x l u H Q ∨ rSlL X.K x l u H Q) ta tl th) (eSl f fl fh) := by
  refine ⟨pe_slice (sl_str.or sl_list) ha.p hl.p hh.p, fun q σ H env δ z δ' Q k ef kq => ?_⟩
  unfold eSl at ef
  cases e1 : f env δ with
  | none => rw [e1] at ef; cases ef
  | some r1 =>
    obtain ⟨x, δ1⟩ := r1
    rw [e1] at ef
    simp only [Option.bind_some] at ef
    cases e2 : fl env δ1 with
    | none => rw [e2] at ef; cases ef
    | some r2 =>
      obtain ⟨l, δ2⟩ := r2
      rw [e2] at ef
      simp only [Option.bind_some] at ef
      cases e3 : fh env δ2 with
      | none => rw [e3] at ef; cases ef
      | some r3 =>
        obtain ⟨u, δ3⟩ := r3
        rw [e3] at ef
        simp only [Option.bind_some] at ef
        refine ha.r q σ H env δ x δ1 _ k e1 fun v H1 k1 o1 r1 => ?_
        refine hl.r q σ H1 env δ1 l δ2 _ o1 e2 fun H2 k2 o2 => ?_
        refine hh.r q σ H2 env δ2 u δ3 _ o2 e3 fun H3 k3 o3 => ?_
        have rx := (r1.keep k.dn k2 (fun b z => .inl z)).keep k.dn k3 fun b z => .inl z
        cases x <;> first | (cases ef; done) | skip
        · rename_i s
          have ef : ((if s.length < 1000000 then some (Dat.str (cutS s l u)) else none).map fun z => (z, δ3)) = some (z, δ') := ef
          cases rx
          split at ef
          · rename_i hz
            cases ef
            exact .inl ⟨s, rfl, le_line hz, kq _ H3 ((k1.trans k2).trans k3) o3 (.str _)⟩
          · cases ef
        · rename_i xs
          cases ef
          obtain ⟨aa, vs, rfl, g2, _, r⟩ := rx
          refine .inr ⟨aa, vs, rfl, .of g2, fun p hp => ?_⟩
          have s := same_fresh (o := .lst (cutV vs l u)) hp
          refine kq _ _ (((k1.trans k2).trans k3).trans (.of_same s)) (o3.grow s) (.lst upd_same (o3.free hp) (RpA.keep (.of_same s) (fun b z => .inl z) _ _ ?_))
          unfold cutV cutD
          rw [r.length]
          exact (r.drop _).take _
/-! a text turned round -/
def dRev : Dat → Option Dat
  | .str z => if z.length < 1000000 then some (.str ⟨z.cps.toList.reverse.toArray⟩) else none
  | _ => none
/-! calls of built-ins by data -/
def dLen : List Dat → Option Dat
  | [.lst xs] => some (.int xs.length)
  | [.tup xs] => some (.int xs.length)
  | [.str z] => if z.length < 1000000 then some (.int z.length) else none
  | _ => none
abbrev rLenU (K : PySem.W.Frag) : List V → Hp → VK → Prop := fun xs H Q => (∃ p ys, xs = [V.ref p] ∧ (SqL K H p ys ∨ SqT K H p ys) ∧ Q (.int ys.length) H) ∨ (∃ z : Str, xs = [V.str z] ∧ z.length ≤ sizeLine ∧ Q (.int z.length) H)
theorem call_lenU : CallR X (.builtin "len") (rLenU X.K) := CallR.or call_len_seq call_len_str
theorem bs1 {d : Option Addr} {N : Addr → Prop} {H : Hp} {x : Dat} : ∀ {vs : List V}, RpBs K mg d N H vs [x] → ∃ v, vs = [v] ∧ RpB K mg d N H v x
  | [v], ⟨r, _⟩ => ⟨v, rfl, r⟩
  | [], r => r.elim
  | _ :: _ :: _, ⟨_, r⟩ => r.elim
theorem ref_len : RefC K mg (rLenU K) dLen := by
  intro d N H vs xs z Q hd hN rv e kq
  rcases xs with _ | ⟨x, _ | ⟨y, ys⟩⟩
  · cases e
  · obtain ⟨v, rfl, r⟩ := bs1 rv
    cases x <;> first | (cases e; done) | skip
    · rename_i s
      have e' : (if s.length < 1000000 then some (Dat.int s.length) else none) = some z := e
      cases r
      split at e'
      · rename_i hz
        cases e'
        exact .inr ⟨s, rfl, le_line hz, kq _ H same_refl (.int _)⟩
      · cases e'
    · cases e
      cases r with
      | tup h1 h2 =>
        refine .inl ⟨_, _, rfl, .inr h1, ?_⟩
        rw [h2.length]
        exact kq _ H same_refl (.int _)
    · cases e
      obtain ⟨a, ws, rfl, e2, _, r⟩ := r
      refine .inl ⟨a, ws, rfl, .inl (.of e2), ?_⟩
      rw [r.length]
      exact kq _ H same_refl (.int _)
  · cases x <;> cases e
def dAbs : List Dat → Option Dat
  | [.int i] => some (.int (if i < 0 then -i else i))
  | _ => none
theorem ref_abs : RefC K mg (fun xs H Q => ∃ i, xs = [V.int i] ∧ Q (.int (if i < 0 then -i else i)) H) dAbs := by
  intro d N H vs xs z Q hd hN rv e kq
  rcases xs with _ | ⟨x, _ | ⟨y, ys⟩⟩
  · cases e
  · obtain ⟨v, rfl, r⟩ := bs1 rv
    cases x <;> first | (cases e; done) | skip
    cases e
    cases r
    exact ⟨_, rfl, kq _ H same_refl (.int _)⟩
  · cases x <;> cases e
/-- all(..), any(..) of a list of truths -/
def toB : List Dat → Option (List Bool)
  | [] => some []
  | .bl k :: xs => (toB xs).map fun ks => k :: ks
  | _ => none
theorem RpA.toB {d : Option Addr} {N : Addr → Prop} {H : Hp} : ∀ {xs : List Dat} {vs : List V} {ks : List Bool}, RpA K mg d N H vs xs → Dl.toB xs = some ks → vs = ks.map V.bl
  | [], _, _, h, e => by cases h; cases e; rfl
  | x :: xs, _, ks, h, e => by
    cases h with
    | cons h1 h2 =>
      cases x <;> first | (cases e; done) | skip
      rename_i kb
      have e : ((Dl.toB xs).map fun ks => kb :: ks) = some ks := e
      cases e1 : Dl.toB xs with
      | none => rw [e1] at e; cases e
      | some us =>
        rw [e1] at e
        cases e
        cases h1
        rw [RpA.toB h2 e1]
        rfl
def dAll : List Dat → Option Dat
  | [.lst xs] => (toB xs).map fun ks => .bl (ks.all id)
  | _ => none
def dAny : List Dat → Option Dat
  | [.lst xs] => (toB xs).map fun ks => .bl (ks.any id)
  | _ => none
theorem ref_all : RefC K mg (rAll K) dAll := by
  intro d N H vs xs z Q hd hN rv e kq
  rcases xs with _ | ⟨x, _ | ⟨y, ys⟩⟩
  · cases e
  · obtain ⟨v, rfl, r⟩ := bs1 rv
    cases x <;> first | (cases e; done) | skip
    rename_i ys
    have e : ((toB ys).map fun ks => Dat.bl (ks.all id)) = some z := e
    obtain ⟨a, ws, rfl, e2, _, r⟩ := r
    cases e1 : toB ys with
    | none => rw [e1] at e; cases e
    | some ks =>
      rw [e1] at e
      cases e
      rw [r.toB e1] at e2
      exact ⟨a, ks, rfl, .of e2, kq _ H same_refl (.bl _)⟩
  · cases x <;> cases e
theorem ref_any : RefC K mg (rAny K) dAny := by
  intro d N H vs xs z Q hd hN rv e kq
  rcases xs with _ | ⟨x, _ | ⟨y, ys⟩⟩
  · cases e
  · obtain ⟨v, rfl, r⟩ := bs1 rv
    cases x <;> first | (cases e; done) | skip
    rename_i ys
    have e : ((toB ys).map fun ks => Dat.bl (ks.any id)) = some z := e
    obtain ⟨a, ws, rfl, e2, _, r⟩ := r
    cases e1 : toB ys with
    | none => rw [e1] at e; cases e
    | some ks =>
      rw [e1] at e
      cases e
      rw [r.toB e1] at e2
      exact ⟨a, ks, rfl, .of e2, kq _ H same_refl (.bl _)⟩
  · cases x <;> cases e
/-- isinstance(e, T), T a built-in type -/
def tyN : Dat → Option String
  | .non => some "NoneType"
  | .bl _ => some "bool"
  | .int _ => some "int"
  | .str _ => some "str"
  | .tup _ => some "tuple"
  | .lst _ => some "list"
  | _ => none
theorem RpB.ty {d : Option Addr} {N : Addr → Prop} {H : Hp} {x : Dat} {v : V} {n : String} (h : RpB K mg d N H v x) (e : tyN x = some n) : TyX K H v (.type n) := by
  cases x <;> first | (cases e; done) | skip
  · cases h; cases e; exact .base .non
  · cases h; cases e; exact .base (.bl _)
  · cases h; cases e; exact .base (.int _)
  · cases h; cases e; exact .base (.str _)
  · cases e
    cases h with
    | tup h1 h2 =>
      rcases h1 with (h1 | ⟨o, h1⟩) | ⟨o, its, n, h1, h2, _⟩
      · exact .base (.tup h1)
      · exact .fTuple h1
      · exact .kTuple h1 h2
  · cases e
    obtain ⟨a, vs, rfl, e2, _⟩ := h
    exact .base (.lst e2)
def eIsi (T : String) (f : E) : E := fun env δ => (f env δ).bind fun r => (tyN r.1).bind fun n => (kitB n T).map fun k => (.bl k, r.2)
theorem d_isi {T : String} {Tn : Str} {p p3 : Pos} (ha : DE X a ta f) (hg : Gl X "isinstance") (hm : X.mg "isinstance" = none) (hgT : Gl X Tn) (hmT : X.mg Tn = none) (hvT : bootBuiltins Tn = some (.type T)) (hnT : Tn ≠ "__name__" := by decide) (hdT : (Tn == ("__debug__" : Str)) = false := by decide)
    (hs1 : starEach [a, .Name Tn p3] X.env = (false, eval a X.env) :: starEach [.Name Tn p3] X.env := by rfl) (hs2 : starEach [.Name Tn p3] X.env = (false, eval (.Name Tn p3) X.env) :: starEach [] X.env := by rfl) (hpl : (backTo pos (starEach [.Name Tn p3] X.env)).any (·.1) = false := by rfl) :
    DS X (.Call (.Name "isinstance" p) [a, .Name Tn p3] [] pos) (tCB (rIsi X.K) (tCons ta (tCons (tC (.ty T)) tNil))) (eIsi T f) := by
  refine ⟨pe_callB call_isi hg hm PyProof.Rows.boot_isinstance (pa_cons ha.p (pa_cons (pe_bltn (v := .ty T) hgT hmT hvT rfl hnT hdT) pa_nil hs2) hs1) (by decide) (by decide) hs1 hpl, fun q σ H env δ z δ' Q k ef kq => ?_⟩
  unfold eIsi at ef
  cases e1 : f env δ with
  | none => rw [e1] at ef; cases ef
  | some r1 =>
    obtain ⟨x, δ1⟩ := r1
    rw [e1] at ef
    simp only [Option.bind_some] at ef
    cases e2 : tyN x with
    | none => rw [e2] at ef; cases ef
    | some n =>
      rw [e2] at ef
      simp only [Option.bind_some] at ef
      cases e3 : kitB n T with
      | none => rw [e3] at ef; cases ef
      | some kb =>
        rw [e3] at ef
        cases ef
        refine ha.r q σ H env δ x _ _ k e1 fun v H1 k1 o1 r1 => ?_
        exact ⟨v, .ty T, _, _, kb, rfl, .ty T, r1.ty e2, kit_ty e3, kq _ H1 k1 o1 (.bl kb)⟩
/-! methods of texts -/
def toS : List Dat → Option (List Str)
  | [] => some []
  | .str z :: xs => (toS xs).map fun zs => z :: zs
  | _ => none
theorem RpA.toS {d : Option Addr} {N : Addr → Prop} {H : Hp} : ∀ {xs : List Dat} {vs : List V} {ks : List Str}, RpA K mg d N H vs xs → Dl.toS xs = some ks → vs = ks.map V.str
  | [], _, _, h, e => by cases h; cases e; rfl
  | x :: xs, _, ks, h, e => by
    cases h with
    | cons h1 h2 =>
      cases x <;> first | (cases e; done) | skip
      rename_i kb
      have e : ((Dl.toS xs).map fun ks => kb :: ks) = some ks := e
      cases e1 : Dl.toS xs with
      | none => rw [e1] at e; cases e
      | some us =>
        rw [e1] at e
        cases e
        cases h1
        rw [RpA.toS h2 e1]
        rfl
def dJoin : Dat → Dat → Option Dat
  | .str a, .lst xs => (toS xs).bind fun zs => if (zs.map (·.length)).sum + zs.length * a.length < 1000000 then some (.str (Txt.join a zs)) else none
  | _, _ => none
abbrev rJoinV (K : PySem.W.Frag) : V → List V → Hp → VK → Prop := fun x xs H Q => ∃ a p, ∃ ys : List Str, x = .str a ∧ xs = [V.ref p] ∧ (SqL K H p (ys.map V.str) ∨ SqT K H p (ys.map V.str)) ∧
    (ys.map (·.length)).sum + ys.length * a.length ≤ 16777216 ∧ Q (.str (Txt.join a ys)) H
theorem d_join {apos : Pos} (ha : DE X a ta f) (hb : DE X b tb g) (hs : starEach [b] X.env = [(false, eval b X.env)] := by rfl) (hbase : attributeBase a "join" X.env (eval a X.env) = eval a X.env := by rfl) (hline : (apos.endLine == pos.line) = true := by rfl) :
    DS X (.Call (.Attribute a "join" apos) [b] [] pos) (tM1 (rJoinV X.K) ta tb) (eOp dJoin f g) := by
  refine ⟨pe_join ha.p hb.p hs hbase hline, fun q σ H env δ z δ' Q k ef kq => ?_⟩
  unfold eOp at ef
  cases e1 : f env δ with
  | none => rw [e1] at ef; cases ef
  | some r1 =>
    obtain ⟨x, δ1⟩ := r1
    rw [e1] at ef
    cases e2 : g env δ1 with
    | none => simp [e2] at ef
    | some r2 =>
      obtain ⟨y, δ2⟩ := r2
      simp only [Option.bind_some, e2] at ef
      cases x <;> cases y <;> first | (cases ef; done) | skip
      rename_i s xs
      have ef : (((toS xs).bind fun zs => if (zs.map (·.length)).sum + zs.length * s.length < 1000000 then some (Dat.str (Txt.join s zs)) else none).map fun z => (z, δ2)) = some (z, δ') := ef
      cases e3 : toS xs with
      | none => rw [e3] at ef; cases ef
      | some zs =>
        rw [e3] at ef
        simp only [Option.bind_some] at ef
        split at ef
        · rename_i hz
          cases ef
          refine ha.r q σ H env δ _ δ1 _ k e1 fun v H1 k1 o1 r1 => ?_
          cases r1
          refine ⟨⟨s, rfl⟩, hb.r q σ H1 env δ1 _ _ _ o1 e2 fun w H2 k2 o2 r2 => ?_⟩
          obtain ⟨aa, vs, rfl, g2, _, r⟩ := r2
          rw [r.toS e3] at g2
          exact ⟨s, aa, zs, rfl, rfl, .inl (.of g2), by omega, kq _ H2 (k1.trans k2) o2 (.str _)⟩
        · cases ef
/-- 'text'.index(e): found -/
def dIndex : Dat → Dat → Option Dat
  | .str a, .str b => (Txt.index0 a b).map fun k => .int (k : Nat)
  | _, _ => none
theorem d_index {apos : Pos} (hcalm : X.calm = true) (ha : DE X a ta f) (hb : DE X b tb g) (hbase : attributeBase a "index" X.env (eval a X.env) = eval a X.env := by rfl)
    (hfew : ((backTo pos (starEach [b] X.env)).all (fun x => !x.1) && (backToKw pos (keywordEach [] X.env)).all (fun x => x.1.isSome)
      && decide (([b] : List Expr).length + ([] : List Keyword).length + (if ([] : List Keyword).isEmpty then 0 else 1) < 30)) = true := by rfl)
    (hline : (apos.endLine == pos.line) = true := by rfl) (hs : starEach [b] X.env = (false, eval b X.env) :: starEach [] X.env := by rfl) (hplain : (backTo pos (starEach [] X.env)).any (·.1) = false := by rfl) :
    DS X (.Call (.Attribute a "index" apos) [b] [] pos) (tBMS X.K "str" (rIndexX fun _ _ _ _ => False) ta (tCons tb tNil)) (eOp dIndex f g) := by
  refine ⟨pe_bmS PySem.F.plainAttrs_str PySem.F.slot_str_index PySem.F.type_str_index (mt_indexX hcalm takes0) ha.p (pa_cons hb.p pa_nil hs) hbase hfew hline hs hplain, fun q σ H env δ z δ' Q k ef kq => ?_⟩
  unfold eOp at ef
  cases e1 : f env δ with
  | none => rw [e1] at ef; cases ef
  | some r1 =>
    obtain ⟨x, δ1⟩ := r1
    rw [e1] at ef
    cases e2 : g env δ1 with
    | none => simp [e2] at ef
    | some r2 =>
      obtain ⟨y, δ2⟩ := r2
      simp only [Option.bind_some, e2] at ef
      cases x <;> cases y <;> first | (cases ef; done) | skip
      rename_i s u
      have ef : (((Txt.index0 s u).map fun k => Dat.int (k : Nat)).map fun z => (z, δ2)) = some (z, δ') := ef
      cases e3 : Txt.index0 s u with
      | none => rw [e3] at ef; cases ef
      | some kk =>
        rw [e3] at ef
        cases ef
        refine ha.r q σ H env δ _ δ1 _ k e1 fun v H1 k1 o1 r1 => ?_
        cases r1
        refine ⟨rfl, hb.r q σ H1 env δ1 _ _ _ o1 e2 fun w H2 k2 o2 r2 => ?_⟩
        cases r2
        refine ⟨s, u, rfl, rfl, fun k' hk => ?_, fun hk => ?_⟩
        · rw [e3] at hk
          cases hk
          exact kq _ H2 (k1.trans k2) o2 (.int _)
        · rw [e3] at hk
          cases hk
end
/-! ### 8. A def -/
def startE (N : List Str) (xs : List Dat) : Ev := xs.map Slot.val ++ List.replicate (N.length - xs.length) .un
def runG (N : List Str) (g : Sg) : GF := fun xs δ => match g (startE N xs) δ with
  | some (.rt x δ') => some (x, δ')
  | some (.nx _ δ') => some (.non, δ')
  | _ => none
theorem startE_own {N : List Str} {xs : List Dat} {i : Nat} {l : List Dat} : (startE N xs)[i]? ≠ some (.own l) := by
  intro h
  have := List.mem_of_getElem? h
  unfold startE at this
  rcases List.mem_append.mp this with m | m
  · obtain ⟨x, _, e⟩ := List.mem_map.mp m
    cases e
  · have := List.eq_of_mem_replicate m
    cases this
theorem fn_g {P : Program} {w : World} {K : PySem.W.Frag} {mg : Str → Option Value} {base : Heap} {x qual : Str} {st : Stmt} {f : Addr} {fd : FuncData} {N ps : List Str} {k : Nat} {g : Sg} (F : Fun K x qual st f fd) (S : FnScope N ps (defScope st))
    (hb : ∀ (cdv : Value) (A : Around) (outer : List Env) (s : Shared) (H : Hp) (E : XK), Room k (A.deeper (envOfC qual (defScope st) s.heap.objs.size f cdv)) →
      ∃ t, DSs (cxOf CX0 P w K mg base N qual (defScope st) f cdv A outer s H E).nox (defBody st) t g) : FnG P w K mg base (k + 1) f fd ps (runG N g) := by
  refine F.ok S (fun vs H Q E h => ?_) (fun cdv A outer s H vs Q E hr h => ?_)
  · obtain ⟨d, M, xs, δ, y, δ', hl, _, _, _, r, _⟩ := h
    rw [r.length, hl]
  · obtain ⟨d, M, xs, δ, y, δ', hl, hd, hM, hdc, r, hG, hQ⟩ := h
    obtain ⟨t, T⟩ := hb cdv A outer s H E hr
    refine ⟨t, T.p, ?_⟩
    have hpl : ps.length ≤ N.length := by have := congrArg List.length S.pre; rw [List.length_take] at this; omega
    have nn : ∀ b, NN ⟨d, M, H, [], [], []⟩ (L2.start N vs) (startE N xs) b → M b := fun b z => by
      rcases z with z | ⟨l, z⟩ | ⟨i, l, z, _⟩
      · exact z
      · cases z
      · exact absurd z startE_own
    have hN : ∀ b, NN ⟨d, M, H, [], [], []⟩ (L2.start N vs) (startE N xs) b → M b ∨ H b = none := fun b z => .inl (nn b z)
    have k0 : Ok K mg ⟨d, M, H, [], [], []⟩ (L2.start N vs) H (startE N xs) δ := by
      refine ⟨.refl, hdc, hd, hM, ?_, fun i x e => ?_, fun i l e => absurd e startE_own, fun i j l l' a e => absurd e startE_own, .nil, fun a l e => ?_⟩
      · unfold L2.start startE
        simp [r.length]
      · unfold startE at e
        by_cases hi : i < xs.length
        · rw [List.getElem?_append_left (by simpa using hi), List.getElem?_map] at e
          cases q : xs[i]? with
          | none => rw [q] at e; cases e
          | some x' =>
            rw [q] at e
            cases e
            obtain ⟨v, e1, r1⟩ := r.get q
            refine ⟨v, ?_, Rp.keep .refl hN _ _ r1⟩
            unfold L2.start
            rw [List.getElem?_append_left (by rw [List.length_map, r.length]; exact hi), List.getElem?_map, e1]
            rfl
        · rw [List.getElem?_append_right (by simpa using hi)] at e
          have := List.eq_of_mem_replicate (List.mem_of_getElem? e)
          cases this
      · cases e
    unfold runG at hG
    cases e1 : g (startE N xs) δ with
    | none => rw [e1] at hG; cases hG
    | some o =>
      rw [e1] at hG
      refine T.r ⟨d, M, H, [], [], []⟩ (L2.start N vs) H (startE N xs) δ o _ k0 e1 ?_
      cases o with
      | rt x δ1 =>
        cases hG
        exact fun v H' k1 d1 r1 => hQ v H' k1 d1 r1
      | nx env1 δ1 =>
        cases hG
        exact fun σ' H' k1 => hQ _ H' k1.kp k1.dc .non
      | bk _ _ => cases hG
      | ct _ _ => cases hG
end Dl

namespace Dl
open PySem PySem.Spec L2
open PyProof.Rows (envOfC)
section
variable {X : Cx} {e a b c s1 : Expr} {es : List Expr} {t ta tb te : TE} {f g : E} {pos p2 : Pos} {K : PySem.W.Frag} {mg : Str → Option Value}
/-! ### 9. A text turned round -/
theorem sliceRange_rev (n : Nat) : sliceRange ((n : Int) - 1) (-1) (-1) = (List.range n).reverse := by
  unfold sliceRange
  have h1 : ¬ ((-1 : Int) > 0) := by decide
  have hr : (List.range n).map (fun k => n - 1 - k) = (List.range n).reverse := by
    apply List.ext_getElem
    · simp
    · intro i h1 h2
      rw [List.getElem_map, List.getElem_reverse]
      simp
  rw [← hr]
  by_cases h : (n : Int) - 1 > -1
  · have e : ((n : Int) - 1 - -1 - -1 - 1) / (- -1) = (n : Int) := by
      rw [show (- -1 : Int) = 1 by decide, Int.ediv_one]
      omega
    simp only [h1, if_false, h, if_true, e, Int.toNat_natCast]
    apply List.map_congr_left
    intro k hk
    have := List.mem_range.mp hk
    omega
  · have e : n = 0 := by omega
    subst e
    simp
theorem pick_all {α : Type} (xs : Array α) : (List.range xs.size).filterMap (xs[·]?) = xs.toList := by
  have : (List.range xs.size).filterMap (xs[·]?) = (List.range xs.toList.length).filterMap (xs.toList[·]?) := by simp
  rw [this]
  generalize xs.toList = l
  induction l with
  | nil => rfl
  | cons x l ih =>
    rw [List.length_cons, List.range_succ_eq_map, List.filterMap_cons]
    simp only [List.getElem?_cons_zero, List.filterMap_map]
    exact congrArg _ ih
def revS (z : Str) : Str := ⟨z.cps.toList.reverse.toArray⟩
theorem picked_rev (z : Str) : ((Builtin.Str.strSliceIndices none none (-1) z.length).filterMap (z.cps[·]?)).toArray = z.cps.toList.reverse.toArray := by
  have e : Builtin.Str.strSliceIndices none none (-1) z.length = (List.range z.cps.size).reverse := sliceRange_rev z.length
  rw [e, List.filterMap_reverse, pick_all]
theorem pe_strRev (he : PE X a ta) (h1 : PE X s1 (tC (.int (-1)))) : PE X (.Subscript a (.Slice none none (some s1) p2) pos) (fun σ H Q => ta σ H fun x H1 => ∃ z, x = .str z ∧ z.length ≤ sizeLine ∧ Q (.str (revS z)) H1) := by
  refine ⟨fun pins s σ H Q I h => ?_⟩
  refine PyProof.Rows.Subscript_ (thn (he.run pins s σ H _ I h) fun v s1' ⟨x, H1, I1, r1, z, ez, hz, q1⟩ => ?_)
  subst ez
  obtain ⟨t, rfl⟩ := r1
  refine wpAny_Slice ?_
  rw [evalPart_none]
  refine wpAny_pure (wpAny_pure ?_)
  rw [evalPart_some]
  refine thn (h1.run pins s1' σ H1 (fun v H' => v = .int (-1) ∧ H1 = H') I1 ⟨rfl, rfl⟩) fun u s2 ⟨x, H2, I2, r2, ex, eh⟩ => ?_
  subst ex
  cases eh
  obtain ⟨t2, rfl⟩ := r2
  generalize hs3 : ({ s2 with heap := s2.heap.push { cls := .type "slice", data := .fields #[Value.none, Value.none, Value.int (-1) t2] } } : Shared) = s3
  have I3 : Inv X pins σ H1 s3 := by
    rw [← hs3]
    exact I2.kept (t' := s2.toks) fun b ob q => Heap.get?_push_of_some _ q
  have hsl : s3.heap.IsSlice s2.heap.objs.size none none (some (-1, t2)) := by
    rw [← hs3]
    exact ⟨_, Heap.get?_push_size _ rfl, rfl, rfl⟩
  show wpAny (model X.prog X.w) X.A (PyProof.Rows.subscriptTail a (.Slice none none (some s1) p2) (.str z t) (.ref s2.heap.objs.size)) (EP X pins σ Q) X.xe s3
  refine PyProof.Rows.tail_any (ops := [.ref s2.heap.objs.size, .str z t]) (typeIs_str _ _ _) F.slot_str_getitem.lookup ?_ (by with_unfolding_all rfl)
  refine wpAny_getItem_str_slice (l := none) (u := none) (st := some (-1, t2)) hsl rfl ?_
  show Made.post (if ((-1 : Int) == 1 && (Builtin.Str.strSliceIndices none none (-1) z.length).length == z.length) = true then Made.val (.str z t) else Made.str ⟨((Builtin.Str.strSliceIndices none none (-1) z.length).filterMap (z.cps[·]?)).toArray⟩) (EP X pins σ Q) s3
  rw [if_neg (by simp), picked_rev]
  exact ⟨by simpa [Str.length] using hz, .str (revS z), H1, I3.tok _, ⟨_, rfl⟩, q1⟩
def eRev (f : E) : E := fun env δ => (f env δ).bind fun r => match r.1 with
  | .str z => if z.length < 1000000 then some (.str (revS z), r.2) else none
  | _ => none
theorem pe_m1c {p3 p4 : Pos} {j : Nat} : PE X (.UnaryOp .USub (.Constant (.int 1) j p3) p4) (tC (.int (-1))) := by
  refine ⟨fun pins s σ H Q I h => ?_⟩
  exact (pe_un un_neg pe_int).run pins s σ H Q I ⟨1, rfl, h⟩
theorem d_rev (ha : DE X a ta f) {p3 p4 : Pos} {j : Nat} : DS X (.Subscript a (.Slice none none (some (.UnaryOp .USub (.Constant (.int 1) j p3) p4)) p2) pos) (fun σ H Q => ta σ H fun x H1 => ∃ z, x = .str z ∧ z.length ≤ sizeLine ∧ Q (.str (revS z)) H1) (eRev f) := by
  refine ⟨pe_strRev ha.p pe_m1c, fun q σ H env δ z δ' Q k ef kq => ?_⟩
  unfold eRev at ef
  cases e1 : f env δ with
  | none => rw [e1] at ef; cases ef
  | some r1 =>
    obtain ⟨x, δ1⟩ := r1
    rw [e1] at ef
    cases x <;> first | (cases ef; done) | skip
    rename_i s
    have ef : (if s.length < 1000000 then some (Dat.str (revS s), δ1) else none) = some (z, δ') := ef
    split at ef
    · rename_i hz
      cases ef
      refine ha.r q σ H env δ _ _ _ k e1 fun v H1 k1 o1 r1 => ?_
      cases r1
      exact ⟨s, rfl, le_line hz, kq _ H1 k1 o1 (.str _)⟩
    · cases ef
/-! ### 10. The dice: a list of whole numbers, shared by all that draw -/
theorem Ok.diceAt {q : Fm} {σ : St} {H : Hp} {env : Ev} {δ : List Int} (k : Ok K mg q σ H env δ) {i : Nat} (he : env[i]? = some (.val .dice)) : ∃ a, q.d = some a ∧ σ[i]? = some (some (.ref a)) ∧ H a = some (.lst (δ.map V.int)) := by
  obtain ⟨v, e1, r⟩ := k.vl i _ he
  cases r with
  | dice h => exact ⟨_, h, e1, k.dc _ h⟩
theorem atI_map {ns : List Int} {i z : Int} (h : L2.atI ns i = some z) : L2.atI (ns.map V.int) i = some (.int z) := by
  unfold L2.atI at h ⊢
  rw [List.length_map]
  cases q : ixN ns.length i with
  | none => rw [q] at h; cases h
  | some j =>
    rw [q] at h
    have h : ns[j]? = some z := h
    show (ns.map V.int)[j]? = _
    rw [List.getElem?_map, h]
    rfl
def eDget (i : Nat) (c : Int) : E := fun env δ => match env[i]? with
  | some (.val .dice) => (L2.atI δ c).map fun z => (.int z, δ)
  | _ => none
theorem d_dget (i : Nat) {z : Int} {j : Nat} {p3 : Pos} (ha : PE X a (tVar i)) (hs : PlainIx (.Constant (.int z) j p3) := by exact fun _ _ => rfl) : DS X (.Subscript a (.Constant (.int z) j p3) pos) (tOp (rIx X.K) (tVar i) (tC (.int z))) (eDget i z) := by
  refine ⟨pe_ix ix_seq ha pe_int hs, fun q σ H env δ x δ' Q k ef kq => ?_⟩
  unfold eDget at ef
  split at ef
  · rename_i he
    obtain ⟨d, hd, e1, e2⟩ := k.diceAt he
    cases e3 : L2.atI δ z with
    | none => rw [e3] at ef; cases ef
    | some y =>
      rw [e3] at ef
      cases ef
      exact ⟨.ref d, e1, .inl ⟨d, _, z, .int y, rfl, rfl, .of e2, atI_map e3, kq _ H .refl k (.int y)⟩⟩
  · cases ef
def eDlen (i : Nat) : E := fun env δ => match env[i]? with
  | some (.val .dice) => some (.int δ.length, δ)
  | _ => none
theorem d_dlen (i : Nat) {p : Pos} (ha : PE X a (tVar i)) (hg : Gl X "len") (hm : X.mg "len" = none) (he : starEach [a] X.env = (false, eval a X.env) :: starEach [] X.env := by rfl) (hpl : (backTo pos (starEach [] X.env)).any (·.1) = false := by rfl) :
    DS X (.Call (.Name "len" p) [a] [] pos) (tCB (rLenU X.K) (tCons (tVar i) tNil)) (eDlen i) := by
  refine ⟨pe_callB call_lenU hg hm PySem.boot_len (pa_cons ha pa_nil he) (by decide) (by decide) he hpl, fun q σ H env δ x δ' Q k ef kq => ?_⟩
  unfold eDlen at ef
  split at ef
  · rename_i he
    cases ef
    obtain ⟨d, hd, e1, e2⟩ := k.diceAt he
    refine ⟨.ref d, e1, .inl ⟨d, _, rfl, .inl (.of e2), ?_⟩⟩
    rw [List.length_map]
    exact kq _ H .refl k (.int _)
  · cases ef
/-- the dice's heap -/
theorem Ok.dput {q : Fm} {σ : St} {H : Hp} {env : Ev} {δ δ' : List Int} (k : Ok K mg q σ H env δ) {d : Addr} (hd : q.d = some d) (hH : H d = some (.lst (δ.map V.int))) :
    Keep (isD q.d) H (upd H d (.lst (δ'.map V.int))) ∧ Ok K mg q σ (upd H d (.lst (δ'.map V.int))) env δ' := by
  have kk : Keep (isD q.d) H (upd H d (.lst (δ'.map V.int))) := fun b o h n => by
    by_cases e : b = d
    · subst e
      rw [hH] at h
      cases h
      exact absurd (n hd) (by intro z; cases z)
    · rw [upd_ne e]
      exact h
  refine ⟨kk, k.step kk fun a ha => ?_⟩
  have : a = d := by
    have ha : q.d = some a := ha
    rw [hd] at ha
    exact (Option.some.inj ha).symm
  subst this
  exact upd_same
theorem map_eraseIdx : ∀ {l : List Int} {n : Nat}, (l.eraseIdx n).map V.int = (l.map V.int).eraseIdx n := by
  intro l
  induction l with
  | nil => intro n; rfl
  | cons x l ih =>
    intro n
    cases n with
    | zero => rfl
    | succ n => simp [ih]
def eDpop (i : Nat) (c : Nat) : E := fun env δ => match env[i]? with
  | some (.val .dice) => (δ[c]?).map fun z => (.int z, δ.eraseIdx c)
  | _ => none
theorem d_dpop (i c : Nat) (hc : (c : Int) < 2 ^ 63) (h : PE X e (tBM X.K "list" rPopAt (tVar i) (tCons (tC (.int c)) tNil))) : DS X e (tBM X.K "list" rPopAt (tVar i) (tCons (tC (.int c)) tNil)) (eDpop i c) := by
  refine ⟨h, fun q σ H env δ x δ' Q k ef kq => ?_⟩
  unfold eDpop at ef
  split at ef
  · rename_i he
    obtain ⟨d, hd, e1, e2⟩ := k.diceAt he
    cases e3 : δ[c]? with
    | none => rw [e3] at ef; cases ef
    | some y =>
      rw [e3] at ef
      cases ef
      obtain ⟨kk, o1⟩ := k.dput (δ' := δ.eraseIdx c) hd e2
      have hlt : c < δ.length := (List.getElem?_eq_some_iff.mp e3).1
      have hix : ixN (δ.map V.int).length (c : Int) = some c := by
        unfold ixN
        rw [if_pos (Int.natCast_nonneg c), if_pos (by rw [List.length_map]; omega), Int.toNat_natCast]
      refine ⟨.ref d, e1, .inl ⟨rfl, _, .of e2⟩, d, _, (c : Int), c, .int y, rfl, rfl, e2, by omega, hc, (ixN_seq hix).1, by rw [List.getElem?_map, e3]; rfl, ?_⟩
      rw [← map_eraseIdx]
      exact kq _ _ kk o1 (.int y)
  · cases ef
def gDset (i : Nat) (c : Int) (f : E) : Sg := fun env δ => (f env δ).bind fun r => match env[i]?, r.1 with
  | some (.val .dice), .int z => (ixN r.2.length c).map fun j => .nx env (r.2.set j z)
  | _, _ => none
theorem d_dset (i : Nat) {z : Int} {j : Nat} {p3 tp : Pos} (ha : PE X a (tVar i)) (he : DS X e te f)
    (h : PS X (.Assign [.Subscript a (.Constant (.int z) j p3) tp] e pos) (tAsg te (gSub (tVar i) (tC (.int z)) rSetL))) : DSt X (.Assign [.Subscript a (.Constant (.int z) j p3) tp] e pos) (tAsg te (gSub (tVar i) (tC (.int z)) rSetL)) (gDset i z f) := by
  refine ⟨h, fun q σ H env δ o D k ef ko => ?_⟩
  unfold gDset at ef
  cases e1 : f env δ with
  | none => rw [e1] at ef; cases ef
  | some r1 =>
    obtain ⟨x, δ1⟩ := r1
    rw [e1] at ef
    simp only [Option.bind_some] at ef
    split at ef
    · rename_i y hy
      cases e2 : ixN δ1.length z with
      | none => rw [e2] at ef; cases ef
      | some jj =>
        rw [e2] at ef
        cases ef
        refine he.r q σ H env δ _ δ1 _ k e1 fun v H1 k1 o1 r => ?_
        cases r
        obtain ⟨d, hd, s1, h2⟩ := o1.diceAt hy
        obtain ⟨_, o2⟩ := o1.dput (δ' := δ1.set jj y) hd h2
        refine ⟨.ref d, s1, d, _, z, jj, rfl, rfl, h2, by rw [List.length_map]; exact e2, ?_⟩
        rw [← List.map_set]
        exact ko σ _ o2
    · cases ef
end
/-! the dice are made -/
def diceF (z : Int) (ns : List Int) : Int := ns.foldl (fun f c => (f * 31 + (if c < 0 then -c else c)) % 2147483647) z
def bigs (ns : List Int) : List Int := ns.filter fun c => decide (1000000000000000000 ≤ c)
def dice (z : Int) (ns : List Int) : List Int := diceF z ns :: 0 :: bigs ns
def spDice (K : PySem.W.Frag) : Sp := fun vs H Q _ => ∃ (a : Addr) (ns : List Int) (z : Int), vs = [.ref a, .int z] ∧ SqL K H a (ns.map V.int) ∧ ns.length ≤ 63 ∧
  ∀ H' p, Same H H' → H p = none → H' p = some (.lst ((dice z ns).map V.int)) → Q (.ref p) H'
abbrev rAbsV : List V → Hp → VK → Prop := fun xs H Q => ∃ i, xs = [V.int i] ∧ Q (.int (if i < 0 then -i else i)) H
def t_dice (K : PySem.W.Frag) : TS :=
  tSeq (tAsg (tVar 1) (gName 2))
    (tSeq (tFor (iList K (tVar 0)) (gName 3) (tAsg (tOp (rI (fun _ j => 0 < j) fun i j => .int (i % j)) (tOp (rI0 fun i j => .int (i + j)) (tOp (rI CMul fun i j => .int (i * j)) (tVar 2) (tC (.int 31))) (tCB rAbsV (tCons (tVar 3) tNil))) (tC (.int 2147483647))) (gName 2)))
      (tRet (tOp rCat (tLst (tCons (tVar 2) (tCons (tC (.int 0)) tNil))) (tLc (iList K (tVar 0)) (gName 3) (tTest (tOp (rI0 fun i j => .bl (decide (j ≤ i))) (tVar 3) (tOp (rI CPow fun i j => .int (i ^ j.toNat)) (tC (.int 10)) (tC (.int 18))))) (tVar 3) [3]))))
theorem int_at {ns : List Int} {i : Nat} {y : V} (hi : (ns.map V.int)[i]? = some y) : ∃ z, ns[i]? = some z ∧ y = .int z := by
  rw [List.getElem?_map] at hi
  cases e : ns[i]? with
  | none => rw [e] at hi; cases hi
  | some z => rw [e] at hi; exact ⟨z, rfl, (Option.some.inj hi).symm⟩
theorem take_more {α : Type} {l : List α} {i : Nat} {x : α} (h : l[i]? = some x) : l.take (i + 1) = l.take i ++ [x] := by
  rw [List.take_add_one, h]
  rfl
theorem dice_read {K : PySem.W.Frag} {vs : List V} {H : Hp} {Q : VK} {E : XK} {n1 n2 n3 n4 : Str} (h : spDice K vs H Q E) : t_dice K { nx := fun _ H' => Q .non H', rt := Q } (L2.start [n1, n2, n3, n4] vs) H := by
  obtain ⟨a, ns, z, rfl, hS, hlen, k⟩ := h
  refine ⟨_, rfl, ?_⟩
  refine ⟨_, rfl, a, rfl, ⟨_, hS⟩, for_list (K := K) (a := a) (xs := ns.map V.int) (fun i σ H' => ∃ v : Option V, σ = [some (.ref a), some (.int z), some (.int (diceF z (ns.take i))), v] ∧ H' = H)
    ⟨none, rfl, rfl⟩ (fun i σ H' _ ⟨_, _, e⟩ => by rw [e]; exact hS) ?_ ?_⟩
  · rintro i y σ H' hi ⟨v, rfl, rfl⟩
    obtain ⟨c, hc, rfl⟩ := int_at hi
    refine ⟨_, rfl, _, _, rfl, rfl, .inr ⟨by decide, by decide⟩, _, rfl, _, rfl, _, _, rfl, rfl, _, _, rfl, rfl, (by show (0 : Int) < 2147483647; decide), some (.int c), ?_, rfl⟩
    rw [take_more hc]
    unfold diceF
    rw [List.foldl_append]
    rfl
  · rintro σ H' ⟨v, rfl, rfl⟩
    rw [List.length_map, List.take_length]
    refine ⟨_, rfl, (by show 2 ≤ sizeLine; rw [sizeLine_eq]; decide), fun p hp => ?_⟩
    have s1 : Same H' (upd H' p (.lst [.int (diceF z ns), .int 0])) := same_fresh hp
    refine ⟨_, rfl, a, rfl, ⟨_, s1.seq hS⟩, fun D hD => ?_⟩
    have hDp : D ≠ p := fun e => by rw [e, upd_same] at hD; cases hD
    refine lc_list (K := K) (a := a) (xs := ns.map V.int) (fun i H2 => H2 = upd (upd H' p (.lst [.int (diceF z ns), .int 0])) D (.lst ((bigs (ns.take i)).map V.int))) rfl (fun i H2 _ e => ?_) ?_ ?_
    · rw [e]
      exact (same_fresh hD).seq (s1.seq hS)
    · rintro i y H2 hi rfl
      obtain ⟨c, hc, rfl⟩ := int_at hi
      refine ⟨rfl, .int c, rfl, 10, 18, rfl, rfl, ⟨by decide, by decide, by decide⟩, _, _, rfl, rfl, _, rfl, ?_⟩
      have hl : (bigs (ns.take i)).length ≤ i := by
        unfold bigs
        refine Nat.le_trans (List.length_filter_le _ _) ?_
        rw [List.length_take]
        exact Nat.min_le_left _ _
      have hi' : i < ns.length := (List.getElem?_eq_some_iff.mp hc).1
      have e18 : ((10 : Int) ^ (18 : Int).toNat) = 1000000000000000000 := by decide
      rw [e18]
      refine ite2 (fun hb => ?_) (fun hb => ?_)
      · refine ⟨.int c, rfl, _, upd_same, ?_, ?_⟩
        · rw [List.length_map, sizeLine_eq]
          omega
        · rw [upd_upd, take_more hc]
          unfold bigs
          rw [List.filter_append, List.map_append]
          have : (List.filter (fun c => decide (1000000000000000000 ≤ c)) [c]) = [c] := by simp [of_decide_eq_true hb]
          rw [this]
          rfl
      · rw [take_more hc]
        unfold bigs
        rw [List.filter_append, List.map_append]
        have : (List.filter (fun c => decide (1000000000000000000 ≤ c)) [c]) = [] := by
          have hb' : ¬ (1000000000000000000 ≤ c) := fun z => hb (decide_eq_true z)
          simp [hb']
        rw [this]
        simp
    · rintro H2 rfl
      rw [List.length_map, List.take_length]
      have hp2 : upd (upd H' p (.lst [.int (diceF z ns), .int 0])) D (.lst ((bigs ns).map V.int)) p = some (.lst [.int (diceF z ns), .int 0]) := by
        rw [upd_ne hDp.symm, upd_same]
      refine ⟨p, D, _, _, rfl, rfl, hp2, upd_same, ?_, fun p2 h2 => ?_⟩
      · have hl : (bigs ns).length ≤ ns.length := List.length_filter_le _ _
        rw [List.length_map, sizeLine_eq]
        simp
        omega
      · have s3 := (s1.trans (same_fresh hD)).trans (same_fresh (o := .lst ([V.int (diceF z ns), .int 0] ++ (bigs ns).map V.int)) h2)
        refine k _ p2 s3 ?_ upd_same
        exact Same.free (s1.trans (same_fresh hD)) h2
/-! the law begins -/
def spLaw (K : PySem.W.Frag) : Sp := fun vs H Q _ => ∃ (a : Addr) (ns : List Int), vs = [.ref a] ∧ SqL K H a (ns.map V.int) ∧ ns.length ≤ 63 ∧ ∀ H', Q (.bl true) H'
def startL (N : List Str) : Ev := .un :: .val .dice :: List.replicate (N.length - 2) .un
theorem fn_law {P : Program} {w : World} {K : PySem.W.Frag} {mg : Str → Option Value} {base : Heap} {x qual : Str} {st st0 : Stmt} {rest : List Stmt} {f : Addr} {fd : FuncData} {N : List Str} {n0 : Str} {k : Nat} {g : Sg} {z : Int} (F : Fun K x qual st f fd) (S : FnScope N [n0] (defScope st)) (hN : 2 ≤ N.length) (hbody : defBody st = st0 :: rest)
    (hb : ∀ (cdv : Value) (A : Around) (outer : List Env) (s : Shared) (H : Hp) (E : XK), Room k (A.deeper (envOfC qual (defScope st) s.heap.objs.size f cdv)) →
      ∃ t, PS (cxOf CX0 P w K mg base N qual (defScope st) f cdv A outer s H E).nox st0 (tAsg (tCall (spDice K) [] E0 (tCons (tVar 0) (tCons (tC (.int z)) tNil))) (gName 1)) ∧ DSs (cxOf CX0 P w K mg base N qual (defScope st) f cdv A outer s H E).nox rest t g)
    (hg : ∀ ns : List Int, ns.length ≤ 63 → ∃ δ', g (startL N) (dice z ns) = some (.rt (.bl true) δ')) : FnOk P w K mg base CX0 (k + 1) f fd [n0] (spLaw K) := by
  refine F.ok S (fun vs H Q E h => ?_) (fun cdv A outer s H vs Q E hr h => ?_)
  · obtain ⟨a, ns, rfl, _⟩ := h
    rfl
  · obtain ⟨a, ns, rfl, hS, hlen, hQ⟩ := h
    obtain ⟨t, T0, T⟩ := hb cdv A outer s H E hr
    rw [hbody]
    refine ⟨_, pss_cons T0 T.p, ?_⟩
    obtain ⟨δ', eg⟩ := hg ns hlen
    have e0 : L2.start N [V.ref a] = some (V.ref a) :: List.replicate (N.length - 1) none := rfl
    obtain ⟨m, hm⟩ : ∃ m, N.length = m + 2 := ⟨N.length - 2, by omega⟩
    rw [e0, hm]
    refine ⟨_, rfl, a, ns, z, rfl, hS, hlen, fun H1 p s1 np hp => ?_⟩
    have es : (some (V.ref a) :: List.replicate (m + 2 - 1) (none : Option V)).set 1 (some (.ref p)) = some (.ref a) :: some (.ref p) :: List.replicate m none := by
      rw [show m + 2 - 1 = m + 1 by omega, List.replicate_succ]
      rfl
    show t _ ((some (V.ref a) :: List.replicate (m + 2 - 1) (none : Option V)).set 1 (some (.ref p))) H1
    rw [es]
    have hst : startL N = .un :: .val .dice :: List.replicate m .un := by unfold startL; rw [hm]; rfl
    have key : ∀ (i : Nat) (sl : Slot), (startL N)[i]? = some sl → sl = .un ∨ (i = 1 ∧ sl = .val .dice) := by
      intro i sl h
      rw [hst] at h
      match i, h with
      | 0, h => exact .inl (Option.some.inj h).symm
      | 1, h => exact .inr ⟨rfl, (Option.some.inj h).symm⟩
      | i + 2, h => exact .inl (List.eq_of_mem_replicate (List.mem_of_getElem? (show (List.replicate m Slot.un)[i]? = some sl from h)))
    have k0 : Ok K mg ⟨some p, fun b => b = p, H1, [], [], []⟩ (some (V.ref a) :: some (V.ref p) :: List.replicate m none) H1 (startL N) (dice z ns) := by
      refine ⟨.refl, fun b hb => ?_, fun b hb => ?_, fun b hb => ?_, ?_, fun i x e => ?_, fun i l e => ?_, fun i j l l' a e => ?_, .nil, fun a l e => ?_⟩
      · cases hb
        exact hp
      · cases hb
        rfl
      · cases hb
        show H1 p ≠ none
        rw [hp]
        intro q; cases q
      · rw [hst]
        simp
      · rcases key i _ e with q | ⟨rfl, q⟩
        · cases q
        · cases q
          exact ⟨.ref p, rfl, .dice rfl⟩
      · rcases key i _ e with q | ⟨_, q⟩ <;> cases q
      · rcases key i _ e with q | ⟨_, q⟩ <;> cases q
      · cases e
    refine T.r _ _ _ _ _ _ _ k0 eg ?_
    intro v H2 _ _ r
    cases r
    exact hQ H2
end Dl

namespace Dl
open PySem PySem.Spec L2
open PyProof.Rows (envOfC)
/-! ### 11. What the generated terms use -/
structure Has (K : PySem.W.Frag) (mg : Str → Option Value) (nm : Str) (st : Stmt) (ps : List Str) (f : Addr) (fd : FuncData) : Prop where
  F : Fun K nm nm st f fd
  m : mg nm = some (.ref f)
  b : Binds K fd ps []
/-- the name calls a def that keeps G -/
def OkG (P : Program) (w : World) (K : PySem.W.Frag) (mg : Str → Option Value) (base : Heap) (k : Nat) (nm : Str) (ps : List Str) (G : GF) : Prop :=
  ∃ (f : Addr) (fd : FuncData), mg nm = some (.ref f) ∧ PySem.W.keepIn K (.ref f) = true ∧ Binds K fd ps [] ∧ FnG P w K mg base k f fd ps G
theorem OkG.mono {P : Program} {w : World} {K : PySem.W.Frag} {mg : Str → Option Value} {base : Heap} {k j : Nat} {nm : Str} {ps : List Str} {G : GF} (h : OkG P w K mg base k nm ps G) (hj : k ≤ j) : OkG P w K mg base j nm ps G := by
  obtain ⟨f, fd, h1, h2, h3, h4⟩ := h
  exact ⟨f, fd, h1, h2, h3, h4.mono hj⟩
theorem Has.ok {P : Program} {w : World} {K : PySem.W.Frag} {mg : Str → Option Value} {base : Heap} {k : Nat} {nm : Str} {st : Stmt} {ps N : List Str} {f : Addr} {fd : FuncData} {g : Sg} (h : Has K mg nm st ps f fd) (S : FnScope N ps (defScope st))
    (hb : ∀ (cdv : Value) (A : Around) (outer : List Env) (s : Shared) (H : Hp) (E : XK), Room k (A.deeper (envOfC nm (defScope st) s.heap.objs.size f cdv)) →
      ∃ t, DSs (cxOf CX0 P w K mg base N nm (defScope st) f cdv A outer s H E).nox (defBody st) t g) : OkG P w K mg base (k + 1) nm ps (runG N g) :=
  ⟨f, fd, h.m, h.F.kp, h.b, fn_g h.F S hb⟩
/-- nothing is promised -/
theorem Has.zero {P : Program} {w : World} {K : PySem.W.Frag} {mg : Str → Option Value} {base : Heap} {k : Nat} {nm : Str} {st : Stmt} {ps : List Str} {f : Addr} {fd : FuncData} (h : Has K mg nm st ps f fd) : OkG P w K mg base k nm ps (fun _ _ => none) := by
  refine ⟨f, fd, h.m, h.F.kp, h.b, fun vs H Q E z => ?_, fun A outer s H args us vs Q E _ _ _ _ z => ?_⟩
  · obtain ⟨d, M, xs, δ, y, δ', hl, _, _, _, r, hG, _⟩ := z
    cases hG
  · obtain ⟨d, M, xs, δ, y, δ', hl, _, _, _, r, hG, _⟩ := z
    cases hG
section
variable {X : Cx} {e a b c elt iter tg : Expr} {es ifs : List Expr} {t ta tb te : TE} {f g fe : E} {ft : ET} {fi fr : EA} {gd : GT} {tgd : TG} {tt : TT} {wi : TI} {ts : List Nat} {tr : TA} {pos p : Pos} {nm : Str}
theorem d_callO {kk : Nat} {ps : List Str} {G : GF} (h : OkG X.prog X.w X.K X.mg X.base kk nm ps G) (hr : Room kk X.A) (hg : Gl X nm)
    (ha : DA X (e :: es) tr fr) (hdb : (nm == ("__debug__" : Str)) = false := by decide) (he : starEach (e :: es) X.env = (false, eval e X.env) :: starEach es X.env := by rfl) (hpl : (backTo pos (starEach es X.env)).any (·.1) = false := by rfl) :
    DS X (.Call (.Name nm p) (e :: es) [] pos) (tCall (spG X.K X.mg ps.length G) [] E0 tr) (eCall G ps.length fr) := by
  obtain ⟨ff, fd, h1, h2, h3, h4⟩ := h
  exact d_call h4 hr hg h1 h2 h3 ha hdb he hpl
def gNever : Sg := fun _ _ => none
theorem d_never {sts : List Stmt} : DSs X sts tNever gNever := ⟨pss_never, fun _ _ _ _ _ _ _ _ e _ => by cases e⟩
theorem d_never1 {st : Stmt} : DSt X st tNever gNever := ⟨ps_never, fun _ _ _ _ _ _ _ _ e _ => by cases e⟩
/-- name = [..] on one line -/
theorem d_setLc {i : Nat} {y : Str} {py spos : Pos} {scope : Scope} {own : List (Str × Nat)} (hc : X.calm = true) (hN : X.N.Nodup) (hy : X.N[i]? = some y) (hyl : X.env.scope.names.lookup y = some .local)
    (hsw : swapsWith (.ListComp elt [⟨tg, iter, ifs, 0⟩] scope pos) (some (.Name y py)) spos.line X.env = pure true) (hi : DI X tg iter wi fi) (ok : BlkOk X.N X.env.scope scope own)
    (hg : ∀ (s : Shared) (H : Hp) (C : Addr) (cl : List (Str × Addr)) (fp : List Addr), DG (X.blk s H scope (compEnvC scope cl C X.env) fp) tg tgd gd ts)
    (ht : ∀ (s : Shared) (H : Hp) (C : Addr) (cl : List (Str × Addr)) (fp : List Addr), DTs (X.blk s H scope (compEnvC scope cl C X.env) fp) ifs tt ft)
    (he : ∀ (s : Shared) (H : Hp) (C : Addr) (cl : List (Str × Addr)) (fp : List Addr), DS (X.blk s H scope (compEnvC scope cl C X.env) fp) elt te fe)
    (hts : ∀ j ∈ ts, j ∈ own.map (·.2) := by decide) (hs : ∀ x, foldedSetIterable iter X.env x = pure x := by intro _; rfl) :
    DSt X (.Assign [.Name y py] (.ListComp elt [⟨tg, iter, ifs, 0⟩] scope pos) spos) (tAsg (tLc wi tgd tt te (own.map (·.2))) (gName i)) (gAsg (tgName i) (eF (fLc fi gd ft fe (own.map (·.2))))) := by
  have P0 := ps_setLc (i := i) hc hN hy hyl hsw hi.p ok (fun s H C cl fp => (hg s H C cl fp).p) (fun s H C cl fp => (ht s H C cl fp).p) (fun s H C cl fp => (he s H C cl fp).p) hs
  refine ⟨P0, ?_⟩
  have R0 := (d_lc (pos := pos) hc hN hi ok hg ht he hts hs).s.r
  exact rs_asg R0 (rg_name i)
theorem d_ownLc {i : Nat} {y : Str} {py spos : Pos} {scope : Scope} {own : List (Str × Nat)} (hc : X.calm = true) (hN : X.N.Nodup) (hy : X.N[i]? = some y) (hyl : X.env.scope.names.lookup y = some .local)
    (hsw : swapsWith (.ListComp elt [⟨tg, iter, ifs, 0⟩] scope pos) (some (.Name y py)) spos.line X.env = pure true) (hi : DI X tg iter wi fi) (ok : BlkOk X.N X.env.scope scope own)
    (hg : ∀ (s : Shared) (H : Hp) (C : Addr) (cl : List (Str × Addr)) (fp : List Addr), DG (X.blk s H scope (compEnvC scope cl C X.env) fp) tg tgd gd ts)
    (ht : ∀ (s : Shared) (H : Hp) (C : Addr) (cl : List (Str × Addr)) (fp : List Addr), DTs (X.blk s H scope (compEnvC scope cl C X.env) fp) ifs tt ft)
    (he : ∀ (s : Shared) (H : Hp) (C : Addr) (cl : List (Str × Addr)) (fp : List Addr), DS (X.blk s H scope (compEnvC scope cl C X.env) fp) elt te fe)
    (hts : ∀ j ∈ ts, j ∈ own.map (·.2) := by decide) (hs : ∀ x, foldedSetIterable iter X.env x = pure x := by intro _; rfl) :
    DSt X (.Assign [.Name y py] (.ListComp elt [⟨tg, iter, ifs, 0⟩] scope pos) spos) (tAsg (tLc wi tgd tt te (own.map (·.2))) (gName i)) (gOwn i (fLc fi gd ft fe (own.map (·.2)))) := by
  have P0 := ps_setLc (i := i) hc hN hy hyl hsw hi.p ok (fun s H C cl fp => (hg s H C cl fp).p) (fun s H C cl fp => (ht s H C cl fp).p) (fun s H C cl fp => (he s H C cl fp).p) hs
  refine ⟨P0, ?_⟩
  have R0 := (d_lc (pos := pos) hc hN hi ok hg ht he hts hs).r
  intro q σ H env δ o D k ef ko
  unfold gOwn at ef
  cases e1 : fLc fi gd ft fe (own.map (·.2)) env δ with
  | none => rw [e1] at ef; cases ef
  | some r1 =>
    rw [e1] at ef
    cases ef
    exact R0 q σ H env δ r1.1 r1.2 _ k e1 fun p H1 k1 hp o1 => ko _ H1 (o1.goOwn hp i)
/-- list(x) -/
def fList (fr : EA) : EA := fun env δ => (fr env δ).bind fun r => match r.1 with
  | [.lst xs] => some (xs, r.2)
  | _ => none
abbrev rListV (K : PySem.W.Frag) : List V → Hp → VK → Prop := fun xs H Q => ∃ p ys, xs = [V.ref p] ∧ (SqL K H p ys ∨ SqT K H p ys) ∧ ∀ l, H l = none → Q (.ref l) (upd H l (.lst ys))
theorem d_list (hg : Gl X "list") (hm : X.mg "list" = none) (ha : DAB X (e :: es) tr fr) (he : starEach (e :: es) X.env = (false, eval e X.env) :: starEach es X.env := by rfl) (hpl : (backTo pos (starEach es X.env)).any (·.1) = false := by rfl) :
    DF X (.Call (.Name "list" p) (e :: es) [] pos) (tCB (rListV X.K) tr) (fList fr) := by
  refine ⟨pe_callTy call_list_of hg hm PyProof.Rows.boot_list ha.p (by decide) (by decide) he hpl, fun q σ H env δ l δ' Q k ef kq => ?_⟩
  unfold fList at ef
  cases e1 : fr env δ with
  | none => rw [e1] at ef; cases ef
  | some r1 =>
    obtain ⟨xs, δ1⟩ := r1
    rw [e1] at ef
    simp only [Option.bind_some] at ef
    split at ef
    · cases ef
      refine ha.r q σ H env δ _ _ _ k e1 fun vs H1 k1 o1 r1 => ?_
      obtain ⟨v, rfl, r⟩ := bs1 r1
      obtain ⟨a, ws, rfl, e2, _, r⟩ := r
      refine ⟨a, ws, rfl, .inl (.of e2), fun p hp => ?_⟩
      obtain ⟨o2, h2⟩ := o1.pushGo hp r
      exact kq p _ (k1.trans (.fresh hp)) h2 o2
    · cases ef
/-- y.append(x.pop(e)), x.pop(e) -/
def gAppPop (i j : Nat) (f : E) : Sg := fun env δ => (f env δ).bind fun r => match env[i]?, env[j]?, r.1 with
  | some (.own l), some (.own m), .int z => if l.length < 1000000 ∧ i ≠ j ∧ -(2 ^ 63) ≤ z ∧ z < 2 ^ 63 then (ixN m.length z).bind fun n => (m[n]?).map fun y => .nx ((env.set j (.own (m.eraseIdx n))).set i (.own (l ++ [y]))) r.2 else none
  | _, _, _ => none
theorem d_appPop (i j : Nat) {st : Stmt} (hf : DS X e te f) (h : PS X st (tDrop (tBM X.K "list" rAppend (tVar i) (tCons (tBM X.K "list" rPopAt (tVar j) (tCons te tNil)) tNil)))) : DSt X st (tDrop (tBM X.K "list" rAppend (tVar i) (tCons (tBM X.K "list" rPopAt (tVar j) (tCons te tNil)) tNil))) (gAppPop i j f) := by
  refine ⟨h, fun q σ H env δ o D k ef ko => ?_⟩
  unfold gAppPop at ef
  cases e1 : f env δ with
  | none => rw [e1] at ef; cases ef
  | some r1 =>
    obtain ⟨z, δ1⟩ := r1
    rw [e1] at ef
    simp only [Option.bind_some] at ef
    split at ef
    · rename_i l m z hl hm
      split at ef
      · rename_i hc
        cases e2 : ixN m.length z with
        | none => rw [e2] at ef; cases ef
        | some n =>
          rw [e2] at ef
          simp only [Option.bind_some] at ef
          cases e3 : m[n]? with
          | none => rw [e3] at ef; cases ef
          | some yy =>
            rw [e3] at ef
            cases ef
            obtain ⟨a, vs, s1, g1, g3, gr⟩ := k.ow i l hl
            obtain ⟨b, ws, s2, g4, g5, gs⟩ := k.ow j m hm
            refine ⟨.ref a, s1, .inl ⟨rfl, vs, .of g3⟩, .ref b, s2, .inl ⟨rfl, ws, .of g5⟩, ?_⟩
            refine hf.r q σ H env δ (.int z) δ1 _ k e1 fun v H1 k1 o1 r => ?_
            cases r
            obtain ⟨a', vs', s1', g1', g3', gr'⟩ := o1.ow i l hl
            rw [s1] at s1'; cases s1'
            obtain ⟨b', ws', s2', g4', g5', gs'⟩ := o1.ow j m hm
            rw [s2] at s2'; cases s2'
            obtain ⟨u, e4, ru⟩ := gs'.get e3
            have hix : ixN ws'.length z = some n := by rw [gs'.length]; exact e2
            have o2 := o1.ownUpd hm s2 (gs'.eraseIdx n)
            have nab : a ≠ b := fun z => hc.2.1 (o1.ds i j l m a hl hm s1 (by rw [z]; exact s2))
            have hl2 : (env.set j (.own (m.eraseIdx n)))[i]? = some (.own l) := by rw [List.getElem?_set_ne (fun z => hc.2.1 z.symm)]; exact hl
            refine ⟨b, ws', z, n, u, rfl, rfl, g5', hc.2.2.1, hc.2.2.2, (ixN_seq hix).1, e4, ?_⟩
            refine ⟨a, vs', u, rfl, rfl, by rw [upd_ne nab]; exact g3', by rw [gr'.length]; exact lt_line hc.1, ?_⟩
            obtain ⟨a2, vs2, s3, h1, h3, hr3⟩ := o2.ow i l hl2
            rw [s1] at s3; cases s3
            rw [upd_ne nab, g3'] at h3
            cases h3
            refine ko σ _ (o2.ownUpd hl2 s1 (hr3.append (.cons ?_ .nil)))
            have hK : Keep (NN q σ env) H1 (upd H1 b (.lst (ws'.eraseIdx n))) := fun c o h nn => by
              by_cases e : c = b
              · subst e
                rw [g5'] at h
                cases h
                exact absurd (nn (.inr (.inr ⟨j, m, hm, s2⟩))) (by intro z; cases z)
              · rw [upd_ne e]; exact h
            refine Rp.keep hK (fun c z => .inl ?_) _ _ ru
            rcases z with z | z | ⟨j2, l2, z1, z2⟩
            · exact .inl z
            · exact .inr (.inl z)
            · rcases get_set_some z1 with ⟨rfl, e', _⟩ | ⟨_, z1'⟩
              · exact .inr (.inr ⟨_, m, hm, z2⟩)
              · exact .inr (.inr ⟨j2, l2, z1', z2⟩)
      · cases ef
    · cases ef
/-- a name of the module: a written dict with text keys -/
def KdO (K : PySem.W.Frag) (w : World) (mg : Str → Option Value) (nm : Str) (ad : Addr) (tbl : Str → Option Dat) : Prop := mg nm = some (.ref ad) ∧ ∀ z y, tbl z = some y → ∃ v, KDct K w ad z v ∧ ∀ d N H, Rp K mg d N H v y
theorem d_kdO {ad : Addr} {tbl : Str → Option Dat} (h : KdO X.K X.w X.mg nm ad tbl) (hg : Gl X nm) (hb : DE X b tb g) (hd : (nm == ("__debug__" : Str)) = false := by decide) (hs : PlainIx b := by exact fun _ _ => rfl) :
    DS X (.Subscript (.Name nm p) b pos) (tOp (rIxD X.K X.w) (tC (.ref ad)) tb) (eKd tbl g) := d_kd hg h.1 h.2 hb hd hs
end
/-! short names of readings -/
abbrev r_sub : R2 := rI0 fun i j => .int (i - j)
abbrev r_mul : R2 := rI CMul fun i j => .int (i * j)
abbrev r_mod : R2 := rI (fun _ j => 0 < j) fun i j => .int (i % j)
abbrev r_fdiv : R2 := rI CDiv fun i j => .int (i / j)
abbrev r_pow : R2 := rI CPow fun i j => .int (i ^ j.toNat)
abbrev r_lt : R2 := rI0 fun i j => .bl (decide (i < j))
abbrev r_le : R2 := rI0 fun i j => .bl (decide (i ≤ j))
abbrev r_gt : R2 := rI0 fun i j => .bl (decide (j < i))
abbrev r_ge : R2 := rI0 fun i j => .bl (decide (j ≤ i))
abbrev t_neg (t : TE) : TE := tUn (rU fun i => .int (-i)) t
abbrev t_tru (K : PySem.W.Frag) (t : TE) : TT := fun σ H Q => t σ H fun x H' => ∃ k, TruV K x H' k ∧ Q k H'
abbrev t_rev (t : TE) : TE := fun σ H Q => t σ H fun x H1 => ∃ z, x = .str z ∧ z.length ≤ sizeLine ∧ Q (.str (revS z)) H1
abbrev r_sl (K : PySem.W.Frag) : V → Option Int → Option Int → Hp → VK → Prop := fun x l u H Q => rSlS x l u H Q ∨ rSlL K x l u H Q
theorem rpTup2 {K : PySem.W.Frag} {mg : Str → Option Value} {t : Addr} {dd : Option Addr} {m : Nat} {sl : Array (Option Value)} {i j : Int} {k k' : Tok} (q : K.lookup t = some ⟨.type "tuple", dd, .seq #[.int i k, .int j k'] m, sl⟩) (d : Option Addr) (N : Addr → Prop) (H : Hp) :
    Rp K mg d N H (.ref t) (.tup [.int i, .int j]) :=
  .tup (vs := [.int i, .int j]) (.inr ⟨_, _, _, q, rfl, rfl, (by rw [sizeLine_eq]; show 2 ≤ _; decide), .cons ⟨_, rfl⟩ (.cons ⟨_, rfl⟩ .nil)⟩) (.cons (.int _) (.cons (.int _) .nil))
end Dl

namespace Dl
open PySem PySem.Spec L2
/-! ### 12. Reckoning: one lemma a word -/
section
variable {env e1 e2 : Ev} {δ δ1 δ2 δ3 δ4 : List Int} {i j n : Nat} {x y z u : Dat} {xs ys : List Dat} {l : List Dat} {f g h fe : E} {c d ft : ET} {fr fi : EA} {fl fh : EO} {gd : GT} {gs : GTs} {g1 g2 b : Sg} {F Gg : Dat → Dat → Option Dat} {F1 : Dat → Option Dat} {FC : List Dat → Option Dat} {G : GF} {o : Out} {k : Bool}
theorem eVar_s (h : env[i]? = some (.val x)) : eVar i env δ = some (x, δ) := by unfold eVar; rw [h]
theorem eVarB_v (h : env[i]? = some (.val x)) : eVarB i env δ = some (x, δ) := by unfold eVarB; rw [h]
theorem eVarB_o (h : env[i]? = some (.own l)) : eVarB i env δ = some (.lst l, δ) := by unfold eVarB; rw [h]
theorem eC_s : eC x env δ = some (x, δ) := rfl
theorem eOp_s (h1 : f env δ = some (x, δ1)) (h2 : g env δ1 = some (y, δ2)) (h3 : F x y = some z) : eOp F f g env δ = some (z, δ2) := by
  unfold eOp; rw [h1]; simp [h2, h3]
theorem eUn_s (h1 : f env δ = some (x, δ1)) (h3 : F1 x = some z) : eUn F1 f env δ = some (z, δ1) := by unfold eUn; rw [h1]; simp [h3]
theorem eTest_s (h : f env δ = some (.bl k, δ1)) : eTest f env δ = some (k, δ1) := by unfold eTest; rw [h]; rfl
theorem eAndT_t (h1 : c env δ = some (true, δ1)) (h2 : d env δ1 = some (k, δ2)) : eAndT c d env δ = some (k, δ2) := by unfold eAndT; rw [h1]; simp [h2]
theorem eAndT_f (h1 : c env δ = some (false, δ1)) : eAndT c d env δ = some (false, δ1) := by unfold eAndT; rw [h1]; rfl
theorem eOrT_t (h1 : c env δ = some (true, δ1)) : eOrT c d env δ = some (true, δ1) := by unfold eOrT; rw [h1]; rfl
theorem eOrT_f (h1 : c env δ = some (false, δ1)) (h2 : d env δ1 = some (k, δ2)) : eOrT c d env δ = some (k, δ2) := by unfold eOrT; rw [h1]; simp [h2]
theorem eNotT_s (h1 : c env δ = some (k, δ1)) : eNotT c env δ = some (!k, δ1) := by unfold eNotT; rw [h1]; rfl
theorem eAnd_t (h1 : f env δ = some (.bl true, δ1)) (h2 : g env δ1 = some (x, δ2)) : eAnd f g env δ = some (x, δ2) := by unfold eAnd; rw [h1]; simp [h2]
theorem eAnd_f (h1 : f env δ = some (.bl false, δ1)) : eAnd f g env δ = some (.bl false, δ1) := by unfold eAnd; rw [h1]; rfl
theorem eOr_t (h1 : f env δ = some (.bl true, δ1)) : eOr f g env δ = some (.bl true, δ1) := by unfold eOr; rw [h1]; rfl
theorem eOr_f (h1 : f env δ = some (.bl false, δ1)) (h2 : g env δ1 = some (x, δ2)) : eOr f g env δ = some (x, δ2) := by unfold eOr; rw [h1]; simp [h2]
theorem eNot_s (h1 : f env δ = some (.bl k, δ1)) : eNot f env δ = some (.bl (!k), δ1) := by unfold eNot; rw [h1]; rfl
theorem eTru_s (h1 : f env δ = some (x, δ1)) (h2 : truD x = some k) : eTru f env δ = some (k, δ1) := by unfold eTru; rw [h1]; simp [h2]
theorem eIf_t (h1 : c env δ = some (true, δ1)) (h2 : f env δ1 = some (x, δ2)) : eIf c f g env δ = some (x, δ2) := by unfold eIf; rw [h1]; simp [h2]
theorem eIf_f (h1 : c env δ = some (false, δ1)) (h2 : g env δ1 = some (x, δ2)) : eIf c f g env δ = some (x, δ2) := by unfold eIf; rw [h1]; simp [h2]
theorem aNil_s : aNil env δ = some ([], δ) := rfl
theorem aCons_s (h1 : f env δ = some (x, δ1)) (h2 : fr env δ1 = some (xs, δ2)) : aCons f fr env δ = some (x :: xs, δ2) := by unfold aCons; rw [h1]; simp [h2]
theorem eTup_s (h1 : fr env δ = some (xs, δ1)) (h2 : xs.length < 1000000) : eTup fr env δ = some (.tup xs, δ1) := by unfold eTup; rw [h1]; simp [h2]
theorem eLst_s (h1 : fr env δ = some (xs, δ1)) (h2 : xs.length < 1000000) : eLst fr env δ = some (.lst xs, δ1) := by unfold eLst; rw [h1]; simp [h2]
theorem fLst_s (h1 : fr env δ = some (xs, δ1)) (h2 : xs.length < 1000000) : fLst fr env δ = some (xs, δ1) := by unfold fLst; rw [h1]; simp [h2]
theorem eF_s (h1 : fr env δ = some (xs, δ1)) : eF fr env δ = some (.lst xs, δ1) := by unfold eF; rw [h1]; rfl
theorem eB_s (h1 : fr env δ = some (xs, δ1)) (h2 : FC xs = some z) : eB FC fr env δ = some (z, δ1) := by unfold eB; rw [h1]; simp [h2]
theorem eCall_s {r : Dat × List Int} (h1 : fr env δ = some (xs, δ1)) (hl : xs.length = n) (h2 : G xs δ1 = some r) : eCall G n fr env δ = some r := by unfold eCall; rw [h1]; simp [hl, h2]
theorem eDget_s {cc zz : Int} (h1 : env[i]? = some (.val .dice)) (h2 : L2.atI δ cc = some zz) : eDget i cc env δ = some (.int zz, δ) := by unfold eDget; rw [h1]; simp [h2]
theorem eDlen_s (h1 : env[i]? = some (.val .dice)) : eDlen i env δ = some (.int δ.length, δ) := by unfold eDlen; rw [h1]
theorem eDpop_s {zz : Int} (h1 : env[i]? = some (.val .dice)) (h2 : δ[n]? = some zz) : eDpop i n env δ = some (.int zz, δ.eraseIdx n) := by unfold eDpop; rw [h1]; simp [h2]
theorem oNone_s : oNone env δ = some (none, δ) := rfl
theorem oSome_s {zz : Int} (h1 : f env δ = some (.int zz, δ1)) : oSome f env δ = some (some zz, δ1) := by unfold oSome; rw [h1]; rfl
theorem eSl_s {lo hi : Option Int} (h1 : f env δ = some (x, δ1)) (h2 : fl env δ1 = some (lo, δ2)) (h3 : fh env δ2 = some (hi, δ3)) (h4 : dSl x lo hi = some z) : eSl f fl fh env δ = some (z, δ3) := by
  unfold eSl; rw [h1]; simp [h2, h3, h4]
theorem eRev_s {s : Str} (h1 : f env δ = some (.str s, δ1)) (h2 : s.length < 1000000) : eRev f env δ = some (.str (revS s), δ1) := by unfold eRev; rw [h1]; simp [h2]
theorem eKd_s {tbl : Str → Option Dat} {s : Str} (h1 : f env δ = some (.str s, δ1)) (h2 : tbl s = some x) : eKd tbl f env δ = some (x, δ1) := by unfold eKd; rw [h1]; simp [h2]
theorem eIsi_s {T m : String} (h1 : f env δ = some (x, δ1)) (h2 : tyN x = some m) (h3 : kitB m T = some k) : eIsi T f env δ = some (.bl k, δ1) := by unfold eIsi; rw [h1]; simp [h2, h3]
theorem eChain_f (h1 : f env δ = some (x, δ1)) (h2 : g env δ1 = some (y, δ2)) (h3 : F x y = some (.bl false)) : eChain F Gg f g h env δ = some (.bl false, δ2) := by unfold eChain; rw [h1]; simp [h2, h3]
theorem eChain_t (h1 : f env δ = some (x, δ1)) (h2 : g env δ1 = some (y, δ2)) (h3 : F x y = some (.bl true)) (h4 : h env δ2 = some (z, δ3)) (h5 : Gg y z = some u) : eChain F Gg f g h env δ = some (u, δ3) := by unfold eChain; rw [h1]; simp [h2, h3, h4, h5]
/-! statements -/
theorem gSeq_n (h1 : g1 env δ = some (.nx e1 δ1)) (h2 : g2 e1 δ1 = some o) : gSeq g1 g2 env δ = some o := by unfold gSeq; rw [h1]; exact h2
theorem gSeq_r (h1 : g1 env δ = some (.rt x δ1)) : gSeq g1 g2 env δ = some (.rt x δ1) := by unfold gSeq; rw [h1]; rfl
theorem gSeq_b (h1 : g1 env δ = some (.bk e1 δ1)) : gSeq g1 g2 env δ = some (.bk e1 δ1) := by unfold gSeq; rw [h1]; rfl
theorem gSeq_c (h1 : g1 env δ = some (.ct e1 δ1)) : gSeq g1 g2 env δ = some (.ct e1 δ1) := by unfold gSeq; rw [h1]; rfl
theorem gIf_t (h1 : c env δ = some (true, δ1)) (h2 : g1 env δ1 = some o) : gIf c g1 g2 env δ = some o := by unfold gIf; rw [h1]; simp [h2]
theorem gIf_f (h1 : c env δ = some (false, δ1)) (h2 : g2 env δ1 = some o) : gIf c g1 g2 env δ = some o := by unfold gIf; rw [h1]; simp [h2]
theorem gRet_s (h1 : f env δ = some (x, δ1)) : gRet f env δ = some (.rt x δ1) := by unfold gRet; rw [h1]; rfl
theorem gRetOwn_s (h1 : env[i]? = some (.own l)) : gRetOwn i env δ = some (.rt (.lst l) δ) := by unfold gRetOwn; rw [h1]
theorem gNext_s : gNext env δ = some (.nx env δ) := rfl
theorem gAsg_s (h1 : f env δ = some (x, δ1)) (h2 : gd x env = some e1) : gAsg gd f env δ = some (.nx e1 δ1) := by unfold gAsg; rw [h1]; simp [h2]
theorem gOwn_s (h1 : fr env δ = some (l, δ1)) : gOwn i fr env δ = some (.nx (env.set i (.own l)) δ1) := by unfold gOwn; rw [h1]; rfl
theorem gAppend_s (h1 : f env δ = some (x, δ1)) (h2 : env[i]? = some (.own l)) (h3 : l.length < 1000000) : gAppend i f env δ = some (.nx (env.set i (.own (l ++ [x]))) δ1) := by unfold gAppend; rw [h1]; simp [h2, h3]
theorem gPop_s (h2 : env[i]? = some (.own l)) (h3 : l ≠ []) : gPop i env δ = some (.nx (env.set i (.own l.dropLast)) δ) := by unfold gPop; rw [h2]; simp [h3]
theorem gFreeze_s (h2 : env[i]? = some (.own l)) (h3 : g1 (env.set i (.val (.lst l))) δ = some o) : gFreeze i g1 env δ = some o := by unfold gFreeze; rw [h2]; exact h3
theorem gDset_s {cc zz : Int} (h1 : f env δ = some (.int zz, δ1)) (h2 : env[i]? = some (.val .dice)) (h3 : ixN δ1.length cc = some j) : gDset i cc f env δ = some (.nx env (δ1.set j zz)) := by unfold gDset; rw [h1]; simp [h2, h3]
theorem gFor_s (h1 : fi env δ = some (xs, δ1)) (h2 : forD gd b xs env δ1 = some o) : gFor fi gd b env δ = some o := by unfold gFor; rw [h1]; exact h2
theorem forD_nil : forD gd b [] env δ = some (.nx env δ) := rfl
theorem forD_n (h1 : gd x env = some e1) (h2 : b e1 δ = some (.nx e2 δ1)) (h3 : forD gd b xs e2 δ1 = some o) : forD gd b (x :: xs) env δ = some o := by
  show ((gd x env).bind fun env1 => _) = _
  rw [h1]
  simp [h2, h3]
theorem forD_r (h1 : gd x env = some e1) (h2 : b e1 δ = some (.rt y δ1)) : forD gd b (x :: xs) env δ = some (.rt y δ1) := by
  show ((gd x env).bind fun env1 => _) = _
  rw [h1]
  simp [h2]
theorem while_t (h1 : c env δ = some (true, δ1)) (h2 : b env δ1 = some (.nx e1 δ2)) (h3 : whileD c b n e1 δ2 = some o) : whileD c b (n + 1) env δ = some o := by
  unfold whileD
  rw [h1]
  simp [h2, h3]
theorem while_r (h1 : c env δ = some (true, δ1)) (h2 : b env δ1 = some (.rt x δ2)) : whileD c b (n + 1) env δ = some (.rt x δ2) := by
  unfold whileD
  rw [h1]
  simp [h2]
theorem while_f (h1 : c env δ = some (false, δ1)) : whileD c b (n + 1) env δ = some (.nx env δ1) := by
  unfold whileD
  rw [h1]
  simp
/-! what is walked; comprehensions -/
theorem iLst_s (h1 : f env δ = some (.lst xs, δ1)) : iLst f env δ = some (xs, δ1) := by unfold iLst; rw [h1]; rfl
theorem iTupD_s (h1 : f env δ = some (.tup xs, δ1)) : iTupD f env δ = some (xs, δ1) := by unfold iTupD; rw [h1]; rfl
theorem iStrD_s {s : Str} (h1 : f env δ = some (.str s, δ1)) : iStrD f env δ = some (s.cps.toList.map fun c => .str ⟨#[c]⟩, δ1) := by unfold iStrD; rw [h1]; rfl
theorem iR1_s {zz : Int} (h1 : fr env δ = some ([.int zz], δ1)) (h2 : bnd zz = true) : iR1 fr env δ = some (rangeD 0 zz, δ1) := by unfold iR1; rw [h1]; simp [h2]
theorem iR2_s {zz ww : Int} (h1 : fr env δ = some ([.int zz, .int ww], δ1)) (h2 : (bnd zz && bnd ww) = true) : iR2 fr env δ = some (rangeD zz ww, δ1) := by unfold iR2; rw [h1]; simp only [Option.bind_some, h2, if_true]
theorem fLc_s {vs : List Nat} (h1 : fi env δ = some (xs, δ1)) (h2 : xs.length < 1000000) (h3 : noOwn env vs = true) (h4 : lcD gd ft fe (wipeE env vs) xs δ1 = some (l, δ2)) : fLc fi gd ft fe vs env δ = some (l, δ2) := by
  unfold fLc; rw [h1]; simp [h2, h3, h4]
theorem lc_nil : lcD gd ft fe env [] δ = some ([], δ) := rfl
theorem lc_t (h1 : gd x env = some e1) (h2 : ft e1 δ = some (true, δ1)) (h3 : fe e1 δ1 = some (y, δ2)) (h4 : lcD gd ft fe env xs δ2 = some (ys, δ3)) : lcD gd ft fe env (x :: xs) δ = some (y :: ys, δ3) := by
  show ((gd x env).bind fun e1 => _) = _
  rw [h1]
  simp [h2, h3, h4]
theorem lc_f (h1 : gd x env = some e1) (h2 : ft e1 δ = some (false, δ1)) (h4 : lcD gd ft fe env xs δ1 = some (ys, δ3)) : lcD gd ft fe env (x :: xs) δ = some (ys, δ3) := by
  show ((gd x env).bind fun e1 => _) = _
  rw [h1]
  simp [h2, h4]
theorem eYes_s : eYes env δ = some (true, δ) := rfl
/-- each item gives one, the dice stay -/
theorem lc_map {φ : Dat → Dat} : ∀ {xs : List Dat}, (∀ x ∈ xs, ∃ e1, gd x env = some e1 ∧ ft e1 δ = some (true, δ) ∧ fe e1 δ = some (φ x, δ)) → lcD gd ft fe env xs δ = some (xs.map φ, δ)
  | [], _ => rfl
  | x :: xs, h => by
    obtain ⟨e1, h1, h2, h3⟩ := h x List.mem_cons_self
    exact lc_t h1 h2 h3 (lc_map fun y hy => h y (List.mem_cons_of_mem _ hy))
/-- a test for each item -/
theorem lc_filter {φ : Dat → Dat} {p : Dat → Bool} : ∀ {xs : List Dat}, (∀ x ∈ xs, ∃ e1, gd x env = some e1 ∧ ft e1 δ = some (p x, δ) ∧ fe e1 δ = some (φ x, δ)) → lcD gd ft fe env xs δ = some ((xs.filter p).map φ, δ)
  | [], _ => rfl
  | x :: xs, h => by
    obtain ⟨e1, h1, h2, h3⟩ := h x List.mem_cons_self
    have ih := lc_filter (p := p) fun y hy => h y (List.mem_cons_of_mem _ hy)
    cases hp : p x with
    | true =>
      rw [hp] at h2
      rw [List.filter_cons_of_pos hp]
      exact lc_t h1 h2 h3 ih
    | false =>
      rw [hp] at h2
      rw [List.filter_cons_of_neg (by simp [hp])]
      exact lc_f h1 h2 ih
theorem runG_r {N : List Str} {g : Sg} (h : g (startE N xs) δ = some (.rt x δ1)) : runG N g xs δ = some (x, δ1) := by unfold runG; rw [h]
theorem runG_n {N : List Str} {g : Sg} (h : g (startE N xs) δ = some (.nx e1 δ1)) : runG N g xs δ = some (.non, δ1) := by unfold runG; rw [h]
/-! operators -/
theorem dAdd_i {i j : Int} : dAdd (.int i) (.int j) = some (.int (i + j)) := rfl
theorem dAdd_s {s t : Str} (h : s.length + t.length < 1000000) : dAdd (.str s) (.str t) = some (.str (s ++ t)) := by
  show (dStrAdd (.str s) (.str t)).orElse _ = _
  show (if s.length + t.length < 1000000 then some (Dat.str (s ++ t)) else none).orElse _ = _
  rw [if_pos h]
  rfl
theorem dAdd_l (h : xs.length + ys.length < 1000000) : dAdd (.lst xs) (.lst ys) = some (.lst (xs ++ ys)) := by
  show (if xs.length + ys.length < 1000000 then some (Dat.lst (xs ++ ys)) else none) = _
  rw [if_pos h]
theorem dSub_i {i j : Int} : dSub (.int i) (.int j) = some (.int (i - j)) := rfl
theorem dMul_r {i j : Int} (h1 : -(2 ^ 64) < j) (h2 : j < 2 ^ 64) : dMul (.int i) (.int j) = some (.int (i * j)) := by
  show (if mulC i j = true then some (Dat.int (i * j)) else none) = _
  rw [if_pos (by unfold mulC; simp only [Bool.or_eq_true, Bool.and_eq_true, decide_eq_true_eq]; exact .inr ⟨h1, h2⟩)]
theorem dMod_i {i j : Int} (h : 0 < j) : dMod (.int i) (.int j) = some (.int (i % j)) := by
  show (if decide (0 < j) = true then some (Dat.int (i % j)) else none) = _
  rw [if_pos (decide_eq_true h)]
theorem dFdiv_i {i j : Int} (h : 0 < j) (h2 : j < 1073741824) : dFdiv (.int i) (.int j) = some (.int (i / j)) := by
  show (if (decide (0 < j) && decide (j < 1073741824)) = true then some (Dat.int (i / j)) else none) = _
  rw [if_pos (by simp [h, h2])]
theorem dLt_i {i j : Int} : dLt (.int i) (.int j) = some (.bl (decide (i < j))) := rfl
theorem dLe_i {i j : Int} : dLe (.int i) (.int j) = some (.bl (decide (i ≤ j))) := rfl
theorem dGt_i {i j : Int} : dGt (.int i) (.int j) = some (.bl (decide (j < i))) := rfl
theorem dGe_i {i j : Int} : dGe (.int i) (.int j) = some (.bl (decide (j ≤ i))) := rfl
theorem shaped_int (i : Int) : SeqAt.shaped (.int i) = true := rfl
theorem dEq_i {i j : Int} : dEq (.int i) (.int j) = some (.bl (decide (i = j))) := by
  show (if (SeqAt.shaped (.int i) && SeqAt.shaped (.int j)) = true then some (PyData.eqv (.int i) (.int j)) else none).map Dat.bl = _
  rw [if_pos (by rw [shaped_int, shaped_int]; rfl)]
  simp [PyData.eqv, Bool.beq_eq_decide_eq]
theorem dNe_i {i j : Int} : dNe (.int i) (.int j) = some (.bl (!decide (i = j))) := by
  show (if (SeqAt.shaped (.int i) && SeqAt.shaped (.int j)) = true then some (PyData.eqv (.int i) (.int j)) else none).map (fun k => Dat.bl (!k)) = _
  rw [if_pos (by rw [shaped_int, shaped_int]; rfl)]
  simp [PyData.eqv, Bool.beq_eq_decide_eq]
end
/-! texts by their signs -/
def S (w : List Nat) : Str := ⟨w.toArray⟩
theorem S_cps (w : List Nat) : (S w).cps.toList = w := rfl
theorem S_len (w : List Nat) : (S w).length = w.length := by simp [S, Str.length]
theorem S_inj {v w : List Nat} : S v = S w ↔ v = w := by
  constructor
  · intro h
    have := congrArg (fun s : Str => s.cps.toList) h
    exact this
  · rintro rfl; rfl
theorem S_app (v w : List Nat) : S v ++ S w = S (v ++ w) := TL.ext_tl (by rw [TL.tl_append]; rfl)
theorem S_rev (w : List Nat) : revS (S w) = S w.reverse := rfl
theorem joinL_nil : ∀ ws : List (List Nat), TL.joinL [] ws = ws.flatten
  | [] => rfl
  | [p] => by simp [TL.joinL]
  | p :: q :: r => by
    simp only [TL.joinL, List.nil_append, joinL_nil (q :: r), List.flatten_cons]
theorem S_join (ws : List (List Nat)) : Txt.join (S []) (ws.map S) = S ws.flatten := by
  refine TL.ext_tl ?_
  rw [TL.join_eq, TL.tl_join]
  have : (ws.map S).map TL.tl = ws := by
    rw [List.map_map]
    have : (TL.tl ∘ S) = id := rfl
    rw [this, List.map_id]
  rw [this]
  exact joinL_nil ws
theorem S_cut (w : List Nat) (lo hi : Option Int) : cutS (S w) lo hi = S ((w.drop (HT.sIx w.length 0 lo)).take (HT.sIx w.length w.length hi - HT.sIx w.length 0 lo)) := by
  unfold cutS
  rw [S_len]
  rfl
theorem cut_to (w : List Nat) (k : Nat) : cutS (S w) none (some (k : Int)) = S (w.take k) := by
  rw [S_cut, HT.sIx_none, HT.sIx_nat]
  simp [List.take_take]
  congr 1
  by_cases h : k ≤ w.length
  · rw [Nat.min_eq_left h]
  · rw [Nat.min_eq_right (by omega), List.take_of_length_le (by omega), List.take_of_length_le (by omega)]
theorem cut_from (w : List Nat) (k : Nat) : cutS (S w) (some (k : Int)) none = S (w.drop k) := by
  rw [S_cut, HT.sIx_none, HT.sIx_nat]
  congr 1
  by_cases h : k ≤ w.length
  · rw [Nat.min_eq_left h, List.take_of_length_le (by rw [List.length_drop]; exact Nat.le_refl _)]
  · rw [Nat.min_eq_right (show w.length ≤ k by omega), List.drop_of_length_le (show w.length ≤ k by omega)]
    simp
theorem cut_mid (w : List Nat) (k m : Nat) (h : k + m ≤ w.length) : cutS (S w) (some (k : Int)) (some ((k + m : Nat) : Int)) = S ((w.drop k).take m) := by
  rw [S_cut, HT.sIx_nat, HT.sIx_nat, Nat.min_eq_left (show k ≤ w.length by omega), Nat.min_eq_left h]
  congr 2
  omega
theorem S_ok {w : List Nat} (h : ∀ c ∈ w, c < 128) : SeqAt.shaped (.str (S w)) = true := by
  unfold SeqAt.shaped
  rw [Bool.and_eq_true]
  refine ⟨?_, by simp [PyData.depth]⟩
  show PyData.strOk (S w) = true
  unfold PyData.strOk S
  rw [Array.all_eq_true]
  intro i hi
  have : w[i] ∈ w := List.getElem_mem _
  have := h _ this
  simp
  omega
theorem eqD_S {v w : List Nat} (hv : ∀ c ∈ v, c < 128) (hw : ∀ c ∈ w, c < 128) : eqD (.str (S v)) (.str (S w)) = some (decide (v = w)) := by
  show (if (SeqAt.shaped (.str (S v)) && SeqAt.shaped (.str (S w))) = true then some (PyData.eqv (.str (S v)) (.str (S w))) else none) = _
  rw [if_pos (by rw [S_ok hv, S_ok hw]; rfl)]
  congr 1
  show (S v == S w) = decide (v = w)
  rw [Bool.beq_eq_decide_eq]
  simp [S_inj]
theorem dEq_S {v w : List Nat} (hv : ∀ c ∈ v, c < 128) (hw : ∀ c ∈ w, c < 128) : dEq (.str (S v)) (.str (S w)) = some (.bl (decide (v = w))) := by
  unfold dEq; rw [eqD_S hv hw]; rfl
theorem dNe_S {v w : List Nat} (hv : ∀ c ∈ v, c < 128) (hw : ∀ c ∈ w, c < 128) : dNe (.str (S v)) (.str (S w)) = some (.bl (!decide (v = w))) := by
  unfold dNe; rw [eqD_S hv hw]; rfl
theorem toS_map (ws : List (List Nat)) : toS (ws.map fun w => .str (S w)) = some (ws.map S) := by
  induction ws with
  | nil => rfl
  | cons w ws ih =>
    show (toS (ws.map fun w => .str (S w))).map _ = _
    rw [ih]
    rfl
theorem sum_le_flat (ws : List (List Nat)) : ((ws.map S).map (·.length)).sum = ws.flatten.length := by
  induction ws with
  | nil => rfl
  | cons w ws ih => simp only [List.map_cons, List.sum_cons, ih, S_len, List.flatten_cons, List.length_append]
theorem dJoin_S {ws : List (List Nat)} (h : ws.flatten.length < 1000000) : dJoin (.str (S [])) (.lst (ws.map fun w => .str (S w))) = some (.str (S ws.flatten)) := by
  show ((toS (ws.map fun w => Dat.str (S w))).bind fun zs => if (zs.map (·.length)).sum + zs.length * (S []).length < 1000000 then some (Dat.str (Txt.join (S []) zs)) else none) = _
  rw [toS_map]
  simp only [Option.bind_some]
  rw [sum_le_flat, S_len, S_join, List.length_nil, Nat.mul_zero, Nat.add_zero, if_pos h]
/-! pairs, lists of them -/
def pD (p : Int × Int) : Dat := .tup [.int p.1, .int p.2]
def prP (p : Int × Int) : PyData := .tuple [.int p.1, .int p.2]
theorem toPy_pr (p : Int × Int) : toPy (pD p) = some (prP p) := by simp [pD, prP, toPy, toPyA]
theorem toPyA_pr : ∀ l : List (Int × Int), toPyA (l.map pD) = some (l.map prP)
  | [] => by simp [toPyA]
  | p :: l => by simp [toPyA, toPy_pr, toPyA_pr l]
theorem shaped_pr (p : Int × Int) : SeqAt.shaped (prP p) = true := by
  unfold SeqAt.shaped prP
  rw [Bool.and_eq_true]
  exact ⟨by simp [PyData.canLay0, PyData.canLayAll0], by simp [PyData.depth, PyData.depthAll]⟩
theorem lay_prs : ∀ l : List (Int × Int), PyData.canLayAll0 (l.map prP) = true
  | [] => by simp [PyData.canLayAll0]
  | p :: l => by simp [PyData.canLayAll0, lay_prs l, prP, PyData.canLay0]
theorem depth_prs : ∀ l : List (Int × Int), PyData.depthAll (l.map prP) ≤ 1
  | [] => by simp [PyData.depthAll]
  | p :: l => by
    have := depth_prs l
    simp only [List.map_cons, PyData.depthAll, prP, PyData.depth]
    (try simp only [prP] at this)
    omega
theorem shaped_prs (l : List (Int × Int)) : SeqAt.shaped (.list (l.map prP)) = true := by
  unfold SeqAt.shaped
  rw [Bool.and_eq_true]
  refine ⟨by simp only [PyData.canLay0]; exact lay_prs l, decide_eq_true ?_⟩
  have := depth_prs l
  simp only [PyData.depth]
  omega
theorem eqv_pr (p q : Int × Int) : PyData.eqv (prP p) (prP q) = decide (p = q) := by
  obtain ⟨a, b⟩ := p
  obtain ⟨c, d⟩ := q
  simp only [prP, PyData.eqv, PyData.eqvAll, Bool.and_true, Bool.beq_eq_decide_eq, Prod.mk.injEq]
  by_cases h : a = c <;> by_cases h' : b = d <;> simp [h, h']
theorem eqv_prs : ∀ l m : List (Int × Int), PyData.eqvAll (l.map prP) (m.map prP) = decide (l = m)
  | [], [] => by simp [PyData.eqvAll]
  | [], _ :: _ => by simp [PyData.eqvAll]
  | _ :: _, [] => by simp [PyData.eqvAll]
  | p :: l, q :: m => by
    simp only [List.map_cons, PyData.eqvAll, eqv_pr, eqv_prs l m, List.cons.injEq]
    by_cases h : p = q <;> by_cases h' : l = m <;> simp [h, h']
theorem eqD_pr (p q : Int × Int) : eqD (pD p) (pD q) = some (decide (p = q)) := by
  unfold eqD
  rw [toPy_pr, toPy_pr]
  simp only [Option.bind_some, shaped_pr, Bool.and_self, if_true, eqv_pr]
theorem eqD_prs (l m : List (Int × Int)) : eqD (.lst (l.map pD)) (.lst (m.map pD)) = some (decide (l = m)) := by
  unfold eqD
  simp only [toPy, toPyA_pr, Option.map_some, Option.bind_some, shaped_prs, Bool.and_self, if_true, PyData.eqv, eqv_prs]
theorem inD_pr (p : Int × Int) (l : List (Int × Int)) : inD (pD p) (l.map pD) = some (decide (p ∈ l)) := by
  unfold inD
  rw [toPy_pr, toPyA_pr]
  simp only [Option.bind_some, shaped_pr, shaped_prs, Bool.and_self, if_true, List.any_map]
  congr 1
  rw [Bool.eq_iff_iff, List.any_eq_true, decide_eq_true_iff]
  constructor
  · rintro ⟨x, hx, e⟩
    have : PyData.eqv (prP x) (prP p) = true := e
    rw [eqv_pr, decide_eq_true_iff] at this
    rw [← this]
    exact hx
  · intro h
    refine ⟨p, h, ?_⟩
    show PyData.eqv (prP p) (prP p) = true
    rw [eqv_pr]
    simp
theorem atI_nat' {α : Type} {xs : List α} {j : Nat} {v : α} {i : Int} (hi : i = (j : Int)) (h : xs[j]? = some v) : L2.atI xs i = some v := by
  rw [hi]
  exact L2.atI_nat h
theorem atI_neg1 {α : Type} {xs : List α} {v : α} (h : xs.getLast? = some v) : L2.atI xs (-1) = some v := by
  obtain ⟨ys, rfl⟩ := List.getLast?_eq_some_iff.mp h
  exact L2.atI_last ys v
theorem ixN_lt {n j : Nat} {i : Int} (hi : i = (j : Int)) (h : j < n) : ixN n i = some j := by
  subst hi
  unfold ixN
  rw [if_pos (Int.natCast_nonneg j), if_pos (by omega), Int.toNat_natCast]
end Dl

/-! What defs of the program and of the laws are worth, by data (printed from the text by a tool of mine). -/
namespace Cm
open PySem PySem.Spec L2 Dl
def tbl_MOVES : Str → Option Dat := fun z => if z = "e" then some (.tup [.int 1, .int 0]) else if z = "n" then some (.tup [.int 0, .int 1]) else if z = "w" then some (.tup [.int (-1), .int 0]) else if z = "s" then some (.tup [.int 0, .int (-1)]) else none
def tbl_BACK : Str → Option Dat := fun z => if z = "e" then some (.str "w") else if z = "n" then some (.str "s") else if z = "w" then some (.str "e") else if z = "s" then some (.str "n") else none
abbrev N_p_corners : List Str := ["corner", "word", "x", "y", "found", "step", "right", "up"]
def b_p_corners_1 : Sg := (gSeq (gAsg (tgTup 2 (tgCons (tgName 6) (tgCons (tgName 7) tgNil))) (eKd tbl_MOVES (eVar 5)))
    (gSeq (gAsg (tgName 2) (eOp dAdd (eVar 2) (eVar 6)))
    (gSeq (gAsg (tgName 3) (eOp dAdd (eVar 3) (eVar 7)))
    (gAppend 4 (eTup (aCons (eVar 2) (aCons (eVar 3) aNil)))))))
def g_p_corners : Sg :=
    (gSeq (gAsg (tgTup 2 (tgCons (tgName 2) (tgCons (tgName 3) tgNil))) (eVar 0))
    (gSeq (gOwn 4 (fLst (aCons (eTup (aCons (eVar 2) (aCons (eVar 3) aNil))) aNil)))
    (gSeq (gFor (iStrD (eVar 1)) (tgName 5) b_p_corners_1)
    (gRetOwn 4))))
def G_p_corners : GF := runG N_p_corners g_p_corners
abbrev N_p_reduced : List Str := ["word", "kept", "step"]
def b_p_reduced_1 : Sg := (gIf (eAndT (eTru (eVarB 1)) (eTest (eOp dEq (eOp dIx (eVarB 1) (eUn dNeg (eC (.int 1)))) (eKd tbl_BACK (eVar 2))))) (gPop 1) (gAppend 1 (eVar 2)))
def g_p_reduced : Sg :=
    (gSeq (gOwn 1 (fLst aNil))
    (gSeq (gFor (iStrD (eVar 0)) (tgName 2) b_p_reduced_1)
    (gRet (eOp dJoin (eC (.str "")) (eVarB 1)))))
def G_p_reduced : GF := runG N_p_reduced g_p_reduced
abbrev N_p_inverse : List Str := ["word", "step"]
def g_p_inverse : Sg :=
    (gRet (eOp dJoin (eC (.str "")) (eF (fLc (iStrD (eRev (eVar 0))) (tgName 1) eYes (eKd tbl_BACK (eVar 1)) [1]))))
def G_p_inverse : GF := runG N_p_inverse g_p_inverse
abbrev N_l_off : List Str := ["_law_d", "_law_most", "_law_found"]
def g_l_off : Sg :=
    (gSeq (gIf (eAndT (eTest (eOp dEq (eDget 0 1) (eC (.int 0)))) (eTest (eOp dGt (eDlen 0) (eC (.int 2))))) (gDset 0 1 (eDpop 0 2)) gNext)
    (gSeq (gIf (eTest (eOp dGt (eDget 0 1) (eC (.int 0)))) (gSeq (gAsg (tgName 2) (eOp dMod (eDget 0 1) (eVar 1)))
    (gSeq (gDset 0 1 (eOp dFdiv (eDget 0 1) (eVar 1)))
    (gRet (eVar 2)))) gNext)
    (gSeq (gDset 0 0 (eOp dMod (eOp dAdd (eOp dMul (eDget 0 0) (eC (.int 48271))) (eC (.int 11))) (eC (.int 2147483647))))
    (gRet (eOp dMod (eOp dFdiv (eDget 0 0) (eC (.int 64))) (eVar 1))))))
def G_l_off : GF := runG N_l_off g_l_off
abbrev N_l_alike : List Str := ["_law_found", "_law_due", "_law_name", "_law_k"]
def g_l_alike (R : GF) : Sg :=
    (gSeq (gIf (eTest (eOp dIsN (eVar 1) (eC .non))) (gRet (eOp dIsN (eVar 0) (eC .non))) gNext)
    (gSeq (gIf (eTru (eIsi "bool" (eVar 1))) (gRet (eAnd (eIsi "bool" (eVar 0)) (eOp dEq (eVar 0) (eVar 1)))) gNext)
    (gSeq (gIf (eTru (eIsi "int" (eVar 1))) (gRet (eAnd (eIsi "int" (eVar 0)) (eAnd (eNot (eIsi "bool" (eVar 0))) (eOp dEq (eVar 0) (eVar 1))))) gNext)
    (gSeq (gIf (eTru (eIsi "str" (eVar 1))) (gRet (eAnd (eIsi "str" (eVar 0)) (eOp dEq (eVar 0) (eVar 1)))) gNext)
    (gSeq (gIf (eTru (eIsi "dict" (eVar 1))) gNever gNext)
    (gSeq (gIf (eOrT (eTest (eOp dNe (eIsi "tuple" (eVar 1)) (eIsi "tuple" (eVar 0)))) (eTest (eOp dNe (eIsi "list" (eVar 1)) (eIsi "list" (eVar 0))))) (gRet (eC (.bl false))) gNext)
    (gSeq (gIf (eTest (eOp dNe (eB dLen (aCons (eVar 0) aNil)) (eB dLen (aCons (eVar 1) aNil)))) (gRet (eC (.bl false))) gNext)
    (gRet (eB dAll (aCons (eF (fLc (iR1 (aCons (eB dLen (aCons (eVar 1) aNil)) aNil)) (tgName 3) eYes (eCall R (["_law_found", "_law_due"] : List Str).length (aCons (eOp dIx (eVar 0) (eVar 3)) (aCons (eOp dIx (eVar 1) (eVar 3)) aNil))) [3])) aNil))))))))))
def G_l_alike : Nat → GF
  | 0 => fun _ _ => none
  | n + 1 => runG N_l_alike (g_l_alike (G_l_alike n))
abbrev N_l_next : List Str := ["_law_corner", "_law_letter", "_law_at"]
def g_l_next : Sg :=
    (gSeq (gAsg (tgName 2) (eOp dIndex (eC (.str "enws")) (eVar 1)))
    (gRet (eTup (aCons (eOp dAdd (eOp dIx (eVar 0) (eC (.int 0))) (eOp dIx (eLst (aCons (eC (.int 1)) (aCons (eC (.int 0)) (aCons (eUn dNeg (eC (.int 1))) (aCons (eC (.int 0)) aNil))))) (eVar 2))) (aCons (eOp dAdd (eOp dIx (eVar 0) (eC (.int 1))) (eOp dIx (eLst (aCons (eC (.int 0)) (aCons (eC (.int 1)) (aCons (eC (.int 0)) (aCons (eUn dNeg (eC (.int 1))) aNil))))) (eVar 2))) aNil)))))
def G_l_next : GF := runG N_l_next g_l_next
abbrev N_l_word : List Str := ["_law_d", "_law_most", "_law_k"]
def g_l_word : Sg :=
    (gRet (eOp dJoin (eC (.str "")) (eF (fLc (iR1 (aCons (eCall G_l_off (["_law_d", "_law_most"] : List Str).length (aCons (eVar 0) (aCons (eOp dAdd (eVar 1) (eC (.int 1))) aNil))) aNil)) (tgName 2) eYes (eOp dIx (eC (.str "enws")) (eCall G_l_off (["_law_d", "_law_most"] : List Str).length (aCons (eVar 0) (aCons (eC (.int 4)) aNil)))) [2]))))
def G_l_word : GF := runG N_l_word g_l_word
abbrev N_l_less : List Str := ["_law_word_here", "_law_k"]
def b_l_less_1 : Sg := (gIf (eTest (eOp dIn (eSl (eVar 0) (oSome (eVar 1)) (oSome (eOp dAdd (eVar 1) (eC (.int 2))))) (eTup (aCons (eC (.str "ew")) (aCons (eC (.str "we")) (aCons (eC (.str "ns")) (aCons (eC (.str "sn")) aNil))))))) (gRet (eOp dAdd (eSl (eVar 0) oNone (oSome (eVar 1))) (eSl (eVar 0) (oSome (eOp dAdd (eVar 1) (eC (.int 2)))) oNone))) gNext)
def g_l_less : Sg :=
    (gSeq (gFor (iR1 (aCons (eOp dSub (eB dLen (aCons (eVar 0) aNil)) (eC (.int 1))) aNil)) (tgName 1) b_l_less_1)
    (gRet (eVar 0)))
def G_l_less : GF := runG N_l_less g_l_less
end Cm

namespace Cm
open PySem PySem.Spec L2 Dl
/-! ### The dice's numbers -/
local macro_rules | `(tactic| walk_at "num") => `(tactic| first
  | exact dAdd_i | exact dSub_i | exact dLt_i | exact dLe_i | exact dGt_i | exact dGe_i | exact dEq_i | exact dNe_i
  | exact dMul_r (by decide) (by decide) | exact dMod_i (by first | decide | assumption | omega) | exact dFdiv_i (by first | decide | assumption | omega) (by first | decide | assumption | omega))
local macro_rules | `(tactic| walk_at "go") => `(tactic| repeat' (first
  | exact eVar_s rfl | exact eVarB_v rfl | exact eVarB_o rfl | exact eC_s | exact aNil_s | exact gNext_s | exact oNone_s | exact eYes_s
  | walk_at "num"
  | apply eOp_s | apply eUn_s _ rfl | apply eTest_s | apply aCons_s | apply eTup_s _ (by decide) | apply eLst_s _ (by decide) | apply fLst_s _ (by decide)
  | exact eDget_s rfl (atI_nat' (j := 0) rfl rfl) | exact eDget_s rfl (atI_nat' (j := 1) rfl rfl) | exact eDlen_s rfl | exact eDpop_s rfl rfl
  | apply gAsg_s _ rfl | apply gDset_s | exact ixN_lt (j := 0) rfl (by simp) | exact ixN_lt (j := 1) rfl (by simp) | exact (rfl : (_ : Option Slot) = _) | apply gRet_s | apply gOwn_s))
/-- one number below m -/
def offM (m : Int) : List Int → Int × List Int
  | a :: b :: r =>
    let b' := if b = 0 then (match r with | [] => b | c :: _ => c) else b
    let r' := if b = 0 then r.tail else r
    if 0 < b' then (b' % m, a :: b' / m :: r') else ((a * 48271 + 11) % 2147483647 / 64 % m, (a * 48271 + 11) % 2147483647 :: b' :: r')
  | δ => (0, δ)
theorem off_tail {m a b : Int} {r : List Int} (hm : 0 < m) (hm2 : m < 1073741824) :
    (gSeq (gIf (eTest (eOp dGt (eDget 0 1) (eC (.int 0)))) (gSeq (gAsg (tgName 2) (eOp dMod (eDget 0 1) (eVar 1)))
    (gSeq (gDset 0 1 (eOp dFdiv (eDget 0 1) (eVar 1)))
    (gRet (eVar 2)))) gNext)
    (gSeq (gDset 0 0 (eOp dMod (eOp dAdd (eOp dMul (eDget 0 0) (eC (.int 48271))) (eC (.int 11))) (eC (.int 2147483647))))
    (gRet (eOp dMod (eOp dFdiv (eDget 0 0) (eC (.int 64))) (eVar 1))))) [.val .dice, .val (.int m), .un] (a :: b :: r) =
    some (if 0 < b then .rt (.int (b % m)) (a :: b / m :: r) else .rt (.int ((a * 48271 + 11) % 2147483647 / 64 % m)) ((a * 48271 + 11) % 2147483647 :: b :: r)) := by
  by_cases hb : 0 < b
  · rw [if_pos hb]
    apply gSeq_r
    apply gIf_t
    · apply eTest_s
      rw [show true = decide (0 < b) from (decide_eq_true hb).symm]
      walk_at "go"
    · apply gSeq_n
      · walk_at "go"
      · apply gSeq_n
        · walk_at "go"
        · walk_at "go"
  · rw [if_neg hb]
    apply gSeq_n
    · apply gIf_f
      · apply eTest_s
        rw [show false = decide (0 < b) from (decide_eq_false hb).symm]
        walk_at "go"
      · exact gNext_s
    · apply gSeq_n
      · walk_at "go"
      · walk_at "go"
theorem off_eq {m : Int} {δ : List Int} (hm : 0 < m) (hm2 : m < 1073741824) (hd : 2 ≤ δ.length) : G_l_off [.dice, .int m] δ = some (.int (offM m δ).1, (offM m δ).2) := by
  match δ, hd with
  | a :: b :: r, _ =>
    refine runG_r ?_
    show g_l_off [.val .dice, .val (.int m), .un] (a :: b :: r) = _
    unfold g_l_off
    by_cases hb : b = 0
    · subst hb
      have e0 : eTest (eOp dEq (eDget 0 1) (eC (.int 0))) [.val .dice, .val (.int m), .un] (a :: 0 :: r) = some (true, a :: 0 :: r) := by
        apply eTest_s
        rw [show true = decide ((0 : Int) = 0) from rfl]
        walk_at "go"
      cases r with
      | nil =>
        apply gSeq_n
        · apply gIf_f
          · apply eAndT_t e0
            apply eTest_s
            rw [show false = decide ((2 : Int) < (([a, 0] : List Int).length : Nat)) from rfl]
            walk_at "go"
          · exact gNext_s
        · rw [off_tail hm hm2]
          rfl
      | cons c r =>
        apply gSeq_n
        · apply gIf_t
          · apply eAndT_t e0
            apply eTest_s
            rw [show true = decide ((2 : Int) < ((a :: 0 :: c :: r : List Int).length : Nat)) from (decide_eq_true (by simp only [List.length_cons]; omega)).symm]
            walk_at "go"
          · exact gDset_s (j := 1) (eDpop_s rfl rfl) rfl (ixN_lt rfl (by simp))
        · show gSeq _ _ [.val .dice, .val (.int m), .un] (a :: c :: r) = _
          rw [off_tail hm hm2]
          show _ = some (Out.rt (.int (offM m (a :: 0 :: c :: r)).1) (offM m (a :: 0 :: c :: r)).2)
          unfold offM
          simp only [if_true, List.tail_cons]
          split <;> rfl
    · have e0 : eTest (eOp dEq (eDget 0 1) (eC (.int 0))) [.val .dice, .val (.int m), .un] (a :: b :: r) = some (false, a :: b :: r) := by
        apply eTest_s
        rw [show false = decide (b = 0) from (decide_eq_false hb).symm]
        walk_at "go"
      apply gSeq_n
      · exact gIf_f (eAndT_f e0) gNext_s
      · rw [off_tail hm hm2]
        show _ = some (Out.rt (.int (offM m (a :: b :: r)).1) (offM m (a :: b :: r)).2)
        unfold offM
        simp only [hb, if_false]
        split <;> rfl
theorem offM_form (m a b : Int) (r : List Int) : ∃ b' r', offM m (a :: b :: r) = if 0 < b' then (b' % m, a :: b' / m :: r') else ((a * 48271 + 11) % 2147483647 / 64 % m, (a * 48271 + 11) % 2147483647 :: b' :: r') :=
  ⟨_, _, rfl⟩
theorem off_len {m : Int} {δ : List Int} (hd : 2 ≤ δ.length) : 2 ≤ (offM m δ).2.length := by
  match δ, hd with
  | a :: b :: r, _ =>
    obtain ⟨b', r', e⟩ := offM_form m a b r
    rw [e]
    by_cases h : 0 < b' <;> simp [h]
theorem off_nn {m : Int} {δ : List Int} (hm : 0 < m) : 0 ≤ (offM m δ).1 ∧ (offM m δ).1 < m := by
  match δ with
  | [] => exact ⟨Int.le_refl _, hm⟩
  | [_] => exact ⟨Int.le_refl _, hm⟩
  | a :: b :: r =>
    obtain ⟨b', r', e⟩ := offM_form m a b r
    rw [e]
    by_cases h : 0 < b'
    · rw [if_pos h]
      exact ⟨Int.emod_nonneg _ (by omega), Int.emod_lt_of_pos _ hm⟩
    · rw [if_neg h]
      exact ⟨Int.emod_nonneg _ (by omega), Int.emod_lt_of_pos _ hm⟩
end Cm

namespace Cm
open PySem PySem.Spec L2 Dl
/-! ### Letters, words, corners -/
/-- a step's letter -/
def L4 (c : Nat) : Prop := c = 101 ∨ c = 110 ∨ c = 119 ∨ c = 115
theorem L4.lt {c : Nat} (h : L4 c) : c < 128 := by rcases h with rfl | rfl | rfl | rfl <;> decide
theorem enws_S : ("enws" : Str) = S [101, 110, 119, 115] := by decide +kernel
theorem wsen_S : ("wsen" : Str) = S [119, 115, 101, 110] := by decide +kernel
theorem empty_S : ("" : Str) = S [] := by decide +kernel
theorem e_S : ("e" : Str) = S [101] := by decide +kernel
theorem n_S : ("n" : Str) = S [110] := by decide +kernel
theorem w_S : ("w" : Str) = S [119] := by decide +kernel
theorem s_S : ("s" : Str) = S [115] := by decide +kernel
/-- the letter of a number -/
def lt4 (i : Int) : Nat := if i = 0 then 101 else if i = 1 then 110 else if i = 2 then 119 else 115
theorem lt4_ok (i : Int) : L4 (lt4 i) := by
  unfold lt4 L4
  split
  · exact .inl rfl
  · split
    · exact .inr (.inl rfl)
    · split
      · exact .inr (.inr (.inl rfl))
      · exact .inr (.inr (.inr rfl))
theorem ix_enws {i : Int} (h0 : 0 ≤ i) (h4 : i < 4) : dIx (.str "enws") (.int i) = some (.str (S [lt4 i])) := by
  have : i = 0 ∨ i = 1 ∨ i = 2 ∨ i = 3 := by omega
  rw [enws_S]
  rcases this with rfl | rfl | rfl | rfl <;> rfl
/-- the number of a letter -/
def ni (c : Nat) : Int := if c = 101 then 0 else if c = 110 then 1 else if c = 119 then 2 else 3
theorem index_enws {c : Nat} (h : L4 c) : dIndex (.str "enws") (.str (S [c])) = some (.int (ni c)) := by
  have h1 : Txt.index0 ("enws" : Str) (S [101]) = some 0 := by decide +kernel
  have h2 : Txt.index0 ("enws" : Str) (S [110]) = some 1 := by decide +kernel
  have h3 : Txt.index0 ("enws" : Str) (S [119]) = some 2 := by decide +kernel
  have h4 : Txt.index0 ("enws" : Str) (S [115]) = some 3 := by decide +kernel
  rcases h with rfl | rfl | rfl | rfl
  · show (Txt.index0 ("enws" : Str) (S [101])).map _ = _
    rw [h1]; rfl
  · show (Txt.index0 ("enws" : Str) (S [110])).map _ = _
    rw [h2]; rfl
  · show (Txt.index0 ("enws" : Str) (S [119])).map _ = _
    rw [h3]; rfl
  · show (Txt.index0 ("enws" : Str) (S [115])).map _ = _
    rw [h4]; rfl
/-- a step -/
def mv (c : Nat) : Int × Int := if c = 101 then (1, 0) else if c = 110 then (0, 1) else if c = 119 then (-1, 0) else (0, -1)
def go1 (p : Int × Int) (c : Nat) : Int × Int := (p.1 + (mv c).1, p.2 + (mv c).2)
theorem next_eq {p : Int × Int} {c : Nat} {δ : List Int} (h : L4 c) : G_l_next [pD p, .str (S [c])] δ = some (pD (go1 p c), δ) := by
  refine runG_r ?_
  show g_l_next [.val (pD p), .val (.str (S [c])), .un] δ = _
  unfold g_l_next
  apply gSeq_n
  · apply gAsg_s
    · apply eOp_s
      · exact eC_s
      · exact eVar_s rfl
      · exact index_enws h
    · exact rfl
  · rcases h with rfl | rfl | rfl | rfl <;> exact rfl
/-- the letters that are drawn -/
def draws (m : Int) : Nat → List Int → List Int × List Int
  | 0, δ => ([], δ)
  | k + 1, δ => ((offM m δ).1 :: (draws m k (offM m δ).2).1, (draws m k (offM m δ).2).2)
theorem draws_len (m : Int) : ∀ (k : Nat) (δ : List Int), (draws m k δ).1.length = k
  | 0, _ => rfl
  | k + 1, δ => by simp [draws, draws_len m k]
theorem draws_d2 (m : Int) : ∀ (k : Nat) (δ : List Int), 2 ≤ δ.length → 2 ≤ (draws m k δ).2.length
  | 0, _, h => h
  | k + 1, δ, h => by simp only [draws]; exact draws_d2 m k _ (off_len h)
theorem draws_bd {m : Int} (hm : 0 < m) : ∀ (k : Nat) (δ : List Int), ∀ z ∈ (draws m k δ).1, 0 ≤ z ∧ z < m
  | 0, _, z, h => by cases h
  | k + 1, δ, z, h => by
    simp only [draws, List.mem_cons] at h
    rcases h with rfl | h
    · exact off_nn hm
    · exact draws_bd hm k _ z h
def wordM (most : Int) (δ : List Int) : List Nat × List Int :=
  (((draws 4 (offM (most + 1) δ).1.toNat (offM (most + 1) δ).2).1).map lt4, (draws 4 (offM (most + 1) δ).1.toNat (offM (most + 1) δ).2).2)
theorem word_L4 {most : Int} {δ : List Int} : ∀ c ∈ (wordM most δ).1, L4 c := by
  intro c h
  obtain ⟨z, _, rfl⟩ := List.mem_map.mp h
  exact lt4_ok z
theorem word_d2 {most : Int} {δ : List Int} (h : 2 ≤ δ.length) : 2 ≤ (wordM most δ).2.length := draws_d2 _ _ _ (off_len h)
theorem word_len {most : Int} {δ : List Int} (h : 0 ≤ most) : ((wordM most δ).1.length : Int) ≤ most := by
  unfold wordM
  rw [List.length_map, draws_len]
  have := off_nn (m := most + 1) (δ := δ) (by omega)
  omega
theorem call_off {i : Nat} {env : Ev} {f : E} {δ δ1 : List Int} {m : Int} (h0 : env[i]? = some (.val .dice)) (h1 : f env δ = some (.int m, δ1)) (hm : 0 < m) (hm2 : m < 1073741824) (hd : 2 ≤ δ1.length) :
    eCall G_l_off (["_law_d", "_law_most"] : List Str).length (aCons (eVar i) (aCons f aNil)) env δ = some (.int (offM m δ1).1, (offM m δ1).2) :=
  eCall_s (aCons_s (eVar_s h0) (aCons_s h1 aNil_s)) rfl (off_eq hm hm2 hd)
theorem word_lc (a b : Dl.Slot) (i4 : List Int) : ∀ (k j : Nat) (δ : List Int), 2 ≤ δ.length →
    lcD (tgName 2) eYes (eOp dIx (eC (.str "enws")) (eCall G_l_off (["_law_d", "_law_most"] : List Str).length (aCons (eVar 0) (aCons (eC (.int 4)) aNil)))) [.val .dice, b, .un] ((List.range' j k).map fun i => .int (0 + ((i : Nat) : Int))) δ =
      some (((draws 4 k δ).1.map lt4).map fun c => .str (S [c]), (draws 4 k δ).2)
  | 0, _, _, _ => rfl
  | k + 1, j, δ, hd => by
    rw [List.range'_succ, List.map_cons]
    apply lc_t
    · exact rfl
    · exact eYes_s
    · apply eOp_s
      · exact eC_s
      · exact call_off rfl eC_s (by decide) (by decide) hd
      · exact ix_enws (off_nn (by decide)).1 (off_nn (by decide)).2
    · exact word_lc a b i4 k (j + 1) _ (off_len hd)
theorem flat1 (l : List Nat) : (l.map fun c => [c]).flatten = l := by
  induction l with
  | nil => rfl
  | cons c l ih => simp [ih]
theorem word_eq {most : Int} {δ : List Int} (h0 : 0 ≤ most) (h1 : most < 1000) (hd : 2 ≤ δ.length) : G_l_word [.dice, .int most] δ = some (.str (S (wordM most δ).1), (wordM most δ).2) := by
  refine runG_r ?_
  show g_l_word [.val .dice, .val (.int most), .un] δ = _
  unfold g_l_word
  have hb := off_nn (m := most + 1) (δ := δ) (by omega)
  have hL : ((draws 4 (offM (most + 1) δ).1.toNat (offM (most + 1) δ).2).1.map lt4).length < 1000 := by
    rw [List.length_map, draws_len]
    omega
  apply gRet_s
  apply eOp_s
  · exact eC_s
  · apply eF_s
    apply fLc_s
    · apply iR1_s
      · apply aCons_s
        · exact call_off rfl (eOp_s (eVar_s rfl) eC_s dAdd_i) (by omega) (by omega) hd
        · exact aNil_s
      · unfold bnd
        simp only [Bool.and_eq_true, decide_eq_true_eq]
        omega
    · unfold rangeD
      rw [List.length_map, List.length_range]
      omega
    · rfl
    · have := word_lc .un (.val (.int most)) [] (offM (most + 1) δ).1.toNat 0 (offM (most + 1) δ).2 (off_len hd)
      rw [← List.range_eq_range'] at this
      unfold rangeD
      rw [Int.sub_zero]
      exact this
  · have := dJoin_S (ws := (((draws 4 (offM (most + 1) δ).1.toNat (offM (most + 1) δ).2).1.map lt4).map fun c => [c])) (by rw [flat1]; omega)
    rw [flat1, List.map_map, ← empty_S] at this
    exact this
/-! ### corners -/
def pathM (p : Int × Int) : List Nat → List (Int × Int)
  | [] => []
  | c :: w => go1 p c :: pathM (go1 p c) w
theorem path_len : ∀ (w : List Nat) (p : Int × Int), (pathM p w).length = w.length
  | [], _ => rfl
  | c :: w, p => by simp [pathM, path_len w]
def endM (p : Int × Int) (w : List Nat) : Int × Int := w.foldl go1 p
theorem path_last : ∀ (w : List Nat) (p : Int × Int), (p :: pathM p w).getLast? = some (endM p w)
  | [], p => rfl
  | c :: w, p => by
    rw [pathM, List.getLast?_cons_cons]
    exact path_last w (go1 p c)
theorem moves_eq {c : Nat} (h : L4 c) : tbl_MOVES (S [c]) = some (.tup [.int (mv c).1, .int (mv c).2]) := by
  unfold tbl_MOVES
  rw [e_S, n_S, w_S, s_S]
  rcases h with rfl | rfl | rfl | rfl <;> simp [S_inj, mv]
theorem corners_for (a0 a1 : Dl.Slot) : ∀ (w : List Nat) (hw : ∀ c ∈ w, L4 c) (p : Int × Int) (acc : List (Int × Int)) (s5 s6 s7 : Dl.Slot) (δ : List Int), acc.length + w.length < 1000000 →
    ∃ (s5' s6' s7' : Dl.Slot) (q : Int × Int), forD (tgName 5) b_p_corners_1 (w.map fun c => .str (S [c])) [a0, a1, .val (.int p.1), .val (.int p.2), .own (acc.map pD), s5, s6, s7] δ =
      some (.nx [a0, a1, .val (.int q.1), .val (.int q.2), .own ((acc ++ pathM p w).map pD), s5', s6', s7'] δ)
  | [], _, p, acc, s5, s6, s7, δ, _ => ⟨s5, s6, s7, p, by simp [pathM, forD]⟩
  | c :: w, hw, p, acc, s5, s6, s7, δ, hl => by
    obtain ⟨t5, t6, t7, q, e⟩ := corners_for a0 a1 w (fun d hd => hw d (List.mem_cons_of_mem _ hd)) (go1 p c) (acc ++ [go1 p c]) (.val (.str (S [c]))) (.val (.int (mv c).1)) (.val (.int (mv c).2)) δ (by simp at hl ⊢; omega)
    refine ⟨t5, t6, t7, q, ?_⟩
    rw [List.map_cons]
    apply forD_n
    · exact rfl
    · unfold b_p_corners_1
      apply gSeq_n
      · apply gAsg_s
        · exact eKd_s (eVar_s rfl) (moves_eq (hw c List.mem_cons_self))
        · exact rfl
      · apply gSeq_n
        · exact gAsg_s (eOp_s (eVar_s rfl) (eVar_s rfl) dAdd_i) rfl
        · apply gSeq_n
          · exact gAsg_s (eOp_s (eVar_s rfl) (eVar_s rfl) dAdd_i) rfl
          · apply gAppend_s
            · exact eTup_s (aCons_s (eVar_s rfl) (aCons_s (eVar_s rfl) aNil_s)) (by simp)
            · exact rfl
            · rw [List.length_map]; simp at hl; omega
    · have : (acc ++ [go1 p c]).map pD = acc.map pD ++ [pD (go1 p c)] := by simp
      rw [this] at e
      have e2 : acc ++ pathM p (c :: w) = acc ++ [go1 p c] ++ pathM (go1 p c) w := by simp [pathM]
      rw [e2]
      exact e
theorem iter_S (w : List Nat) : ((S w).cps.toList.map fun c => (Dat.str ⟨#[c]⟩)) = w.map fun c => .str (S [c]) := rfl
theorem corners_eq {p : Int × Int} {w : List Nat} {δ : List Int} (hw : ∀ c ∈ w, L4 c) (hl : w.length < 100000) : G_p_corners [pD p, .str (S w)] δ = some (.lst ((p :: pathM p w).map pD), δ) := by
  refine runG_r ?_
  show g_p_corners [.val (pD p), .val (.str (S w)), .un, .un, .un, .un, .un, .un] δ = _
  unfold g_p_corners
  obtain ⟨t5, t6, t7, q, e⟩ := corners_for (.val (pD p)) (.val (.str (S w))) w hw p [p] .un .un .un δ (by simp; omega)
  apply gSeq_n
  · exact gAsg_s (eVar_s rfl) rfl
  · apply gSeq_n
    · exact gOwn_s (fLst_s (aCons_s (eTup_s (aCons_s (eVar_s rfl) (aCons_s (eVar_s rfl) aNil_s)) (by simp)) aNil_s) (by simp))
    · apply gSeq_n
      · apply gFor_s
        · exact iStrD_s (eVar_s rfl)
        · exact e
      · exact gRetOwn_s rfl
end Cm

namespace Cm
open PySem PySem.Spec L2 Dl
/-! ### reduced, inverse -/
def backM (c : Nat) : Nat := if c = 101 then 119 else if c = 110 then 115 else if c = 119 then 101 else 110
theorem back_L4 {c : Nat} (h : L4 c) : L4 (backM c) := by rcases h with rfl | rfl | rfl | rfl <;> (unfold L4 backM; decide)
theorem back_back {c : Nat} (h : L4 c) : backM (backM c) = c := by rcases h with rfl | rfl | rfl | rfl <;> rfl
theorem back_eq {c : Nat} (h : L4 c) : tbl_BACK (S [c]) = some (.str (S [backM c])) := by
  unfold tbl_BACK
  rw [e_S, n_S, w_S, s_S]
  rcases h with rfl | rfl | rfl | rfl <;> simp [S_inj, backM]
abbrev ltr (c : Nat) : Dat := .str (S [c])
def push (st : List Nat) (c : Nat) : List Nat := match st with
  | t :: r => if t = backM c then r else c :: t :: r
  | [] => [c]
def redR (st w : List Nat) : List Nat := w.foldl push st
def redM (w : List Nat) : List Nat := (redR [] w).reverse
theorem push_L4 {st : List Nat} {c : Nat} (hs : ∀ d ∈ st, L4 d) (hc : L4 c) : ∀ d ∈ push st c, L4 d := by
  intro d hd
  unfold push at hd
  split at hd
  · rename_i t r
    split at hd
    · exact hs d (List.mem_cons_of_mem _ hd)
    · rcases List.mem_cons.mp hd with rfl | h
      · exact hc
      · exact hs d h
  · simp at hd; rw [hd]; exact hc
theorem redR_L4 : ∀ (w : List Nat) (st : List Nat), (∀ d ∈ st, L4 d) → (∀ d ∈ w, L4 d) → ∀ d ∈ redR st w, L4 d
  | [], st, hs, _ => hs
  | c :: w, st, hs, hw => redR_L4 w (push st c) (push_L4 hs (hw c List.mem_cons_self)) fun d hd => hw d (List.mem_cons_of_mem _ hd)
theorem push_len (st : List Nat) (c : Nat) : (push st c).length ≤ st.length + 1 := by
  unfold push
  split
  · split
    · simp; omega
    · simp
  · simp
theorem redR_len : ∀ (w st : List Nat), (redR st w).length ≤ st.length + w.length
  | [], st => by simp [redR]
  | c :: w, st => by
    have h1 := redR_len w (push st c)
    have h2 := push_len st c
    show (redR (push st c) w).length ≤ _
    simp only [List.length_cons]
    omega
theorem last_map (t : Nat) (r : List Nat) : (((t :: r).reverse).map ltr).getLast? = some (ltr t) := by simp
theorem reduced_for (a0 : Dl.Slot) : ∀ (w : List Nat) (hw : ∀ c ∈ w, L4 c) (st : List Nat) (hs : ∀ c ∈ st, L4 c) (s2 : Dl.Slot) (δ : List Int), st.length + w.length < 1000000 →
    ∃ (s2' : Dl.Slot), forD (tgName 2) b_p_reduced_1 (w.map ltr) [a0, .own (st.reverse.map ltr), s2] δ = some (.nx [a0, .own ((redR st w).reverse.map ltr), s2'] δ)
  | [], _, st, _, s2, δ, _ => ⟨s2, rfl⟩
  | c :: w, hw, st, hs, s2, δ, hl => by
    have hc := hw c List.mem_cons_self
    obtain ⟨s2', e⟩ := reduced_for a0 w (fun d hd => hw d (List.mem_cons_of_mem _ hd)) (push st c) (push_L4 hs hc) (.val (ltr c)) δ (by have := push_len st c; simp at hl ⊢; omega)
    refine ⟨s2', ?_⟩
    rw [List.map_cons]
    apply forD_n
    · exact rfl
    · show b_p_reduced_1 [a0, .own (st.reverse.map ltr), .val (ltr c)] δ = some (.nx [a0, .own ((push st c).reverse.map ltr), .val (ltr c)] δ)
      unfold b_p_reduced_1
      cases st with
      | nil =>
        apply gIf_f
        · exact eAndT_f (eTru_s (eVarB_o rfl) rfl)
        · exact gAppend_s (l := []) (x := ltr c) (eVar_s rfl) rfl (by decide)
      | cons t r =>
        have ht : truD (.lst (((t :: r).reverse).map ltr)) = some true := by
          show some (!(((t :: r).reverse).map ltr).isEmpty) = some true
          simp
        have hx : eOp dEq (eOp dIx (eVarB 1) (eUn dNeg (eC (.int 1)))) (eKd tbl_BACK (eVar 2)) [a0, .own ((t :: r).reverse.map ltr), .val (ltr c)] δ = some (.bl (decide (t = backM c)), δ) := by
          apply eOp_s
          · apply eOp_s
            · exact eVarB_o rfl
            · exact eUn_s eC_s rfl
            · exact atI_neg1 (last_map t r)
          · exact eKd_s (eVar_s rfl) (back_eq hc)
          · have := dEq_S (v := [t]) (w := [backM c]) (by intro d hd; simp at hd; rw [hd]; exact (hs t List.mem_cons_self).lt) (by intro d hd; simp at hd; rw [hd]; exact (back_L4 hc).lt)
            rw [this]
            simp
        by_cases h : t = backM c
        · have e1 : push (t :: r) c = r := by unfold push; exact if_pos h
          rw [e1]
          apply gIf_t
          · exact eAndT_t (eTru_s (eVarB_o rfl) ht) (eTest_s (by rw [hx, decide_eq_true h]))
          · refine (gPop_s rfl (by simp)).trans ?_
            simp
        · have e1 : push (t :: r) c = c :: t :: r := by unfold push; exact if_neg h
          rw [e1]
          apply gIf_f
          · exact eAndT_t (eTru_s (eVarB_o rfl) ht) (eTest_s (by rw [hx, decide_eq_false h]))
          · refine (gAppend_s (eVar_s rfl) rfl (by simp at hl ⊢; omega)).trans ?_
            simp
    · exact e
theorem S_ltrs (w : List Nat) (h : w.length < 1000000) : dJoin (.str "") (.lst (w.map ltr)) = some (.str (S w)) := by
  have := dJoin_S (ws := w.map fun c => [c]) (by rw [flat1]; exact h)
  rw [flat1, List.map_map, ← empty_S] at this
  exact this
theorem reduced_eq {w : List Nat} {δ : List Int} (hw : ∀ c ∈ w, L4 c) (hl : w.length < 100000) : G_p_reduced [.str (S w)] δ = some (.str (S (redM w)), δ) := by
  refine runG_r ?_
  show g_p_reduced [.val (.str (S w)), .un, .un] δ = _
  unfold g_p_reduced
  obtain ⟨s2, e⟩ := reduced_for (.val (.str (S w))) w hw [] (by simp) .un δ (by simp; omega)
  apply gSeq_n
  · exact gOwn_s (fLst_s aNil_s (by simp))
  · apply gSeq_n
    · apply gFor_s
      · exact iStrD_s (eVar_s rfl)
      · exact e
    · apply gRet_s
      apply eOp_s
      · exact eC_s
      · exact eVarB_o rfl
      · refine S_ltrs _ ?_
        have := redR_len w []
        rw [List.length_reverse]
        simp at this
        omega
def invM (w : List Nat) : List Nat := w.reverse.map backM
theorem inverse_lc (a0 : Dl.Slot) {δ : List Int} : ∀ (w : List Nat), (∀ c ∈ w, L4 c) → lcD (tgName 1) eYes (eKd tbl_BACK (eVar 1)) [a0, .un] (w.map ltr) δ = some ((w.map backM).map ltr, δ)
  | [], _ => rfl
  | c :: w, hw => by
    rw [List.map_cons]
    exact lc_t rfl eYes_s (eKd_s (eVar_s rfl) (back_eq (hw c List.mem_cons_self))) (inverse_lc a0 w fun d hd => hw d (List.mem_cons_of_mem _ hd))
theorem inverse_eq {w : List Nat} {δ : List Int} (hw : ∀ c ∈ w, L4 c) (hl : w.length < 100000) : G_p_inverse [.str (S w)] δ = some (.str (S (invM w)), δ) := by
  refine runG_r ?_
  show g_p_inverse [.val (.str (S w)), .un] δ = _
  unfold g_p_inverse
  apply gRet_s
  apply eOp_s
  · exact eC_s
  · apply eF_s
    apply fLc_s
    · exact iStrD_s (eRev_s (eVar_s rfl) (by rw [S_len]; omega))
    · rw [S_rev, S_cps]; simp; omega
    · rfl
    · exact inverse_lc (.val (.str (S w))) w.reverse (fun c hc => hw c (by simpa using hc))
  · exact S_ltrs _ (by simp; omega)
/-! ### alike -/
theorem k_sb : kitB "str" "bool" = some false := by decide +kernel
theorem k_si : kitB "str" "int" = some false := by decide +kernel
theorem k_ss : kitB "str" "str" = some true := by decide +kernel
theorem k_ib : kitB "int" "bool" = some false := by decide +kernel
theorem k_ii : kitB "int" "int" = some true := by decide +kernel
theorem k_bb : kitB "bool" "bool" = some true := by decide +kernel
theorem k_tb : kitB "tuple" "bool" = some false := by decide +kernel
theorem k_ti : kitB "tuple" "int" = some false := by decide +kernel
theorem k_ts : kitB "tuple" "str" = some false := by decide +kernel
theorem k_td : kitB "tuple" "dict" = some false := by decide +kernel
theorem k_tt : kitB "tuple" "tuple" = some true := by decide +kernel
theorem k_tl : kitB "tuple" "list" = some false := by decide +kernel
theorem k_lb : kitB "list" "bool" = some false := by decide +kernel
theorem k_li : kitB "list" "int" = some false := by decide +kernel
theorem k_ls : kitB "list" "str" = some false := by decide +kernel
theorem k_ld : kitB "list" "dict" = some false := by decide +kernel
theorem k_lt : kitB "list" "tuple" = some false := by decide +kernel
theorem k_ll : kitB "list" "list" = some true := by decide +kernel
section
variable {n : Nat} {δ : List Int} {R : GF}
theorem isi_s {i : Nat} {env : Ev} {T m : String} {x : Dat} {k : Bool} (h : env[i]? = some (.val x)) (h1 : tyN x = some m) (h2 : kitB m T = some k) : eTru (eIsi T (eVar i)) env δ = some (k, δ) := eTru_s (eIsi_s (eVar_s h) h1 h2) rfl
theorem isiE_s {i : Nat} {env : Ev} {T m : String} {x : Dat} {k : Bool} (h : env[i]? = some (.val x)) (h1 : tyN x = some m) (h2 : kitB m T = some k) : eIsi T (eVar i) env δ = some (.bl k, δ) := eIsi_s (eVar_s h) h1 h2
theorem alike_str {v w : List Nat} (hv : ∀ c ∈ v, c < 128) (hw : ∀ c ∈ w, c < 128) : G_l_alike (n + 1) [.str (S v), .str (S w)] δ = some (.bl (decide (v = w)), δ) := by
  refine runG_r ?_
  show g_l_alike (G_l_alike n) [.val (.str (S v)), .val (.str (S w)), .un, .un] δ = _
  unfold g_l_alike
  apply gSeq_n
  · exact gIf_f (eTest_s (eOp_s (eVar_s rfl) eC_s rfl)) gNext_s
  · apply gSeq_n
    · exact gIf_f (isi_s rfl rfl k_sb) gNext_s
    · apply gSeq_n
      · exact gIf_f (isi_s rfl rfl k_si) gNext_s
      · apply gSeq_r
        exact gIf_t (isi_s rfl rfl k_ss) (gRet_s (eAnd_t (isiE_s rfl rfl k_ss) (eOp_s (eVar_s rfl) (eVar_s rfl) (dEq_S hv hw))))
theorem alike_int {i j : Int} : G_l_alike (n + 1) [.int i, .int j] δ = some (.bl (decide (i = j)), δ) := by
  refine runG_r ?_
  show g_l_alike (G_l_alike n) [.val (.int i), .val (.int j), .un, .un] δ = _
  unfold g_l_alike
  apply gSeq_n
  · exact gIf_f (eTest_s (eOp_s (eVar_s rfl) eC_s rfl)) gNext_s
  · apply gSeq_n
    · exact gIf_f (isi_s rfl rfl k_ib) gNext_s
    · apply gSeq_r
      exact gIf_t (isi_s rfl rfl k_ii) (gRet_s (eAnd_t (isiE_s rfl rfl k_ii) (eAnd_t (eNot_s (isiE_s rfl rfl k_ib)) (eOp_s (eVar_s rfl) (eVar_s rfl) dEq_i))))
theorem alike_bl {i j : Bool} : G_l_alike (n + 1) [.bl i, .bl j] δ = some (.bl (decide (i = j)), δ) := by
  refine runG_r ?_
  show g_l_alike (G_l_alike n) [.val (.bl i), .val (.bl j), .un, .un] δ = _
  unfold g_l_alike
  apply gSeq_n
  · exact gIf_f (eTest_s (eOp_s (eVar_s rfl) eC_s rfl)) gNext_s
  · apply gSeq_r
    exact gIf_t (isi_s rfl rfl k_bb) (gRet_s (eAnd_t (isiE_s rfl rfl k_bb) (eOp_s (eVar_s rfl) (eVar_s rfl) (by cases i <;> cases j <;> rfl))))
/-- the items, one by one -/
theorem alike_lc {xs ys : List Dat} {ks : List Bool} {X Y : Dat} {a3 : Dl.Slot} (hX : ∀ (j : Nat) x, xs[j]? = some x → dIx X (.int (j : Int)) = some x) (hY : ∀ (j : Nat) x, ys[j]? = some x → dIx Y (.int (j : Int)) = some x) :
    ∀ (m j : Nat), j + m = ks.length → xs.length = ks.length → ys.length = ks.length → (∀ (i : Nat) x y k, xs[i]? = some x → ys[i]? = some y → ks[i]? = some k → R [x, y] δ = some (.bl k, δ)) →
    lcD (tgName 3) eYes (eCall R (["_law_found", "_law_due"] : List Str).length (aCons (eOp dIx (eVar 0) (eVar 3)) (aCons (eOp dIx (eVar 1) (eVar 3)) aNil))) [.val X, .val Y, a3, .un] ((List.range' j m).map fun i => .int (0 + ((i : Nat) : Int))) δ = some ((ks.drop j).map .bl, δ)
  | 0, j, hj, _, _, _ => by
    rw [List.drop_of_length_le (by omega)]
    rfl
  | m + 1, j, hj, hx, hy, hR => by
    rw [List.range'_succ, List.map_cons]
    have j1 : j < xs.length := by omega
    have j2 : j < ys.length := by omega
    have j3 : j < ks.length := by omega
    rw [List.drop_eq_getElem_cons j3, List.map_cons]
    apply lc_t
    · exact rfl
    · exact eYes_s
    · apply eCall_s
      · apply aCons_s
        · apply eOp_s
          · exact eVar_s rfl
          · exact eVar_s rfl
          · rw [Int.zero_add]
            exact hX j _ (List.getElem?_eq_getElem j1)
        · apply aCons_s
          · apply eOp_s
            · exact eVar_s rfl
            · exact eVar_s rfl
            · rw [Int.zero_add]
              exact hY j _ (List.getElem?_eq_getElem j2)
          · exact aNil_s
      · rfl
      · exact hR j _ _ _ (List.getElem?_eq_getElem j1) (List.getElem?_eq_getElem j2) (List.getElem?_eq_getElem j3)
    · exact alike_lc hX hY m (j + 1) (by omega) hx hy hR
theorem toB_map (ks : List Bool) : toB (ks.map .bl) = some ks := by
  induction ks with
  | nil => rfl
  | cons k ks ih =>
    show (toB (ks.map .bl)).map _ = _
    rw [ih]; rfl
theorem bnd_nat {m : Nat} (h : m < 1000000) : bnd (m : Int) = true := by
  unfold bnd
  simp only [Bool.and_eq_true, decide_eq_true_eq]
  omega
/-- two lists, or two tuples, of one length -/
theorem alike_seq {xs ys : List Dat} {ks : List Bool} {X Y : Dat} {m : String} (hk : (X = .lst xs ∧ Y = .lst ys) ∨ (X = .tup xs ∧ Y = .tup ys)) (hx : xs.length = ks.length) (hy : ys.length = ks.length) (hz : ks.length < 1000000)
    (hR : ∀ (i : Nat) x y k, xs[i]? = some x → ys[i]? = some y → ks[i]? = some k → G_l_alike n [x, y] δ = some (.bl k, δ)) : G_l_alike (n + 1) [X, Y] δ = some (.bl (ks.all id), δ) := by
  refine runG_r ?_
  show g_l_alike (G_l_alike n) [.val X, .val Y, .un, .un] δ = _
  have hlc := fun hX hY => alike_lc (δ := δ) (R := G_l_alike n) (xs := xs) (ys := ys) (ks := ks) (X := X) (Y := Y) (a3 := .un) hX hY ks.length 0 (by omega) hx hy hR
  have fin : ∀ (e1 : Ev), e1 = [.val X, .val Y, .un, .un] → dLen [Y] = some (.int ks.length) → lcD (tgName 3) eYes (eCall (G_l_alike n) (["_law_found", "_law_due"] : List Str).length (aCons (eOp dIx (eVar 0) (eVar 3)) (aCons (eOp dIx (eVar 1) (eVar 3)) aNil))) [.val X, .val Y, .un, .un] ((List.range' 0 ks.length).map fun i => .int (0 + ((i : Nat) : Int))) δ = some ((ks.drop 0).map .bl, δ) →
      gRet (eB dAll (aCons (eF (fLc (iR1 (aCons (eB dLen (aCons (eVar 1) aNil)) aNil)) (tgName 3) eYes (eCall (G_l_alike n) (["_law_found", "_law_due"] : List Str).length (aCons (eOp dIx (eVar 0) (eVar 3)) (aCons (eOp dIx (eVar 1) (eVar 3)) aNil))) [3])) aNil)) e1 δ = some (.rt (.bl (ks.all id)) δ) := by
    intro e1 he hL hc
    subst he
    apply gRet_s
    apply eB_s
    · apply aCons_s
      · apply eF_s
        apply fLc_s
        · apply iR1_s
          · exact aCons_s (eB_s (aCons_s (eVar_s rfl) aNil_s) hL) aNil_s
          · exact bnd_nat hz
        · unfold rangeD
          rw [List.length_map, List.length_range]
          omega
        · rfl
        · unfold rangeD
          rw [Int.sub_zero, Int.toNat_natCast, List.range_eq_range']
          exact hc
      · exact aNil_s
    · show (toB ((ks.drop 0).map .bl)).map _ = _
      rw [List.drop_zero, toB_map]
      rfl
  unfold g_l_alike
  rcases hk with ⟨rfl, rfl⟩ | ⟨rfl, rfl⟩
  · apply gSeq_n
    · exact gIf_f (eTest_s (eOp_s (eVar_s rfl) eC_s rfl)) gNext_s
    · apply gSeq_n
      · exact gIf_f (isi_s rfl rfl k_lb) gNext_s
      · apply gSeq_n
        · exact gIf_f (isi_s rfl rfl k_li) gNext_s
        · apply gSeq_n
          · exact gIf_f (isi_s rfl rfl k_ls) gNext_s
          · apply gSeq_n
            · exact gIf_f (isi_s rfl rfl k_ld) gNext_s
            · apply gSeq_n
              · exact gIf_f (eOrT_f (eTest_s (eOp_s (isiE_s rfl rfl k_lt) (isiE_s rfl rfl k_lt) rfl)) (eTest_s (eOp_s (isiE_s rfl rfl k_ll) (isiE_s rfl rfl k_ll) rfl))) gNext_s
              · apply gSeq_n
                · apply gIf_f
                  · apply eTest_s
                    apply eOp_s
                    · exact eB_s (aCons_s (eVar_s rfl) aNil_s) rfl
                    · exact eB_s (aCons_s (eVar_s rfl) aNil_s) rfl
                    · refine dNe_i.trans ?_
                      rw [hx, hy]
                      simp
                  · exact gNext_s
                · refine fin _ rfl ?_ (hlc (fun j x e => atI_nat' rfl e) (fun j x e => atI_nat' rfl e))
                  show some (Dat.int ys.length) = _
                  rw [hy]
  · apply gSeq_n
    · exact gIf_f (eTest_s (eOp_s (eVar_s rfl) eC_s rfl)) gNext_s
    · apply gSeq_n
      · exact gIf_f (isi_s rfl rfl k_tb) gNext_s
      · apply gSeq_n
        · exact gIf_f (isi_s rfl rfl k_ti) gNext_s
        · apply gSeq_n
          · exact gIf_f (isi_s rfl rfl k_ts) gNext_s
          · apply gSeq_n
            · exact gIf_f (isi_s rfl rfl k_td) gNext_s
            · apply gSeq_n
              · exact gIf_f (eOrT_f (eTest_s (eOp_s (isiE_s rfl rfl k_tt) (isiE_s rfl rfl k_tt) rfl)) (eTest_s (eOp_s (isiE_s rfl rfl k_tl) (isiE_s rfl rfl k_tl) rfl))) gNext_s
              · apply gSeq_n
                · apply gIf_f
                  · apply eTest_s
                    apply eOp_s
                    · exact eB_s (aCons_s (eVar_s rfl) aNil_s) rfl
                    · exact eB_s (aCons_s (eVar_s rfl) aNil_s) rfl
                    · refine dNe_i.trans ?_
                      rw [hx, hy]
                      simp
                  · exact gNext_s
                · refine fin _ rfl ?_ (hlc (fun j x e => atI_nat' rfl e) (fun j x e => atI_nat' rfl e))
                  show some (Dat.int ys.length) = _
                  rw [hy]
theorem alike_pr {p q : Int × Int} : G_l_alike (n + 2) [pD p, pD q] δ = some (.bl (decide (p = q)), δ) := by
  have := alike_seq (n := n + 1) (δ := δ) (m := "") (xs := [.int p.1, .int p.2]) (ys := [.int q.1, .int q.2]) (ks := [decide (p.1 = q.1), decide (p.2 = q.2)]) (X := pD p) (Y := pD q) (.inr ⟨rfl, rfl⟩) rfl rfl (by simp) (fun i x y k h1 h2 h3 => by
    match i, h1, h2, h3 with
    | 0, h1, h2, h3 => cases h1; cases h2; cases h3; exact alike_int
    | 1, h1, h2, h3 => cases h1; cases h2; cases h3; exact alike_int
    | i + 2, h1, _, _ => simp at h1)
  rw [this, show [decide (p.1 = q.1), decide (p.2 = q.2)].all id = decide (p = q) by obtain ⟨a, b⟩ := p; obtain ⟨c, d⟩ := q; simp]
theorem alike_prs_same {l : List (Int × Int)} (hz : l.length < 1000000) : G_l_alike (n + 3) [.lst (l.map pD), .lst (l.map pD)] δ = some (.bl true, δ) := by
  have := alike_seq (n := n + 2) (δ := δ) (m := "") (xs := l.map pD) (ys := l.map pD) (ks := l.map fun _ => true) (.inl ⟨rfl, rfl⟩) (by simp) (by simp) (by simpa using hz) (fun i x y k h1 h2 h3 => by
    rw [h1] at h2
    cases h2
    rw [List.getElem?_map] at h1 h3
    cases e : l[i]? with
    | none => rw [e] at h1; cases h1
    | some p =>
      rw [e] at h1 h3
      cases h1; cases h3
      rw [alike_pr]
      simp)
  rw [this, show (l.map fun _ => true).all id = true by simp]
end
end Cm

namespace K03
open PySem PySem.Spec L2 Dl Cm
open PyProof.Rows (envOfC)
def top (i : Nat) : Stmt := PySem.Challenge.pw_rimword_k03_words.main.body.getD i (.Pass ⟨0, 0, 0, 0⟩)
structure Zs (mg : Str → Option Value) : Prop where
  z_abs : mg "abs" = none
  z_all : mg "all" = none
  z_bool : mg "bool" = none
  z_dict : mg "dict" = none
  z_int : mg "int" = none
  z_isinstance : mg "isinstance" = none
  z_len : mg "len" = none
  z_list : mg "list" = none
  z_range : mg "range" = none
  z_str : mg "str" = none
  z_tuple : mg "tuple" = none
section
variable {P : Program} {w : World} {K : PySem.W.Frag} {mg : Str → Option Value} {base : Heap}
abbrev s_p_corners : Stmt := top 3
theorem sc_p_corners : FnScope N_p_corners ["corner", "word"] (defScope s_p_corners) := ⟨rfl, rfl, rfl, by decide +kernel, rfl, by decide +kernel, by decide +kernel⟩
theorem ok_p_corners {f : Addr} {fd : FuncData} (h : Has K mg "corners" s_p_corners ["corner", "word"] f fd) (Z : Zs mg)  {a_MOVES : Addr} (C_MOVES : KdO K w mg "MOVES" a_MOVES tbl_MOVES) : OkG P w K mg base 1 "corners" ["corner", "word"] G_p_corners := by
  refine h.ok (k := 0) sc_p_corners (fun cdv A outer s H E hr => ?_)
  exact ⟨_, (d_cons (d_asg (d_var 0 (pv 0)) (d_gtup rfl (d_gcons (d_gname 2 (pg_name (i := 2) sc_p_corners.nd rfl (by first | exact Or.inl rfl | exact Or.inr rfl))) (d_gcons (d_gname 3 (pg_name (i := 3) sc_p_corners.nd rfl (by first | exact Or.inl rfl | exact Or.inr rfl))) d_gnil))))
      (d_cons (d_own 4 (d_lstF (d_acons (d_tup (d_acons (d_var 2 (pv 2)) (d_acons (d_var 3 (pv 3)) d_anil))) d_anil)) (fun he => ps_set (i := 4) sc_p_corners.nd rfl (by first | exact Or.inl rfl | exact Or.inr rfl) he))
      (d_cons (d_for PassesOwn.never rfl (d_istr (DS.w (d_var 1 (pv 1)))) (d_gname 5 (pg_name (i := 5) sc_p_corners.nd rfl (by first | exact Or.inl rfl | exact Or.inr rfl)))
      (d_cons (d_asg (d_kdO C_MOVES (by rfl) (DS.w (d_var 5 (pv 5)))) (d_gtup rfl (d_gcons (d_gname 6 (pg_name (i := 6) sc_p_corners.nd rfl (by first | exact Or.inl rfl | exact Or.inr rfl))) (d_gcons (d_gname 7 (pg_name (i := 7) sc_p_corners.nd rfl (by first | exact Or.inl rfl | exact Or.inr rfl))) d_gnil))))
      (d_cons (d_set 2 (d_add (DS.w (d_var 2 (pv 2))) (DS.w (d_var 6 (pv 6)))) (fun he => ps_set (i := 2) sc_p_corners.nd rfl (by first | exact Or.inl rfl | exact Or.inr rfl) he))
      (d_cons (d_set 3 (d_add (DS.w (d_var 3 (pv 3))) (DS.w (d_var 7 (pv 7)))) (fun he => ps_set (i := 3) sc_p_corners.nd rfl (by first | exact Or.inl rfl | exact Or.inr rfl) he))
      (d_last (d_append 4 (d_tup (d_acons (d_var 2 (pv 2)) (d_acons (d_var 3 (pv 3)) d_anil))) (fun ha => ps_expr (pe_bm PySem.F.plainAttrs_list PySem.F.slot_list_append PySem.F.type_list_append mt_append (pv 4) ha))))))))
      (d_last (d_retOwn 4 (pv 4))))))⟩
abbrev s_p_reduced : Stmt := top 4
theorem sc_p_reduced : FnScope N_p_reduced ["word"] (defScope s_p_reduced) := ⟨rfl, rfl, rfl, by decide +kernel, rfl, by decide +kernel, by decide +kernel⟩
theorem ok_p_reduced {f : Addr} {fd : FuncData} (h : Has K mg "reduced" s_p_reduced ["word"] f fd) (Z : Zs mg)  {a_BACK : Addr} (C_BACK : KdO K w mg "BACK" a_BACK tbl_BACK) : OkG P w K mg base 1 "reduced" ["word"] G_p_reduced := by
  refine h.ok (k := 0) sc_p_reduced (fun cdv A outer s H E hr => ?_)
  exact ⟨_, (d_cons (d_own 1 (d_lstF d_anil) (fun he => ps_set (i := 1) sc_p_reduced.nd rfl (by first | exact Or.inl rfl | exact Or.inr rfl) he))
      (d_cons (d_for PassesOwn.never rfl (d_istr (DS.w (d_var 0 (pv 0)))) (d_gname 2 (pg_name (i := 2) sc_p_reduced.nd rfl (by first | exact Or.inl rfl | exact Or.inr rfl)))
      (d_last (d_if (DW.dt (d_and (d_truth (d_varB 1 (pv 1))) (d_and1 (d_teq hr (DS.w (d_ix (d_varB 1 (pv 1)) (DS.w (d_neg (DS.w d_int))))) (DS.w (d_kdO C_BACK (by rfl) (DS.w (d_var 2 (pv 2)))))))))
      (d_last (d_pop 1 (ps_expr (pe_bm0 PySem.F.plainAttrs_list PySem.F.slot_list_pop PySem.F.type_list_pop mt_pop (pv 1)))))
      (d_last (d_append 1 (d_var 2 (pv 2)) (fun ha => ps_expr (pe_bm PySem.F.plainAttrs_list PySem.F.slot_list_append PySem.F.type_list_append mt_append (pv 1) ha)))))))
      (d_last (d_ret (d_join (DS.w d_str) (d_varB 1 (pv 1)))))))⟩
abbrev s_p_inverse : Stmt := top 5
theorem sc_p_inverse : FnScope N_p_inverse ["word"] (defScope s_p_inverse) := ⟨rfl, rfl, rfl, by decide +kernel, rfl, by decide +kernel, by decide +kernel⟩
theorem ok_p_inverse {f : Addr} {fd : FuncData} (h : Has K mg "inverse" s_p_inverse ["word"] f fd) (Z : Zs mg)  {a_BACK : Addr} (C_BACK : KdO K w mg "BACK" a_BACK tbl_BACK) : OkG P w K mg base 1 "inverse" ["word"] G_p_inverse := by
  refine h.ok (k := 0) sc_p_inverse (fun cdv A outer s H E hr => ?_)
  exact ⟨_, (d_last (d_ret (d_join (DS.w d_str) (DS.w (DF.s (d_lc (own := [("step", 1)]) (tgd := (gName 1)) (tt := tYes) (te := (tOp (rIxD K w) (tC (.ref a_BACK)) (tVar 1))) (gd := (tgName 1)) (ft := eYes) (fe := (eKd tbl_BACK (eVar 1))) rfl sc_p_inverse.nd (d_istr (DS.w (d_rev (DS.w (d_var 0 (pv 0)))))) (blkOk_by (own := [("step", 1)]) (N := N_p_inverse) (sc := defScope s_p_inverse) (by decide +kernel)) (fun _ _ _ _ _ => by exact (d_gname 1 (pg_name (i := 1) sc_p_inverse.nd rfl (by first | exact Or.inl rfl | exact Or.inr rfl)))) (fun _ _ _ _ _ => by exact d_tsnil) (fun _ _ _ _ _ => by exact (d_kdO C_BACK (by rfl) (DS.w (d_var 1 (pv 1)))))))))))⟩
abbrev s_l_dice : Stmt := top 7
abbrev N_l_dice : List Str := ["_law_script", "_law_k", "_law_found", "_law_cell"]
theorem sc_l_dice : FnScope N_l_dice ["_law_script", "_law_k"] (defScope s_l_dice) := ⟨rfl, rfl, rfl, by decide +kernel, rfl, by decide +kernel, by decide +kernel⟩
theorem ok_dice {f : Addr} {fd : FuncData} (h : Has K mg "_law_dice" s_l_dice ["_law_script", "_law_k"] f fd) (Z : Zs mg) : FnOk P w K mg base CX0 1 f fd ["_law_script", "_law_k"] (spDice K) := by
  refine h.F.ok sc_l_dice (fun vs H Q E q => ?_) (fun cdv A outer s H vs Q E hr q => ⟨t_dice K, ?_, dice_read q⟩)
  · obtain ⟨a, ns, z, rfl, _⟩ := q
    rfl
  · exact pss_cons (ps_set (i := 2) sc_l_dice.nd rfl (Or.inl rfl) (pv 1))
      (pss_cons (ps_for PassesOwn.never rfl (pi_list (pv 0)) (pg_name (i := 3) sc_l_dice.nd rfl (Or.inl rfl)) (pss_one (ps_set (i := 2) sc_l_dice.nd rfl (Or.inl rfl) (pe_op op_mod (pe_op op_add (pe_op op_mul (pv 2) pe_int) (pe_callB call_abs (by rfl) Z.z_abs (by decide +kernel) (pa_cons (pv 3) pa_nil))) pe_int))))
      (pss_one (ps_ret (pe_op op_cat (pe_lst (pa_cons (pv 2) (pa_cons pe_int pa_nil))) (pe_lc (own := [("_law_cell", 3)]) (g := gName 3) (tt := tTest (tOp (rI0 fun i j => .bl (decide (j ≤ i))) (tVar 3) (tOp (rI CPow fun i j => .int (i ^ j.toNat)) (tC (.int 10)) (tC (.int 18))))) rfl sc_l_dice.nd (pi_list (pv 0)) (blkOk_by (own := [("_law_cell", 3)]) (N := N_l_dice) (sc := defScope s_l_dice) (by decide +kernel)) (fun _ _ _ _ _ => pg_name (i := 3) sc_l_dice.nd rfl (Or.inl rfl)) (fun _ _ _ _ _ => pts_one (pt_cmpR op_ge (pv 3) (pe_op op_pow pe_int pe_int) (nomark _))) (fun _ _ _ _ _ => pv 3))))))
abbrev s_l_off : Stmt := top 8
theorem sc_l_off : FnScope N_l_off ["_law_d", "_law_most"] (defScope s_l_off) := ⟨rfl, rfl, rfl, by decide +kernel, rfl, by decide +kernel, by decide +kernel⟩
theorem ok_l_off {f : Addr} {fd : FuncData} (h : Has K mg "_law_off" s_l_off ["_law_d", "_law_most"] f fd) (Z : Zs mg)   : OkG P w K mg base 1 "_law_off" ["_law_d", "_law_most"] G_l_off := by
  refine h.ok (k := 0) sc_l_off (fun cdv A outer s H E hr => ?_)
  exact ⟨_, (d_cons (d_if (DW.dt (d_and (d_teq hr (DS.w (d_dget 0 (pv 0))) (DS.w d_int)) (d_and1 (d_tgt (DS.w (d_dlen 0 (pv 0) (by rfl) Z.z_len)) (DS.w d_int)))))
      (d_last (d_dset 0 (pv 0) (d_dpop 0 2 (by decide) (pe_bm PySem.F.plainAttrs_list PySem.F.slot_list_pop PySem.F.type_list_pop mt_popAt (pv 0) (pa_cons pe_int pa_nil))) (ps_asg (d_dpop 0 2 (by decide) (pe_bm PySem.F.plainAttrs_list PySem.F.slot_list_pop PySem.F.type_list_pop mt_popAt (pv 0) (pa_cons pe_int pa_nil))).p (pg_sub (pv 0) pe_int set_list))))
      d_nil)
      (d_cons (d_if (d_tgt (DS.w (d_dget 0 (pv 0))) (DS.w d_int))
      (d_cons (d_set 2 (d_mod (DS.w (d_dget 0 (pv 0))) (DS.w (d_var 1 (pv 1)))) (fun he => ps_set (i := 2) sc_l_off.nd rfl (by first | exact Or.inl rfl | exact Or.inr rfl) he))
      (d_cons (d_dset 0 (pv 0) (d_fdiv (DS.w (d_dget 0 (pv 0))) (DS.w (d_var 1 (pv 1)))) (ps_asg (d_fdiv (DS.w (d_dget 0 (pv 0))) (DS.w (d_var 1 (pv 1)))).p (pg_sub (pv 0) pe_int set_list)))
      (d_last (d_ret (d_var 2 (pv 2))))))
      d_nil)
      (d_cons (d_dset 0 (pv 0) (d_mod (DS.w (d_add (DS.w (d_mul (DS.w (d_dget 0 (pv 0))) (DS.w d_int))) (DS.w d_int))) (DS.w d_int)) (ps_asg (d_mod (DS.w (d_add (DS.w (d_mul (DS.w (d_dget 0 (pv 0))) (DS.w d_int))) (DS.w d_int))) (DS.w d_int)).p (pg_sub (pv 0) pe_int set_list)))
      (d_last (d_ret (d_mod (DS.w (d_fdiv (DS.w (d_dget 0 (pv 0))) (DS.w d_int))) (DS.w (d_var 1 (pv 1)))))))))⟩
abbrev s_l_alike : Stmt := top 9
theorem sc_l_alike : FnScope N_l_alike ["_law_found", "_law_due"] (defScope s_l_alike) := ⟨rfl, rfl, rfl, by decide +kernel, rfl, by decide +kernel, by decide +kernel⟩
theorem ok_l_alike {f : Addr} {fd : FuncData} (h : Has K mg "_law_alike" s_l_alike ["_law_found", "_law_due"] f fd) (Z : Zs mg)   : ∀ n, OkG P w K mg base (n + 0) "_law_alike" ["_law_found", "_law_due"] (G_l_alike n)
  | 0 => h.zero
  | n + 1 => by
    have c_rec := ok_l_alike h Z  n
    refine (h.ok (k := n + 0) (g := g_l_alike (G_l_alike n)) sc_l_alike (fun cdv A outer s H E hr => ?_)).mono (by omega)
    exact ⟨_, (d_cons (d_if (d_tisN (DS.w (d_var 1 (pv 1))) (DS.w d_non))
      (d_last (d_ret (d_isN (DS.w (d_var 0 (pv 0))) (DS.w d_non))))
      d_nil)
      (d_cons (d_if (d_truth (DS.w (d_isi (T := "bool") (DS.w (d_var 1 (pv 1))) (by rfl) Z.z_isinstance (by rfl) Z.z_bool PyProof.Rows.boot_bool)))
      (d_last (d_ret (d_vand (DS.w (d_isi (T := "bool") (DS.w (d_var 0 (pv 0))) (by rfl) Z.z_isinstance (by rfl) Z.z_bool PyProof.Rows.boot_bool)) (d_one (d_eq hr (DS.w (d_var 0 (pv 0))) (DS.w (d_var 1 (pv 1))))))))
      d_nil)
      (d_cons (d_if (d_truth (DS.w (d_isi (T := "int") (DS.w (d_var 1 (pv 1))) (by rfl) Z.z_isinstance (by rfl) Z.z_int PyProof.Rows.boot_int)))
      (d_last (d_ret (d_vand (DS.w (d_isi (T := "int") (DS.w (d_var 0 (pv 0))) (by rfl) Z.z_isinstance (by rfl) Z.z_int PyProof.Rows.boot_int)) (d_vand (DS.w (d_vnot (DS.w (d_isi (T := "bool") (DS.w (d_var 0 (pv 0))) (by rfl) Z.z_isinstance (by rfl) Z.z_bool PyProof.Rows.boot_bool)))) (d_one (d_eq hr (DS.w (d_var 0 (pv 0))) (DS.w (d_var 1 (pv 1)))))))))
      d_nil)
      (d_cons (d_if (d_truth (DS.w (d_isi (T := "str") (DS.w (d_var 1 (pv 1))) (by rfl) Z.z_isinstance (by rfl) Z.z_str PyProof.Rows.boot_str)))
      (d_last (d_ret (d_vand (DS.w (d_isi (T := "str") (DS.w (d_var 0 (pv 0))) (by rfl) Z.z_isinstance (by rfl) Z.z_str PyProof.Rows.boot_str)) (d_one (d_eq hr (DS.w (d_var 0 (pv 0))) (DS.w (d_var 1 (pv 1))))))))
      d_nil)
      (d_cons (d_if (d_truth (DS.w (d_isi (T := "dict") (DS.w (d_var 1 (pv 1))) (by rfl) Z.z_isinstance (by rfl) Z.z_dict PyProof.Rows.boot_dict)))
      d_never
      d_nil)
      (d_cons (d_if (DW.dt (d_or (d_tne hr (DS.w (d_isi (T := "tuple") (DS.w (d_var 1 (pv 1))) (by rfl) Z.z_isinstance (by rfl) Z.z_tuple PyProof.Rows.boot_tuple)) (DS.w (d_isi (T := "tuple") (DS.w (d_var 0 (pv 0))) (by rfl) Z.z_isinstance (by rfl) Z.z_tuple PyProof.Rows.boot_tuple))) (d_or1 (d_tne hr (DS.w (d_isi (T := "list") (DS.w (d_var 1 (pv 1))) (by rfl) Z.z_isinstance (by rfl) Z.z_list PyProof.Rows.boot_list)) (DS.w (d_isi (T := "list") (DS.w (d_var 0 (pv 0))) (by rfl) Z.z_isinstance (by rfl) Z.z_list PyProof.Rows.boot_list))))))
      (d_last (d_ret d_bl))
      d_nil)
      (d_cons (d_if (d_tne hr (DS.w (d_callB call_lenU ref_len (by rfl) Z.z_len PySem.boot_len (d_abcons (DS.w (d_var 0 (pv 0))) d_abnil))) (DS.w (d_callB call_lenU ref_len (by rfl) Z.z_len PySem.boot_len (d_abcons (DS.w (d_var 1 (pv 1))) d_abnil))))
      (d_last (d_ret d_bl))
      d_nil)
      (d_last (d_ret (d_callB (cr_all rfl) ref_all (by rfl) Z.z_all PyProof.Rows.boot_all (d_abcons (DS.w (DF.s (d_lc (own := [("_law_k", 3)]) (tgd := (gName 3)) (tt := tYes) (te := (tCall (spG K mg (["_law_found", "_law_due"] : List Str).length (G_l_alike n)) [] E0 (tCons (tOp (rIx K) (tVar 0) (tVar 3)) (tCons (tOp (rIx K) (tVar 1) (tVar 3)) tNil)))) (gd := (tgName 3)) (ft := eYes) (fe := (eCall (G_l_alike n) (["_law_found", "_law_due"] : List Str).length (aCons (eOp dIx (eVar 0) (eVar 3)) (aCons (eOp dIx (eVar 1) (eVar 3)) aNil)))) rfl sc_l_alike.nd (d_irange1 (by rfl) Z.z_range (d_abcons (DS.w (d_callB call_lenU ref_len (by rfl) Z.z_len PySem.boot_len (d_abcons (DS.w (d_var 1 (pv 1))) d_abnil))) d_abnil)) (blkOk_by (own := [("_law_k", 3)]) (N := N_l_alike) (sc := defScope s_l_alike) (by decide +kernel)) (fun _ _ _ _ _ => by exact (d_gname 3 (pg_name (i := 3) sc_l_alike.nd rfl (by first | exact Or.inl rfl | exact Or.inr rfl)))) (fun _ _ _ _ _ => by exact d_tsnil) (fun _ _ _ _ _ => by exact (d_callO c_rec (hr.mono (by omega)) (by rfl) (d_acons (d_ix (DS.w (d_var 0 (pv 0))) (DS.w (d_var 3 (pv 3)))) (d_acons (d_ix (DS.w (d_var 1 (pv 1))) (DS.w (d_var 3 (pv 3)))) d_anil))))))) d_abnil)))))))))))⟩
abbrev s_l_next : Stmt := top 10
theorem sc_l_next : FnScope N_l_next ["_law_corner", "_law_letter"] (defScope s_l_next) := ⟨rfl, rfl, rfl, by decide +kernel, rfl, by decide +kernel, by decide +kernel⟩
theorem ok_l_next {f : Addr} {fd : FuncData} (h : Has K mg "_law_next" s_l_next ["_law_corner", "_law_letter"] f fd) (Z : Zs mg)   : OkG P w K mg base 1 "_law_next" ["_law_corner", "_law_letter"] G_l_next := by
  refine h.ok (k := 0) sc_l_next (fun cdv A outer s H E hr => ?_)
  exact ⟨_, (d_cons (d_set 2 (d_index rfl (DS.w d_str) (DS.w (d_var 1 (pv 1)))) (fun he => ps_set (i := 2) sc_l_next.nd rfl (by first | exact Or.inl rfl | exact Or.inr rfl) he))
      (d_last (d_ret (d_tup (d_acons (d_add (DS.w (d_ix (DS.w (d_var 0 (pv 0))) (DS.w d_int))) (DS.w (d_ix (DS.w (d_lst (d_acons d_int (d_acons d_int (d_acons (d_neg (DS.w d_int)) (d_acons d_int d_anil)))))) (DS.w (d_var 2 (pv 2)))))) (d_acons (d_add (DS.w (d_ix (DS.w (d_var 0 (pv 0))) (DS.w d_int))) (DS.w (d_ix (DS.w (d_lst (d_acons d_int (d_acons d_int (d_acons d_int (d_acons (d_neg (DS.w d_int)) d_anil)))))) (DS.w (d_var 2 (pv 2)))))) d_anil))))))⟩
abbrev s_l_word : Stmt := top 11
theorem sc_l_word : FnScope N_l_word ["_law_d", "_law_most"] (defScope s_l_word) := ⟨rfl, rfl, rfl, by decide +kernel, rfl, by decide +kernel, by decide +kernel⟩
theorem ok_l_word {f : Addr} {fd : FuncData} (h : Has K mg "_law_word" s_l_word ["_law_d", "_law_most"] f fd) (Z : Zs mg) (c_l_off : OkG P w K mg base 1 "_law_off" ["_law_d", "_law_most"] G_l_off)  : OkG P w K mg base 2 "_law_word" ["_law_d", "_law_most"] G_l_word := by
  refine h.ok (k := 1) sc_l_word (fun cdv A outer s H E hr => ?_)
  exact ⟨_, (d_last (d_ret (d_join (DS.w d_str) (DS.w (DF.s (d_lc (own := [("_law_k", 2)]) (tgd := (gName 2)) (tt := tYes) (te := (tOp (rIx K) (tC (.str "enws")) (tCall (spG K mg (["_law_d", "_law_most"] : List Str).length G_l_off) [] E0 (tCons (tVar 0) (tCons (tC (.int 4)) tNil))))) (gd := (tgName 2)) (ft := eYes) (fe := (eOp dIx (eC (.str "enws")) (eCall G_l_off (["_law_d", "_law_most"] : List Str).length (aCons (eVar 0) (aCons (eC (.int 4)) aNil))))) rfl sc_l_word.nd (d_irange1 (by rfl) Z.z_range (d_abcons (DS.w (d_callO c_l_off (hr.mono (by decide)) (by rfl) (d_acons (d_var 0 (pv 0)) (d_acons (d_add (DS.w (d_var 1 (pv 1))) (DS.w d_int)) d_anil)))) d_abnil)) (blkOk_by (own := [("_law_k", 2)]) (N := N_l_word) (sc := defScope s_l_word) (by decide +kernel)) (fun _ _ _ _ _ => by exact (d_gname 2 (pg_name (i := 2) sc_l_word.nd rfl (by first | exact Or.inl rfl | exact Or.inr rfl)))) (fun _ _ _ _ _ => by exact d_tsnil) (fun _ _ _ _ _ => by exact (d_ix (DS.w d_str) (DS.w (d_callO c_l_off (hr.mono (by decide)) (by rfl) (d_acons (d_var 0 (pv 0)) (d_acons d_int d_anil))))))))))))⟩
abbrev s_l_less : Stmt := top 12
theorem sc_l_less : FnScope N_l_less ["_law_word_here"] (defScope s_l_less) := ⟨rfl, rfl, rfl, by decide +kernel, rfl, by decide +kernel, by decide +kernel⟩
theorem ok_l_less {f : Addr} {fd : FuncData} (h : Has K mg "_law_less" s_l_less ["_law_word_here"] f fd) (Z : Zs mg)   : OkG P w K mg base 1 "_law_less" ["_law_word_here"] G_l_less := by
  refine h.ok (k := 0) sc_l_less (fun cdv A outer s H E hr => ?_)
  exact ⟨_, (d_cons (d_for PassesOwn.never rfl (d_irange1 (by rfl) Z.z_range (d_abcons (DS.w (d_sub (DS.w (d_callB call_lenU ref_len (by rfl) Z.z_len PySem.boot_len (d_abcons (DS.w (d_var 0 (pv 0))) d_abnil))) (DS.w d_int))) d_abnil)) (d_gname 1 (pg_name (i := 1) sc_l_less.nd rfl (by first | exact Or.inl rfl | exact Or.inr rfl)))
      (d_last (d_if (d_tin hr (DS.w (d_sl (DS.w (d_var 0 (pv 0))) (d_osome (DS.w (d_var 1 (pv 1)))) (d_osome (DS.w (d_add (DS.w (d_var 1 (pv 1))) (DS.w d_int)))))) (DS.w (d_tup (d_acons d_str (d_acons d_str (d_acons d_str (d_acons d_str d_anil)))))))
      (d_last (d_ret (d_add (DS.w (d_sl (DS.w (d_var 0 (pv 0))) d_onone (d_osome (DS.w (d_var 1 (pv 1)))))) (DS.w (d_sl (DS.w (d_var 0 (pv 0))) (d_osome (DS.w (d_add (DS.w (d_var 1 (pv 1))) (DS.w d_int)))) d_onone)))))
      d_nil)))
      (d_last (d_ret (d_var 0 (pv 0)))))⟩
abbrev s_l_law : Stmt := top 13
abbrev N_l_law : List Str := ["_law_script", "_law_d", "_law_word_here", "_law_other", "_law_begin", "_law_due", "_law_letter", "_law_short", "_law_back", "_law_at"]
def b_l_law_1 : Sg := (gAppend 5 (eCall G_l_next (["_law_corner", "_law_letter"] : List Str).length (aCons (eOp dIx (eVarB 5) (eUn dNeg (eC (.int 1)))) (aCons (eVar 6) aNil))))
def b_l_law_2 : Sg := (gAsg (tgName 7) (eCall G_l_less (["_law_word_here"] : List Str).length (aCons (eVar 7) aNil)))
def g_l_law : Sg :=
    (gSeq (gAsg (tgName 2) (eCall G_l_word (["_law_d", "_law_most"] : List Str).length (aCons (eVar 1) (aCons (eOp dIx (eLst (aCons (eC (.int 20)) (aCons (eC (.int 20)) (aCons (eC (.int 60)) aNil)))) (eCall G_l_off (["_law_d", "_law_most"] : List Str).length (aCons (eVar 1) (aCons (eC (.int 3)) aNil)))) aNil))))
    (gSeq (gAsg (tgName 3) (eCall G_l_word (["_law_d", "_law_most"] : List Str).length (aCons (eVar 1) (aCons (eC (.int 12)) aNil))))
    (gSeq (gAsg (tgName 4) (eTup (aCons (eOp dSub (eCall G_l_off (["_law_d", "_law_most"] : List Str).length (aCons (eVar 1) (aCons (eC (.int 9)) aNil))) (eC (.int 4))) (aCons (eOp dSub (eCall G_l_off (["_law_d", "_law_most"] : List Str).length (aCons (eVar 1) (aCons (eC (.int 9)) aNil))) (eC (.int 4))) aNil))))
    (gSeq (gOwn 5 (fLst (aCons (eVar 4) aNil)))
    (gSeq (gFor (iStrD (eVar 2)) (tgName 6) b_l_law_1)
    (gFreeze 5 (gSeq (gIf (eNotT (eTru (eCall (G_l_alike 4) (["_law_found", "_law_due"] : List Str).length (aCons (eCall G_p_corners (["corner", "word"] : List Str).length (aCons (eVar 4) (aCons (eVar 2) aNil))) (aCons (eVar 5) aNil))))) (gRet (eC (.bl false))) gNext)
    (gSeq (gAsg (tgName 7) (eVar 2))
    (gSeq (whileD (eTest (eOp dNe (eCall G_l_less (["_law_word_here"] : List Str).length (aCons (eVar 7) aNil)) (eVar 7))) b_l_law_2 100000)
    (gSeq (gIf (eOrT (eNotT (eTru (eCall (G_l_alike 4) (["_law_found", "_law_due"] : List Str).length (aCons (eCall G_p_reduced (["word"] : List Str).length (aCons (eVar 2) aNil)) (aCons (eVar 7) aNil))))) (eTest (eOp dNe (eOp dIx (eCall G_p_corners (["corner", "word"] : List Str).length (aCons (eVar 4) (aCons (eVar 7) aNil))) (eUn dNeg (eC (.int 1)))) (eOp dIx (eVar 5) (eUn dNeg (eC (.int 1))))))) (gRet (eC (.bl false))) gNext)
    (gSeq (gAsg (tgName 8) (eOp dJoin (eC (.str "")) (eF (fLc (iStrD (eRev (eVar 2))) (tgName 6) eYes (eOp dIx (eC (.str "wsen")) (eOp dIndex (eC (.str "enws")) (eVar 6))) [6]))))
    (gSeq (gIf (eOrT (eNotT (eTru (eCall (G_l_alike 4) (["_law_found", "_law_due"] : List Str).length (aCons (eCall G_p_inverse (["word"] : List Str).length (aCons (eVar 2) aNil)) (aCons (eVar 8) aNil))))) (eTest (eOp dNe (eCall G_p_reduced (["word"] : List Str).length (aCons (eOp dAdd (eVar 2) (eVar 8)) aNil)) (eC (.str ""))))) (gRet (eC (.bl false))) gNext)
    (gSeq (gAsg (tgName 9) (eCall G_l_off (["_law_d", "_law_most"] : List Str).length (aCons (eVar 1) (aCons (eOp dAdd (eB dLen (aCons (eVar 3) aNil)) (eC (.int 1))) aNil))))
    (gRet (eOp dEq (eCall G_p_reduced (["word"] : List Str).length (aCons (eOp dAdd (eOp dAdd (eOp dAdd (eSl (eVar 3) oNone (oSome (eVar 9))) (eVar 2)) (eVar 8)) (eSl (eVar 3) (oSome (eVar 9)) oNone)) aNil)) (eCall G_p_reduced (["word"] : List Str).length (aCons (eVar 3) aNil)))))))))))))))))
theorem sc_l_law : FnScope N_l_law ["_law_script"] (defScope s_l_law) := ⟨rfl, rfl, rfl, by decide +kernel, rfl, by decide +kernel, by decide +kernel⟩
theorem ok_l_law {f : Addr} {fd : FuncData} (h : Has K mg "law" s_l_law ["_law_script"] f fd) (Z : Zs mg) (c_l_off : OkG P w K mg base 1 "_law_off" ["_law_d", "_law_most"] G_l_off) (c_l_word : OkG P w K mg base 2 "_law_word" ["_law_d", "_law_most"] G_l_word) (c_l_next : OkG P w K mg base 1 "_law_next" ["_law_corner", "_law_letter"] G_l_next) (c_p_corners : OkG P w K mg base 1 "corners" ["corner", "word"] G_p_corners) (c_l_alike : OkG P w K mg base 4 "_law_alike" ["_law_found", "_law_due"] (G_l_alike 4)) (c_l_less : OkG P w K mg base 1 "_law_less" ["_law_word_here"] G_l_less) (c_p_reduced : OkG P w K mg base 1 "reduced" ["word"] G_p_reduced) (c_p_inverse : OkG P w K mg base 1 "inverse" ["word"] G_p_inverse)  {f0 : Addr} {fd0 : FuncData} (D : Has K mg "_law_dice" s_l_dice ["_law_script", "_law_k"] f0 fd0)
    (hg : ∀ ns : List Int, ns.length ≤ 63 → ∃ δ', g_l_law (startL N_l_law) (dice 0 ns) = some (.rt (.bl true) δ')) : FnOk P w K mg base CX0 5 f fd ["_law_script"] (spLaw K) := by
  refine fn_law (n0 := "_law_script") h.F sc_l_law (by decide) rfl (fun cdv A outer s H E hr => ?_) hg
  exact ⟨_, ps_set (i := 1) sc_l_law.nd rfl (by first | exact Or.inl rfl | exact Or.inr rfl) (pe_call (ok_dice D Z) (hr.mono (by decide)) (by rfl) D.m D.F.kp D.b .nil pass0 (pa_cons (pv 0) (pa_cons pe_int pa_nil))), (d_cons (d_set 2 (d_callO c_l_word (hr.mono (by decide)) (by rfl) (d_acons (d_var 1 (pv 1)) (d_acons (d_ix (DS.w (d_lst (d_acons d_int (d_acons d_int (d_acons d_int d_anil))))) (DS.w (d_callO c_l_off (hr.mono (by decide)) (by rfl) (d_acons (d_var 1 (pv 1)) (d_acons d_int d_anil))))) d_anil))) (fun he => ps_set (i := 2) sc_l_law.nd rfl (by first | exact Or.inl rfl | exact Or.inr rfl) he))
      (d_cons (d_set 3 (d_callO c_l_word (hr.mono (by decide)) (by rfl) (d_acons (d_var 1 (pv 1)) (d_acons d_int d_anil))) (fun he => ps_set (i := 3) sc_l_law.nd rfl (by first | exact Or.inl rfl | exact Or.inr rfl) he))
      (d_cons (d_set 4 (d_tup (d_acons (d_sub (DS.w (d_callO c_l_off (hr.mono (by decide)) (by rfl) (d_acons (d_var 1 (pv 1)) (d_acons d_int d_anil)))) (DS.w d_int)) (d_acons (d_sub (DS.w (d_callO c_l_off (hr.mono (by decide)) (by rfl) (d_acons (d_var 1 (pv 1)) (d_acons d_int d_anil)))) (DS.w d_int)) d_anil))) (fun he => ps_set (i := 4) sc_l_law.nd rfl (by first | exact Or.inl rfl | exact Or.inr rfl) he))
      (d_cons (d_own 5 (d_lstF (d_acons (d_var 4 (pv 4)) d_anil)) (fun he => ps_set (i := 5) sc_l_law.nd rfl (by first | exact Or.inl rfl | exact Or.inr rfl) he))
      (d_cons (d_for PassesOwn.never rfl (d_istr (DS.w (d_var 2 (pv 2)))) (d_gname 6 (pg_name (i := 6) sc_l_law.nd rfl (by first | exact Or.inl rfl | exact Or.inr rfl)))
      (d_last (d_append 5 (d_callO c_l_next (hr.mono (by decide)) (by rfl) (d_acons (d_ix (d_varB 5 (pv 5)) (DS.w (d_neg (DS.w d_int)))) (d_acons (d_var 6 (pv 6)) d_anil))) (fun ha => ps_expr (pe_bm PySem.F.plainAttrs_list PySem.F.slot_list_append PySem.F.type_list_append mt_append (pv 5) ha)))))
      (d_freeze 5 (d_cons (d_if (d_tnot (d_truth (DS.w (d_callO c_l_alike (hr.mono (by decide)) (by rfl) (d_acons (d_callO c_p_corners (hr.mono (by decide)) (by rfl) (d_acons (d_var 4 (pv 4)) (d_acons (d_var 2 (pv 2)) d_anil))) (d_acons (d_var 5 (pv 5)) d_anil))))))
      (d_last (d_ret d_bl))
      d_nil)
      (d_cons (d_set 7 (d_var 2 (pv 2)) (fun he => ps_set (i := 7) sc_l_law.nd rfl (by first | exact Or.inl rfl | exact Or.inr rfl) he))
      (d_cons (d_while 100000 PassesOwn.never (d_tne hr (DS.w (d_callO c_l_less (hr.mono (by decide)) (by rfl) (d_acons (d_var 7 (pv 7)) d_anil))) (DS.w (d_var 7 (pv 7))))
      (d_last (d_set 7 (d_callO c_l_less (hr.mono (by decide)) (by rfl) (d_acons (d_var 7 (pv 7)) d_anil)) (fun he => ps_set (i := 7) sc_l_law.nd rfl (by first | exact Or.inl rfl | exact Or.inr rfl) he))))
      (d_cons (d_if (DW.dt (d_or (d_tnot (d_truth (DS.w (d_callO c_l_alike (hr.mono (by decide)) (by rfl) (d_acons (d_callO c_p_reduced (hr.mono (by decide)) (by rfl) (d_acons (d_var 2 (pv 2)) d_anil)) (d_acons (d_var 7 (pv 7)) d_anil)))))) (d_or1 (d_tne hr (DS.w (d_ix (DS.w (d_callO c_p_corners (hr.mono (by decide)) (by rfl) (d_acons (d_var 4 (pv 4)) (d_acons (d_var 7 (pv 7)) d_anil)))) (DS.w (d_neg (DS.w d_int))))) (DS.w (d_ix (DS.w (d_var 5 (pv 5))) (DS.w (d_neg (DS.w d_int)))))))))
      (d_last (d_ret d_bl))
      d_nil)
      (d_cons (d_set 8 (d_join (DS.w d_str) (DS.w (DF.s (d_lc (own := [("_law_letter", 6)]) (tgd := (gName 6)) (tt := tYes) (te := (tOp (rIx K) (tC (.str "wsen")) (tBMS K "str" (rIndexX fun _ _ _ _ => False) (tC (.str "enws")) (tCons (tVar 6) tNil)))) (gd := (tgName 6)) (ft := eYes) (fe := (eOp dIx (eC (.str "wsen")) (eOp dIndex (eC (.str "enws")) (eVar 6)))) rfl sc_l_law.nd (d_istr (DS.w (d_rev (DS.w (d_var 2 (pv 2)))))) (blkOk_by (own := [("_law_letter", 6)]) (N := N_l_law) (sc := defScope s_l_law) (by decide +kernel)) (fun _ _ _ _ _ => by exact (d_gname 6 (pg_name (i := 6) sc_l_law.nd rfl (by first | exact Or.inl rfl | exact Or.inr rfl)))) (fun _ _ _ _ _ => by exact d_tsnil) (fun _ _ _ _ _ => by exact (d_ix (DS.w d_str) (DS.w (d_index rfl (DS.w d_str) (DS.w (d_var 6 (pv 6))))))))))) (fun he => ps_set (i := 8) sc_l_law.nd rfl (by first | exact Or.inl rfl | exact Or.inr rfl) he))
      (d_cons (d_if (DW.dt (d_or (d_tnot (d_truth (DS.w (d_callO c_l_alike (hr.mono (by decide)) (by rfl) (d_acons (d_callO c_p_inverse (hr.mono (by decide)) (by rfl) (d_acons (d_var 2 (pv 2)) d_anil)) (d_acons (d_var 8 (pv 8)) d_anil)))))) (d_or1 (d_tne hr (DS.w (d_callO c_p_reduced (hr.mono (by decide)) (by rfl) (d_acons (d_add (DS.w (d_var 2 (pv 2))) (DS.w (d_var 8 (pv 8)))) d_anil))) (DS.w d_str)))))
      (d_last (d_ret d_bl))
      d_nil)
      (d_cons (d_set 9 (d_callO c_l_off (hr.mono (by decide)) (by rfl) (d_acons (d_var 1 (pv 1)) (d_acons (d_add (DS.w (d_callB call_lenU ref_len (by rfl) Z.z_len PySem.boot_len (d_abcons (DS.w (d_var 3 (pv 3))) d_abnil))) (DS.w d_int)) d_anil))) (fun he => ps_set (i := 9) sc_l_law.nd rfl (by first | exact Or.inl rfl | exact Or.inr rfl) he))
      (d_last (d_ret (d_eq hr (DS.w (d_callO c_p_reduced (hr.mono (by decide)) (by rfl) (d_acons (d_add (DS.w (d_add (DS.w (d_add (DS.w (d_sl (DS.w (d_var 3 (pv 3))) d_onone (d_osome (DS.w (d_var 9 (pv 9)))))) (DS.w (d_var 2 (pv 2))))) (DS.w (d_var 8 (pv 8))))) (DS.w (d_sl (DS.w (d_var 3 (pv 3))) (d_osome (DS.w (d_var 9 (pv 9)))) d_onone))) d_anil))) (DS.w (d_callO c_p_reduced (hr.mono (by decide)) (by rfl) (d_acons (d_var 3 (pv 3)) d_anil)))))))))))))))))))⟩
end

end K03

namespace K03
open PySem PySem.Spec L2 Dl Cm
/-! ### one pair taken out -/
def lessM : List Nat → Option (List Nat)
  | a :: b :: r => if b = backM a then some r else (lessM (b :: r)).map (a :: ·)
  | _ => none
theorem dSl_S {w : List Nat} {lo hi : Option Int} (h : w.length < 1000000) : dSl (.str (S w)) lo hi = some (.str (cutS (S w) lo hi)) := by
  show (if (S w).length < 1000000 then some (Dat.str (cutS (S w) lo hi)) else none) = _
  rw [S_len, if_pos h]
theorem in_pairs {a b : Nat} (ha : L4 a) (hb : L4 b) : dIn (.str (S [a, b])) (.tup [.str "ew", .str "we", .str "ns", .str "sn"]) = some (.bl (decide (b = backM a))) := by
  have h : inV (.str (S [a, b])) [.str "ew", .str "we", .str "ns", .str "sn"] = decide (b = backM a) := by
    rcases ha with rfl | rfl | rfl | rfl <;> rcases hb with rfl | rfl | rfl | rfl <;> decide +kernel
  show some (Dat.bl (inV (.str (S [a, b])) [.str "ew", .str "we", .str "ns", .str "sn"])) = _
  rw [h]
theorem body_eval {p q : List Nat} {a b : Nat} {δ : List Int} (hl : (p ++ a :: b :: q).length < 1000000) (ha : L4 a) (hb : L4 b) :
    eTest (eOp dIn (eSl (eVar 0) (oSome (eVar 1)) (oSome (eOp dAdd (eVar 1) (eC (.int 2))))) (eTup (aCons (eC (.str "ew")) (aCons (eC (.str "we")) (aCons (eC (.str "ns")) (aCons (eC (.str "sn")) aNil))))))
      [.val (.str (S (p ++ a :: b :: q))), .val (.int (0 + (p.length : Nat)))] δ = some (decide (b = backM a), δ) := by
  apply eTest_s
  apply eOp_s
  · apply eSl_s
    · exact eVar_s rfl
    · exact oSome_s (eVar_s rfl)
    · exact oSome_s (eOp_s (eVar_s rfl) eC_s dAdd_i)
    · exact dSl_S hl
  · exact eTup_s (aCons_s eC_s (aCons_s eC_s (aCons_s eC_s (aCons_s eC_s aNil_s)))) (by simp)
  · have e : cutS (S (p ++ a :: b :: q)) (some (0 + (p.length : Nat))) (some (0 + (p.length : Nat) + 2)) = S [a, b] := by
      have := cut_mid (p ++ a :: b :: q) p.length 2 (by simp)
      rw [show ((0 : Int) + ((p.length : Nat) : Int)) = ((p.length : Nat) : Int) by omega, show (((p.length : Nat) : Int) + 2) = ((p.length + 2 : Nat) : Int) by omega, this]
      simp
    rw [e]
    exact in_pairs ha hb
theorem ret_eval {p q : List Nat} {a b : Nat} {δ : List Int} (hl : (p ++ a :: b :: q).length < 500000) :
    gRet (eOp dAdd (eSl (eVar 0) oNone (oSome (eVar 1))) (eSl (eVar 0) (oSome (eOp dAdd (eVar 1) (eC (.int 2)))) oNone)) [.val (.str (S (p ++ a :: b :: q))), .val (.int (0 + (p.length : Nat)))] δ = some (.rt (.str (S (p ++ q))) δ) := by
  apply gRet_s
  apply eOp_s
  · apply eSl_s
    · exact eVar_s rfl
    · exact oNone_s
    · exact oSome_s (eVar_s rfl)
    · exact dSl_S (by omega)
  · apply eSl_s
    · exact eVar_s rfl
    · exact oSome_s (eOp_s (eVar_s rfl) eC_s dAdd_i)
    · exact oNone_s
    · exact dSl_S (by omega)
  · rw [show ((0 : Int) + ((p.length : Nat) : Int)) = ((p.length : Nat) : Int) by omega, cut_to, show (((p.length : Nat) : Int) + 2) = ((p.length + 2 : Nat) : Int) by omega, cut_from]
    have e1 : (p ++ a :: b :: q).take p.length = p := by simp
    have e2 : (p ++ a :: b :: q).drop (p.length + 2) = q := by
      rw [← List.drop_drop]
      simp
    rw [e1, e2]
    refine (dAdd_s ?_).trans ?_
    · rw [S_len, S_len]
      simp at hl
      omega
    · rw [S_app]
theorem range_step (k m : Nat) : ((List.range' k (m + 1)).map fun i => Dat.int (0 + ((i : Nat) : Int))) = .int (0 + ((k : Nat) : Int)) :: (List.range' (k + 1) m).map fun i => Dat.int (0 + ((i : Nat) : Int)) := by
  rw [List.range'_succ, List.map_cons]
theorem less_loop {δ : List Int} : ∀ (q p : List Nat) (s1 : Dl.Slot), (p ++ q).length < 500000 → (∀ c ∈ q, L4 c) →
    (∀ q', lessM q = some q' → forD (tgName 1) b_l_less_1 ((List.range' p.length (q.length - 1)).map fun i => .int (0 + ((i : Nat) : Int))) [.val (.str (S (p ++ q))), s1] δ = some (.rt (.str (S (p ++ q'))) δ)) ∧
    (lessM q = none → ∃ s1', forD (tgName 1) b_l_less_1 ((List.range' p.length (q.length - 1)).map fun i => .int (0 + ((i : Nat) : Int))) [.val (.str (S (p ++ q))), s1] δ = some (.nx [.val (.str (S (p ++ q))), s1'] δ))
  | [], p, s1, _, _ => ⟨fun q' h => (by cases h), fun _ => ⟨s1, rfl⟩⟩
  | [a], p, s1, _, _ => ⟨fun q' h => (by cases h), fun _ => ⟨s1, rfl⟩⟩
  | a :: b :: r, p, s1, hl, hq => by
    have ha := hq a List.mem_cons_self
    have hb := hq b (List.mem_cons_of_mem _ List.mem_cons_self)
    have hlen : (a :: b :: r).length - 1 = r.length + 1 := by simp
    have be := body_eval (p := p) (q := r) (δ := δ) (by omega) ha hb
    rw [hlen, range_step]
    by_cases hab : b = backM a
    · constructor
      · intro q' h
        have h : (if b = backM a then some r else (lessM (b :: r)).map (a :: ·)) = some q' := h
        rw [if_pos hab] at h
        cases h
        apply forD_r
        · exact rfl
        · exact gIf_t (be.trans (by rw [decide_eq_true hab])) (ret_eval hl)
      · intro h
        have h : (if b = backM a then some r else (lessM (b :: r)).map (a :: ·)) = none := h
        rw [if_pos hab] at h
        cases h
    · have ih := less_loop (δ := δ) (b :: r) (p ++ [a]) (.val (.int (0 + ((p.length : Nat) : Int)))) (by simp at hl ⊢; omega) (fun c hc => hq c (List.mem_cons_of_mem _ hc))
      have e1 : p ++ [a] ++ b :: r = p ++ a :: b :: r := by simp
      have e2 : (p ++ [a]).length = p.length + 1 := by simp
      have e3 : (b :: r).length - 1 = r.length := by simp
      rw [e1, e2, e3] at ih
      have step : ∀ o, forD (tgName 1) b_l_less_1 ((List.range' (p.length + 1) r.length).map fun i => .int (0 + ((i : Nat) : Int))) [.val (.str (S (p ++ a :: b :: r))), .val (.int (0 + ((p.length : Nat) : Int)))] δ = some o →
          forD (tgName 1) b_l_less_1 (.int (0 + ((p.length : Nat) : Int)) :: (List.range' (p.length + 1) r.length).map fun i => Dat.int (0 + ((i : Nat) : Int))) [.val (.str (S (p ++ a :: b :: r))), s1] δ = some o := by
        intro o ho
        apply forD_n
        · exact rfl
        · exact gIf_f (be.trans (by rw [decide_eq_false hab])) gNext_s
        · exact ho
      constructor
      · intro q' h
        have h : (if b = backM a then some r else (lessM (b :: r)).map (a :: ·)) = some q' := h
        rw [if_neg hab] at h
        cases e : lessM (b :: r) with
        | none => rw [e] at h; cases h
        | some u =>
          rw [e] at h
          cases h
          have := ih.1 u e
          refine step _ (this.trans ?_)
          simp
      · intro h
        have h : (if b = backM a then some r else (lessM (b :: r)).map (a :: ·)) = none := h
        rw [if_neg hab] at h
        cases e : lessM (b :: r) with
        | none =>
          obtain ⟨s1', h1⟩ := ih.2 e
          exact ⟨s1', step _ h1⟩
        | some u => rw [e] at h; cases h
theorem less_eq {w : List Nat} {δ : List Int} (hw : ∀ c ∈ w, L4 c) (hl : w.length < 100000) : G_l_less [.str (S w)] δ = some (.str (S ((lessM w).getD w)), δ) := by
  refine runG_r ?_
  show g_l_less [.val (.str (S w)), .un] δ = _
  unfold g_l_less
  have hr : iR1 (aCons (eOp dSub (eB dLen (aCons (eVar 0) aNil)) (eC (.int 1))) aNil) [.val (.str (S w)), .un] δ = some (rangeD 0 ((w.length : Nat) - 1), δ) := by
    apply iR1_s
    · apply aCons_s
      · apply eOp_s
        · apply eB_s
          · exact aCons_s (eVar_s rfl) aNil_s
          · show (if (S w).length < 1000000 then some (Dat.int (S w).length) else none) = _
            rw [S_len, if_pos (by omega)]
        · exact eC_s
        · exact dSub_i
      · exact aNil_s
    · unfold bnd
      simp only [Bool.and_eq_true, decide_eq_true_eq]
      omega
  have er : rangeD 0 ((w.length : Nat) - 1) = (List.range' ([] : List Nat).length (w.length - 1)).map fun i => Dat.int (0 + ((i : Nat) : Int)) := by
    unfold rangeD
    rw [List.range_eq_range', show (((w.length : Nat) : Int) - 1 - 0).toNat = w.length - 1 by omega]
    rfl
  rw [er] at hr
  obtain ⟨h1, h2⟩ := less_loop (δ := δ) w [] .un (by simpa using (by omega : w.length < 500000)) hw
  cases e : lessM w with
  | none =>
    obtain ⟨s1', h3⟩ := h2 e
    apply gSeq_n
    · apply gFor_s hr
      exact h3
    · exact gRet_s (eVar_s rfl)
  | some u =>
    apply gSeq_r
    apply gFor_s hr
    exact h1 u e
/-! ### the mathematics of words -/
def Red : List Nat → Prop
  | t :: u :: r => u ≠ backM t ∧ Red (u :: r)
  | _ => True
theorem Red.tail {t : Nat} {r : List Nat} (h : Red (t :: r)) : Red r := by
  cases r with
  | nil => trivial
  | cons u r => exact h.2
theorem push_red {st : List Nat} {c : Nat} (h : Red st) : Red (push st c) := by
  unfold push
  split
  · rename_i t r
    split
    · exact h.tail
    · rename_i hne
      exact ⟨hne, h⟩
  · trivial
theorem push_back {st : List Nat} {a : Nat} (h : Red st) (ha : L4 a) : push (push st a) (backM a) = st := by
  cases st with
  | nil =>
    show push [a] (backM a) = []
    show (if a = backM (backM a) then [] else _) = _
    rw [back_back ha, if_pos rfl]
  | cons t r =>
    by_cases e : t = backM a
    · have e1 : push (t :: r) a = r := if_pos e
      rw [e1]
      cases r with
      | nil => rw [e]; rfl
      | cons u r =>
        have hu : u ≠ backM (backM a) := by
          rw [← e]
          exact h.1
        show (if u = backM (backM a) then r else backM a :: u :: r) = _
        rw [if_neg hu, e]
    · have e1 : push (t :: r) a = a :: t :: r := if_neg e
      rw [e1]
      show (if a = backM (backM a) then t :: r else _) = _
      rw [back_back ha, if_pos rfl]
theorem redR_app (st v w : List Nat) : redR st (v ++ w) = redR (redR st v) w := List.foldl_append ..
theorem redR_red : ∀ (w st : List Nat), Red st → Red (redR st w)
  | [], _, h => h
  | c :: w, st, h => redR_red w _ (push_red h)
theorem inv_cons (a : Nat) (w : List Nat) : invM (a :: w) = invM w ++ [backM a] := by simp [invM]
theorem redR_inv : ∀ (w st : List Nat), Red st → (∀ c ∈ w, L4 c) → redR st (w ++ invM w) = st
  | [], _, _, _ => rfl
  | a :: w, st, h, hw => by
    have ih := redR_inv w (push st a) (push_red h) fun c hc => hw c (List.mem_cons_of_mem _ hc)
    rw [inv_cons, List.cons_append, ← List.append_assoc]
    show redR (push st a) (w ++ invM w ++ [backM a]) = st
    rw [redR_app, ih]
    exact push_back h (hw a List.mem_cons_self)
theorem less_red : ∀ (w w' st : List Nat), lessM w = some w' → Red st → (∀ c ∈ w, L4 c) → redR st w' = redR st w
  | [], _, _, h, _, _ => by cases h
  | [_], _, _, h, _, _ => by cases h
  | a :: b :: r, w', st, h, hs, hw => by
    have h : (if b = backM a then some r else (lessM (b :: r)).map (a :: ·)) = some w' := h
    split at h
    · rename_i e
      cases h
      show redR st r = redR (push (push st a) b) r
      rw [e, push_back hs (hw a List.mem_cons_self)]
    · cases e : lessM (b :: r) with
      | none => rw [e] at h; cases h
      | some u =>
        rw [e] at h
        cases h
        exact less_red (b :: r) u (push st a) e (push_red hs) fun c hc => hw c (List.mem_cons_of_mem _ hc)
theorem less_mem : ∀ (w w' : List Nat), lessM w = some w' → ∀ c ∈ w', c ∈ w
  | [], _, h => by cases h
  | [_], _, h => by cases h
  | a :: b :: r, w', h => by
    have h : (if b = backM a then some r else (lessM (b :: r)).map (a :: ·)) = some w' := h
    intro c hc
    split at h
    · cases h
      exact List.mem_cons_of_mem _ (List.mem_cons_of_mem _ hc)
    · cases e : lessM (b :: r) with
      | none => rw [e] at h; cases h
      | some u =>
        rw [e] at h
        cases h
        rcases List.mem_cons.mp hc with rfl | hc
        · exact List.mem_cons_self
        · exact List.mem_cons_of_mem _ (less_mem (b :: r) u e c hc)
theorem less_len : ∀ (w w' : List Nat), lessM w = some w' → w'.length + 2 = w.length
  | [], _, h => by cases h
  | [_], _, h => by cases h
  | a :: b :: r, w', h => by
    have h : (if b = backM a then some r else (lessM (b :: r)).map (a :: ·)) = some w' := h
    split at h
    · cases h
      simp
    · cases e : lessM (b :: r) with
      | none => rw [e] at h; cases h
      | some u =>
        rw [e] at h
        cases h
        have := less_len (b :: r) u e
        simp at this ⊢
        omega
theorem go_back {p : Int × Int} {a : Nat} (ha : L4 a) : go1 (go1 p a) (backM a) = p := by
  obtain ⟨x, y⟩ := p
  rcases ha with rfl | rfl | rfl | rfl <;> simp [go1, mv, backM] <;> omega
theorem less_end : ∀ (w w' : List Nat) (p : Int × Int), lessM w = some w' → (∀ c ∈ w, L4 c) → endM p w' = endM p w
  | [], _, _, h, _ => by cases h
  | [_], _, _, h, _ => by cases h
  | a :: b :: r, w', p, h, hw => by
    have h : (if b = backM a then some r else (lessM (b :: r)).map (a :: ·)) = some w' := h
    split at h
    · rename_i e
      cases h
      show endM p r = endM (go1 (go1 p a) b) r
      rw [e, go_back (hw a List.mem_cons_self)]
    · cases e : lessM (b :: r) with
      | none => rw [e] at h; cases h
      | some u =>
        rw [e] at h
        cases h
        exact less_end (b :: r) u (go1 p a) e fun c hc => hw c (List.mem_cons_of_mem _ hc)
theorem none_red : ∀ (w st : List Nat) (t : Nat), lessM (t :: w) = none → L4 t → (∀ c ∈ w, L4 c) → redR (t :: st) w = w.reverse ++ t :: st
  | [], _, _, _, _, _ => rfl
  | b :: r, st, t, h, ht, hw => by
    have h : (if b = backM t then some r else (lessM (b :: r)).map (t :: ·)) = none := h
    split at h
    · cases h
    · rename_i hb
      have hn : lessM (b :: r) = none := by
        cases e : lessM (b :: r) with
        | none => rfl
        | some u => rw [e] at h; cases h
      have hL := hw b List.mem_cons_self
      have e1 : push (t :: st) b = b :: t :: st := if_neg fun e => hb (by rw [e, back_back hL])
      show redR (push (t :: st) b) r = _
      rw [e1, none_red r (t :: st) b hn hL fun c hc => hw c (List.mem_cons_of_mem _ hc)]
      simp
theorem none_red0 {w : List Nat} (h : lessM w = none) (hw : ∀ c ∈ w, L4 c) : redM w = w := by
  cases w with
  | nil => rfl
  | cons t w =>
    show (redR [t] w).reverse = _
    rw [none_red w [] t h (hw t List.mem_cons_self) fun c hc => hw c (List.mem_cons_of_mem _ hc)]
    simp
end K03

namespace K03
open PySem PySem.Spec L2 Dl Cm
/-! ### the law -/
theorem due_for (a0 a1 a2 a3 a4 : Dl.Slot) (a7 a8 a9 : Dl.Slot) {δ : List Int} : ∀ (w : List Nat) (hw : ∀ c ∈ w, L4 c) (p : Int × Int) (acc : List (Int × Int)) (s6 : Dl.Slot), (∀ l, s6 ≠ .own l) → acc.length + w.length < 100000 →
    ∃ s6', (∀ l, s6' ≠ .own l) ∧ forD (tgName 6) b_l_law_1 (w.map ltr) [a0, a1, a2, a3, a4, .own ((acc ++ [p]).map pD), s6, a7, a8, a9] δ = some (.nx [a0, a1, a2, a3, a4, .own ((acc ++ p :: pathM p w).map pD), s6', a7, a8, a9] δ)
  | [], _, p, acc, s6, hs, _ => ⟨s6, hs, rfl⟩
  | c :: w, hw, p, acc, s6, hs, hl => by
    obtain ⟨s6', hs', e⟩ := due_for a0 a1 a2 a3 a4 a7 a8 a9 (δ := δ) w (fun d hd => hw d (List.mem_cons_of_mem _ hd)) (go1 p c) (acc ++ [p]) (.val (ltr c)) (fun l z => by cases z) (by simp at hl ⊢; omega)
    refine ⟨s6', hs', ?_⟩
    rw [List.map_cons]
    apply forD_n
    · exact rfl
    · show b_l_law_1 [a0, a1, a2, a3, a4, .own ((acc ++ [p]).map pD), .val (ltr c), a7, a8, a9] δ = some (.nx [a0, a1, a2, a3, a4, .own ((acc ++ [p] ++ [go1 p c]).map pD), .val (ltr c), a7, a8, a9] δ)
      unfold b_l_law_1
      refine (gAppend_s (l := (acc ++ [p]).map pD) (x := pD (go1 p c)) (δ1 := δ) ?_ rfl ?_).trans ?_
      · apply eCall_s
        · apply aCons_s
          · apply eOp_s
            · exact eVarB_o rfl
            · exact eUn_s eC_s rfl
            · exact atI_neg1 (v := pD p) (by simp)
          · exact aCons_s (eVar_s rfl) aNil_s
        · rfl
        · exact next_eq (hw c List.mem_cons_self)
      · simp at hl ⊢; omega
      · simp
    · refine e.trans ?_
      simp [pathM]
theorem while_less (a0 a1 a2 a3 a4 a5 a6 a8 a9 : Dl.Slot) {δ : List Int} (p : Int × Int) : ∀ (n : Nat) (w : List Nat), (∀ c ∈ w, L4 c) → w.length < n → n ≤ 100000 →
    ∃ w', whileD (eTest (eOp dNe (eCall G_l_less (["_law_word_here"] : List Str).length (aCons (eVar 7) aNil)) (eVar 7))) b_l_law_2 n [a0, a1, a2, a3, a4, a5, a6, .val (.str (S w)), a8, a9] δ = some (.nx [a0, a1, a2, a3, a4, a5, a6, .val (.str (S w')), a8, a9] δ) ∧
      lessM w' = none ∧ redR [] w' = redR [] w ∧ endM p w' = endM p w ∧ (∀ c ∈ w', L4 c) ∧ w'.length ≤ w.length
  | 0, _, _, h, _ => absurd h (Nat.not_lt_zero _)
  | n + 1, w, hw, hl, hn => by
    have hlt : ∀ {v : List Nat}, (∀ c ∈ v, L4 c) → ∀ c ∈ v, c < 128 := fun h c hc => (h c hc).lt
    have hc : ∀ u, (lessM w).getD w = u → (∀ c ∈ u, L4 c) → eTest (eOp dNe (eCall G_l_less (["_law_word_here"] : List Str).length (aCons (eVar 7) aNil)) (eVar 7)) [a0, a1, a2, a3, a4, a5, a6, .val (.str (S w)), a8, a9] δ = some (!decide (u = w), δ) := by
      intro u hu hu4
      apply eTest_s
      apply eOp_s
      · exact eCall_s (aCons_s (eVar_s rfl) aNil_s) rfl (less_eq hw (by omega))
      · exact eVar_s rfl
      · rw [hu]
        exact dNe_S (hlt hu4) (hlt hw)
    cases e : lessM w with
    | none =>
      refine ⟨w, ?_, e, rfl, rfl, hw, Nat.le_refl _⟩
      apply while_f
      have := hc w (by rw [e]; rfl) hw
      rw [this]
      simp
    | some u =>
      have hu4 : ∀ c ∈ u, L4 c := fun c hc => hw c (less_mem w u e c hc)
      have hul := less_len w u e
      obtain ⟨w', e1, e2, e3, e4, e5, e6⟩ := while_less a0 a1 a2 a3 a4 a5 a6 a8 a9 (δ := δ) p n u hu4 (by omega) (by omega)
      refine ⟨w', ?_, e2, e3.trans (less_red w u [] e trivial hw), e4.trans (less_end w u p e hw), e5, by omega⟩
      apply while_t
      · have := hc u (by rw [e]; rfl) hu4
        rw [this, decide_eq_false (fun z => by rw [z] at hul; omega)]
        rfl
      · show b_l_law_2 [a0, a1, a2, a3, a4, a5, a6, .val (.str (S w)), a8, a9] δ = some (.nx [a0, a1, a2, a3, a4, a5, a6, .val (.str (S u)), a8, a9] δ)
        unfold b_l_law_2
        apply gAsg_s
        · apply eCall_s
          · exact aCons_s (eVar_s rfl) aNil_s
          · rfl
          · have := less_eq (δ := δ) hw (by omega)
            rw [e] at this
            exact this
        · exact rfl
      · exact e1
theorem wsen_lc {δ : List Int} (a0 a1 a2 a3 a4 a5 a7 a8 a9 : Dl.Slot) : ∀ (w : List Nat), (∀ c ∈ w, L4 c) →
    lcD (tgName 6) eYes (eOp dIx (eC (.str "wsen")) (eOp dIndex (eC (.str "enws")) (eVar 6))) [a0, a1, a2, a3, a4, a5, .un, a7, a8, a9] (w.map ltr) δ = some ((w.map backM).map ltr, δ)
  | [], _ => rfl
  | c :: w, hw => by
    rw [List.map_cons]
    apply lc_t
    · exact rfl
    · exact eYes_s
    · apply eOp_s
      · exact eC_s
      · exact eOp_s eC_s (eVar_s rfl) (index_enws (hw c List.mem_cons_self))
      · rw [wsen_S]
        rcases hw c List.mem_cons_self with rfl | rfl | rfl | rfl <;> rfl
    · exact wsen_lc a0 a1 a2 a3 a4 a5 a7 a8 a9 w fun d hd => hw d (List.mem_cons_of_mem _ hd)
theorem ltl {v : List Nat} (h : ∀ c ∈ v, L4 c) : ∀ c ∈ v, c < 128 := fun c hc => (h c hc).lt
theorem inv_L4 {w : List Nat} (h : ∀ c ∈ w, L4 c) : ∀ c ∈ invM w, L4 c := by
  intro c hc
  obtain ⟨d, hd, rfl⟩ := List.mem_map.mp hc
  exact back_L4 (h d (by simpa using hd))
theorem app_L4 {v w : List Nat} (hv : ∀ c ∈ v, L4 c) (hw : ∀ c ∈ w, L4 c) : ∀ c ∈ v ++ w, L4 c := fun c hc => (List.mem_append.mp hc).elim (hv c) (hw c)
theorem red_L4 {w : List Nat} (h : ∀ c ∈ w, L4 c) : ∀ c ∈ redM w, L4 c := by
  intro c hc
  exact redR_L4 w [] (by simp) h c (by simpa [redM] using hc)
theorem dice_len (z : Int) (ns : List Int) : 2 ≤ (dice z ns).length := by simp [dice]
theorem most_eq {z : Int} (h0 : 0 ≤ z) (h3 : z < 3) : ∃ m : Int, dIx (.lst [.int 20, .int 20, .int 60]) (.int z) = some (.int m) ∧ 0 ≤ m ∧ m ≤ 60 := by
  have : z = 0 ∨ z = 1 ∨ z = 2 := by omega
  rcases this with rfl | rfl | rfl
  · exact ⟨20, rfl, by decide, by decide⟩
  · exact ⟨20, rfl, by decide, by decide⟩
  · exact ⟨60, rfl, by decide, by decide⟩
/-- the law from the two words on -/
theorem rest_eq {w o : List Nat} {p : Int × Int} {δ : List Int} (hw : ∀ c ∈ w, L4 c) (ho : ∀ c ∈ o, L4 c) (hwl : w.length ≤ 60) (hol : o.length ≤ 12) (hd : 2 ≤ δ.length) (g : Sg)
    (hg : g = (gSeq (gOwn 5 (fLst (aCons (eVar 4) aNil))) (gSeq (gFor (iStrD (eVar 2)) (tgName 6) b_l_law_1) (gFreeze 5 (gSeq (gIf (eNotT (eTru (eCall (G_l_alike 4) (["_law_found", "_law_due"] : List Str).length (aCons (eCall G_p_corners (["corner", "word"] : List Str).length (aCons (eVar 4) (aCons (eVar 2) aNil))) (aCons (eVar 5) aNil))))) (gRet (eC (.bl false))) gNext)
    (gSeq (gAsg (tgName 7) (eVar 2))
    (gSeq (whileD (eTest (eOp dNe (eCall G_l_less (["_law_word_here"] : List Str).length (aCons (eVar 7) aNil)) (eVar 7))) b_l_law_2 100000)
    (gSeq (gIf (eOrT (eNotT (eTru (eCall (G_l_alike 4) (["_law_found", "_law_due"] : List Str).length (aCons (eCall G_p_reduced (["word"] : List Str).length (aCons (eVar 2) aNil)) (aCons (eVar 7) aNil))))) (eTest (eOp dNe (eOp dIx (eCall G_p_corners (["corner", "word"] : List Str).length (aCons (eVar 4) (aCons (eVar 7) aNil))) (eUn dNeg (eC (.int 1)))) (eOp dIx (eVar 5) (eUn dNeg (eC (.int 1))))))) (gRet (eC (.bl false))) gNext)
    (gSeq (gAsg (tgName 8) (eOp dJoin (eC (.str "")) (eF (fLc (iStrD (eRev (eVar 2))) (tgName 6) eYes (eOp dIx (eC (.str "wsen")) (eOp dIndex (eC (.str "enws")) (eVar 6))) [6]))))
    (gSeq (gIf (eOrT (eNotT (eTru (eCall (G_l_alike 4) (["_law_found", "_law_due"] : List Str).length (aCons (eCall G_p_inverse (["word"] : List Str).length (aCons (eVar 2) aNil)) (aCons (eVar 8) aNil))))) (eTest (eOp dNe (eCall G_p_reduced (["word"] : List Str).length (aCons (eOp dAdd (eVar 2) (eVar 8)) aNil)) (eC (.str ""))))) (gRet (eC (.bl false))) gNext)
    (gSeq (gAsg (tgName 9) (eCall G_l_off (["_law_d", "_law_most"] : List Str).length (aCons (eVar 1) (aCons (eOp dAdd (eB dLen (aCons (eVar 3) aNil)) (eC (.int 1))) aNil))))
    (gRet (eOp dEq (eCall G_p_reduced (["word"] : List Str).length (aCons (eOp dAdd (eOp dAdd (eOp dAdd (eSl (eVar 3) oNone (oSome (eVar 9))) (eVar 2)) (eVar 8)) (eSl (eVar 3) (oSome (eVar 9)) oNone)) aNil)) (eCall G_p_reduced (["word"] : List Str).length (aCons (eVar 3) aNil))))))))))))))) :
    ∃ δ', g [.un, .val .dice, .val (.str (S w)), .val (.str (S o)), .val (pD p), .un, .un, .un, .un, .un] δ = some (.rt (.bl true) δ') := by
  subst hg
  obtain ⟨s6, hs6, hdue⟩ := due_for .un (.val .dice) (.val (.str (S w))) (.val (.str (S o))) (.val (pD p)) .un .un .un (δ := δ) w hw p [] .un (fun l z => by cases z) (by simp; omega)
  simp only [List.nil_append] at hdue
  obtain ⟨w', hwh, hnone, hred, hend, hw4, hwl'⟩ := while_less .un (.val .dice) (.val (.str (S w))) (.val (.str (S o))) (.val (pD p)) (.val (.lst ((p :: pathM p w).map pD))) s6 .un .un (δ := δ) p 100000 w hw (by omega) (Nat.le_refl _)
  have hrw : redM w = w' := by
    have h1 := none_red0 hnone hw4
    unfold redM at h1 ⊢
    rw [← hred]
    exact h1
  have hri : redM (w ++ invM w) = [] := by
    unfold redM
    rw [redR_inv w [] trivial hw]
    rfl
  have hoff := off_nn (m := (o.length : Int) + 1) (δ := δ) (by omega)
  obtain ⟨k, hk⟩ : ∃ k : Nat, (offM ((o.length : Int) + 1) δ).1 = (k : Int) := ⟨(offM ((o.length : Int) + 1) δ).1.toNat, by omega⟩
  have hmid : redM (o.take k ++ w ++ invM w ++ o.drop k) = redM o := by
    unfold redM
    have e : redR [] (o.take k ++ w ++ invM w ++ o.drop k) = redR [] o := by
      rw [redR_app, List.append_assoc, redR_app, redR_inv w _ (redR_red (o.take k) [] trivial) hw, ← redR_app, List.take_append_drop]
    rw [e]
  refine ⟨(offM ((o.length : Int) + 1) δ).2, ?_⟩
  apply gSeq_n
  · exact gOwn_s (fLst_s (aCons_s (eVar_s rfl) aNil_s) (by simp))
  apply gSeq_n
  · apply gFor_s
    · exact iStrD_s (eVar_s rfl)
    · exact hdue
  apply gFreeze_s rfl
  show gSeq _ _ [.un, .val .dice, .val (.str (S w)), .val (.str (S o)), .val (pD p), .val (.lst ((p :: pathM p w).map pD)), s6, .un, .un, .un] δ = _
  apply gSeq_n
  · apply gIf_f
    · apply eNotT_s (k := true)
      apply eTru_s
      · apply eCall_s
        · exact aCons_s (eCall_s (aCons_s (eVar_s rfl) (aCons_s (eVar_s rfl) aNil_s)) rfl (corners_eq hw (by omega))) (aCons_s (eVar_s rfl) aNil_s)
        · rfl
        · exact alike_prs_same (by simp [path_len]; omega)
      · rfl
    · exact gNext_s
  apply gSeq_n
  · exact gAsg_s (eVar_s rfl) rfl
  apply gSeq_n
  · exact hwh
  apply gSeq_n
  · apply gIf_f
    · apply eOrT_f
      · apply eNotT_s (k := true)
        apply eTru_s
        · apply eCall_s
          · exact aCons_s (eCall_s (aCons_s (eVar_s rfl) aNil_s) rfl (reduced_eq hw (by omega))) (aCons_s (eVar_s rfl) aNil_s)
          · rfl
          · exact alike_str (ltl (red_L4 hw)) (ltl hw4)
        · rw [hrw]
          simp [truD]
      · apply eTest_s
        apply eOp_s
        · apply eOp_s
          · exact eCall_s (aCons_s (eVar_s rfl) (aCons_s (eVar_s rfl) aNil_s)) rfl (corners_eq hw4 (by omega))
          · exact eUn_s eC_s rfl
          · exact atI_neg1 (v := pD (endM p w')) (by rw [List.getLast?_map, path_last]; rfl)
        · apply eOp_s
          · exact eVar_s rfl
          · exact eUn_s eC_s rfl
          · exact atI_neg1 (v := pD (endM p w)) (by rw [List.getLast?_map, path_last]; rfl)
        · unfold dNe
          rw [eqD_pr, hend]
          simp
    · exact gNext_s
  apply gSeq_n
  · apply gAsg_s
    · apply eOp_s
      · exact eC_s
      · apply eF_s
        apply fLc_s
        · exact iStrD_s (eRev_s (eVar_s rfl) (by rw [S_len]; omega))
        · rw [S_rev, S_cps]; simp; omega
        · cases s6 with
          | own l => exact absurd rfl (hs6 l)
          | un => rfl
          | val x => rfl
        · exact wsen_lc _ _ _ _ _ _ _ _ _ w.reverse fun c hc => hw c (by simpa using hc)
      · exact S_ltrs _ (by simp; omega)
    · exact rfl
  show gSeq _ _ [.un, .val .dice, .val (.str (S w)), .val (.str (S o)), .val (pD p), .val (.lst ((p :: pathM p w).map pD)), s6, .val (.str (S w')), .val (.str (S (invM w))), .un] δ = _
  have hil : (invM w).length = w.length := by simp [invM]
  apply gSeq_n
  · apply gIf_f
    · apply eOrT_f
      · apply eNotT_s (k := true)
        apply eTru_s
        · apply eCall_s
          · exact aCons_s (eCall_s (aCons_s (eVar_s rfl) aNil_s) rfl (inverse_eq hw (by omega))) (aCons_s (eVar_s rfl) aNil_s)
          · rfl
          · exact alike_str (ltl (inv_L4 hw)) (ltl (inv_L4 hw))
        · simp [truD]
      · apply eTest_s
        apply eOp_s
        · apply eCall_s
          · apply aCons_s
            · apply eOp_s
              · exact eVar_s rfl
              · exact eVar_s rfl
              · exact dAdd_s (by rw [S_len, S_len]; omega)
            · exact aNil_s
          · rfl
          · rw [S_app]
            exact reduced_eq (app_L4 hw (inv_L4 hw)) (by simp; omega)
        · exact eC_s
        · rw [hri, empty_S]
          refine (dNe_S (by simp) (by simp)).trans ?_
          simp
    · exact gNext_s
  apply gSeq_n
  · apply gAsg_s
    · apply call_off rfl
      · apply eOp_s
        · apply eB_s
          · exact aCons_s (eVar_s rfl) aNil_s
          · show (if (S o).length < 1000000 then some (Dat.int (S o).length) else none) = _
            rw [S_len, if_pos (by omega)]
        · exact eC_s
        · exact dAdd_i
      · omega
      · omega
      · exact hd
    · exact rfl
  rw [hk]
  show gRet _ [.un, .val .dice, .val (.str (S w)), .val (.str (S o)), .val (pD p), .val (.lst ((p :: pathM p w).map pD)), s6, .val (.str (S w')), .val (.str (S (invM w))), .val (.int (k : Int))] _ = _
  apply gRet_s
  apply eOp_s
  · apply eCall_s
    · apply aCons_s
      · apply eOp_s
        · apply eOp_s
          · apply eOp_s
            · exact eSl_s (eVar_s rfl) oNone_s (oSome_s (eVar_s rfl)) (dSl_S (by omega))
            · exact eVar_s rfl
            · rw [cut_to]
              exact dAdd_s (by rw [S_len, S_len]; have := List.length_take_le k o; omega)
          · exact eVar_s rfl
          · rw [S_app]
            exact dAdd_s (by rw [S_len, S_len]; have := List.length_take_le k o; simp; omega)
        · exact eSl_s (eVar_s rfl) (oSome_s (eVar_s rfl)) oNone_s (dSl_S (by omega))
        · rw [S_app, cut_from]
          exact dAdd_s (by rw [S_len, S_len]; simp; omega)
      · exact aNil_s
    · rfl
    · rw [S_app]
      exact reduced_eq (app_L4 (app_L4 (app_L4 (fun c hc => ho c (List.mem_of_mem_take hc)) hw) (inv_L4 hw)) fun c hc => ho c (List.mem_of_mem_drop hc)) (by simp; omega)
  · exact eCall_s (aCons_s (eVar_s rfl) aNil_s) rfl (reduced_eq ho (by omega))
  · rw [hmid]
    refine (dEq_S (ltl (red_L4 ho)) (ltl (red_L4 ho))).trans ?_
    simp
theorem law_true (ns : List Int) (h : ns.length ≤ 63) : ∃ δ', g_l_law (startL N_l_law) (dice 0 ns) = some (.rt (.bl true) δ') := by
  have h0 := dice_len 0 ns
  obtain ⟨m, hm, hm0, hm1⟩ := most_eq (off_nn (m := 3) (δ := dice 0 ns) (by decide)).1 (off_nn (by decide)).2
  have d1 := off_len (m := 3) h0
  generalize hδ1 : (offM 3 (dice 0 ns)).2 = δ1 at d1
  have d2 := word_d2 (most := m) d1
  have wl := word_len (most := m) (δ := δ1) hm0
  generalize hw : (wordM m δ1).1 = w at wl
  generalize hδ2 : (wordM m δ1).2 = δ2 at d2
  have d3 := word_d2 (most := 12) d2
  have ol := word_len (most := 12) (δ := δ2) (by decide)
  generalize ho : (wordM 12 δ2).1 = o at ol
  generalize hδ3 : (wordM 12 δ2).2 = δ3 at d3
  have d4 := off_len (m := 9) d3
  generalize hδ4 : (offM 9 δ3).2 = δ4 at d4
  have d5 := off_len (m := 9) d4
  obtain ⟨δ', e⟩ := rest_eq (w := w) (o := o) (p := ((offM 9 δ3).1 - 4, (offM 9 δ4).1 - 4)) (δ := (offM 9 δ4).2) (by rw [← hw]; exact word_L4) (by rw [← ho]; exact word_L4) (by omega) (by omega) d5 _ rfl
  refine ⟨δ', ?_⟩
  show g_l_law [.un, .val .dice, .un, .un, .un, .un, .un, .un, .un, .un] (dice 0 ns) = _
  unfold g_l_law
  apply gSeq_n
  · apply gAsg_s
    · apply eCall_s
      · apply aCons_s
        · exact eVar_s rfl
        · apply aCons_s
          · apply eOp_s
            · exact eLst_s (aCons_s eC_s (aCons_s eC_s (aCons_s eC_s aNil_s))) (by simp)
            · exact call_off rfl eC_s (by decide) (by decide) h0
            · exact hm
          · exact aNil_s
      · rfl
      · rw [hδ1]
        exact word_eq hm0 (by omega) d1
    · exact rfl
  rw [hw, hδ2]
  apply gSeq_n
  · apply gAsg_s
    · apply eCall_s
      · exact aCons_s (eVar_s rfl) (aCons_s eC_s aNil_s)
      · rfl
      · exact word_eq (by decide) (by decide) d2
    · exact rfl
  rw [ho, hδ3]
  apply gSeq_n
  · apply gAsg_s
    · apply eTup_s
      · apply aCons_s
        · apply eOp_s
          · exact call_off rfl eC_s (by decide) (by decide) d3
          · exact eC_s
          · exact dSub_i
        · apply aCons_s
          · apply eOp_s
            · exact call_off rfl eC_s (by decide) (by decide) (by rw [hδ4]; exact d4)
            · exact eC_s
            · exact dSub_i
          · exact aNil_s
      · simp
    · exact rfl
  rw [hδ4]
  exact e
end K03

namespace K03
open PySem PySem.Spec L2 Dl Cm
theorem all_mk {l : PySem.W.OpenLaw} {w : World} {K : PySem.W.Frag} {h : Heap} {mg : Str → Option Value} {fa : Addr} (X : K.In h) (G : h.Ns mainGlobals mg) (hfa : mg "law" = some (.ref fa))
    {f0 : Addr} {od0 an0 : Option Addr} {sl0 : Array (Option Value)} {oc0 kV0 dc0 pm0 cd0 ct0 : Value} (a0 : PySem.W.nsIn K mainGlobals "corners" = some (some (.ref f0))) (l0 : K.lookup f0 = some ⟨oc0, od0, .func (PySem.W.fnOf "corners" "corners" (defArgs s_p_corners) (defBody s_p_corners) (defScope s_p_corners) .none kV0 dc0 pm0 an0 cd0 ct0), sl0⟩) (c0 : PySem.W.codeIn K cd0 "corners" = true) (k0 : PySem.W.keepIn K (.ref f0) = true)
    {f1 : Addr} {od1 an1 : Option Addr} {sl1 : Array (Option Value)} {oc1 kV1 dc1 pm1 cd1 ct1 : Value} (a1 : PySem.W.nsIn K mainGlobals "reduced" = some (some (.ref f1))) (l1 : K.lookup f1 = some ⟨oc1, od1, .func (PySem.W.fnOf "reduced" "reduced" (defArgs s_p_reduced) (defBody s_p_reduced) (defScope s_p_reduced) .none kV1 dc1 pm1 an1 cd1 ct1), sl1⟩) (c1 : PySem.W.codeIn K cd1 "reduced" = true) (k1 : PySem.W.keepIn K (.ref f1) = true)
    {f2 : Addr} {od2 an2 : Option Addr} {sl2 : Array (Option Value)} {oc2 kV2 dc2 pm2 cd2 ct2 : Value} (a2 : PySem.W.nsIn K mainGlobals "inverse" = some (some (.ref f2))) (l2 : K.lookup f2 = some ⟨oc2, od2, .func (PySem.W.fnOf "inverse" "inverse" (defArgs s_p_inverse) (defBody s_p_inverse) (defScope s_p_inverse) .none kV2 dc2 pm2 an2 cd2 ct2), sl2⟩) (c2 : PySem.W.codeIn K cd2 "inverse" = true) (k2 : PySem.W.keepIn K (.ref f2) = true)
    {f3 : Addr} {od3 an3 : Option Addr} {sl3 : Array (Option Value)} {oc3 kV3 dc3 pm3 cd3 ct3 : Value} (a3 : PySem.W.nsIn K mainGlobals "_law_dice" = some (some (.ref f3))) (l3 : K.lookup f3 = some ⟨oc3, od3, .func (PySem.W.fnOf "_law_dice" "_law_dice" (defArgs s_l_dice) (defBody s_l_dice) (defScope s_l_dice) .none kV3 dc3 pm3 an3 cd3 ct3), sl3⟩) (c3 : PySem.W.codeIn K cd3 "_law_dice" = true) (k3 : PySem.W.keepIn K (.ref f3) = true)
    {f4 : Addr} {od4 an4 : Option Addr} {sl4 : Array (Option Value)} {oc4 kV4 dc4 pm4 cd4 ct4 : Value} (a4 : PySem.W.nsIn K mainGlobals "_law_off" = some (some (.ref f4))) (l4 : K.lookup f4 = some ⟨oc4, od4, .func (PySem.W.fnOf "_law_off" "_law_off" (defArgs s_l_off) (defBody s_l_off) (defScope s_l_off) .none kV4 dc4 pm4 an4 cd4 ct4), sl4⟩) (c4 : PySem.W.codeIn K cd4 "_law_off" = true) (k4 : PySem.W.keepIn K (.ref f4) = true)
    {f5 : Addr} {od5 an5 : Option Addr} {sl5 : Array (Option Value)} {oc5 kV5 dc5 pm5 cd5 ct5 : Value} (a5 : PySem.W.nsIn K mainGlobals "_law_alike" = some (some (.ref f5))) (l5 : K.lookup f5 = some ⟨oc5, od5, .func (PySem.W.fnOf "_law_alike" "_law_alike" (defArgs s_l_alike) (defBody s_l_alike) (defScope s_l_alike) .none kV5 dc5 pm5 an5 cd5 ct5), sl5⟩) (c5 : PySem.W.codeIn K cd5 "_law_alike" = true) (k5 : PySem.W.keepIn K (.ref f5) = true)
    {f6 : Addr} {od6 an6 : Option Addr} {sl6 : Array (Option Value)} {oc6 kV6 dc6 pm6 cd6 ct6 : Value} (a6 : PySem.W.nsIn K mainGlobals "_law_next" = some (some (.ref f6))) (l6 : K.lookup f6 = some ⟨oc6, od6, .func (PySem.W.fnOf "_law_next" "_law_next" (defArgs s_l_next) (defBody s_l_next) (defScope s_l_next) .none kV6 dc6 pm6 an6 cd6 ct6), sl6⟩) (c6 : PySem.W.codeIn K cd6 "_law_next" = true) (k6 : PySem.W.keepIn K (.ref f6) = true)
    {f7 : Addr} {od7 an7 : Option Addr} {sl7 : Array (Option Value)} {oc7 kV7 dc7 pm7 cd7 ct7 : Value} (a7 : PySem.W.nsIn K mainGlobals "_law_word" = some (some (.ref f7))) (l7 : K.lookup f7 = some ⟨oc7, od7, .func (PySem.W.fnOf "_law_word" "_law_word" (defArgs s_l_word) (defBody s_l_word) (defScope s_l_word) .none kV7 dc7 pm7 an7 cd7 ct7), sl7⟩) (c7 : PySem.W.codeIn K cd7 "_law_word" = true) (k7 : PySem.W.keepIn K (.ref f7) = true)
    {f8 : Addr} {od8 an8 : Option Addr} {sl8 : Array (Option Value)} {oc8 kV8 dc8 pm8 cd8 ct8 : Value} (a8 : PySem.W.nsIn K mainGlobals "_law_less" = some (some (.ref f8))) (l8 : K.lookup f8 = some ⟨oc8, od8, .func (PySem.W.fnOf "_law_less" "_law_less" (defArgs s_l_less) (defBody s_l_less) (defScope s_l_less) .none kV8 dc8 pm8 an8 cd8 ct8), sl8⟩) (c8 : PySem.W.codeIn K cd8 "_law_less" = true) (k8 : PySem.W.keepIn K (.ref f8) = true)
    {f9 : Addr} {od9 an9 : Option Addr} {sl9 : Array (Option Value)} {oc9 kV9 dc9 pm9 cd9 ct9 : Value} (a9 : PySem.W.nsIn K mainGlobals "law" = some (some (.ref f9))) (l9 : K.lookup f9 = some ⟨oc9, od9, .func (PySem.W.fnOf "law" "law" (defArgs s_l_law) (defBody s_l_law) (defScope s_l_law) .none kV9 dc9 pm9 an9 cd9 ct9), sl9⟩) (c9 : PySem.W.codeIn K cd9 "law" = true) (k9 : PySem.W.keepIn K (.ref f9) = true)
    (z_abs : PySem.W.nsIn K mainGlobals "abs" = some none)
    (z_all : PySem.W.nsIn K mainGlobals "all" = some none)
    (z_bool : PySem.W.nsIn K mainGlobals "bool" = some none)
    (z_dict : PySem.W.nsIn K mainGlobals "dict" = some none)
    (z_int : PySem.W.nsIn K mainGlobals "int" = some none)
    (z_isinstance : PySem.W.nsIn K mainGlobals "isinstance" = some none)
    (z_len : PySem.W.nsIn K mainGlobals "len" = some none)
    (z_list : PySem.W.nsIn K mainGlobals "list" = some none)
    (z_range : PySem.W.nsIn K mainGlobals "range" = some none)
    (z_str : PySem.W.nsIn K mainGlobals "str" = some none)
    (z_tuple : PySem.W.nsIn K mainGlobals "tuple" = some none)
    {a_BACK : Addr} {es_BACK : Array DictEntry} {n_BACK : Nat} (g_BACK : PySem.W.nsIn K mainGlobals "BACK" = some (some (.ref a_BACK))) (d_BACK : K.lookup a_BACK = some ⟨.type "dict", none, .dict es_BACK n_BACK, #[]⟩) (y_BACK : PySem.W.KeysLit w.params es_BACK.toList)
    {u_BACK_0 : Tok} (e_BACK_0 : PySem.W.nsIn K a_BACK "e" = some (some (.str "w" u_BACK_0)))
    {u_BACK_1 : Tok} (e_BACK_1 : PySem.W.nsIn K a_BACK "n" = some (some (.str "s" u_BACK_1)))
    {u_BACK_2 : Tok} (e_BACK_2 : PySem.W.nsIn K a_BACK "w" = some (some (.str "e" u_BACK_2)))
    {u_BACK_3 : Tok} (e_BACK_3 : PySem.W.nsIn K a_BACK "s" = some (some (.str "n" u_BACK_3)))
    {a_MOVES : Addr} {es_MOVES : Array DictEntry} {n_MOVES : Nat} (g_MOVES : PySem.W.nsIn K mainGlobals "MOVES" = some (some (.ref a_MOVES))) (d_MOVES : K.lookup a_MOVES = some ⟨.type "dict", none, .dict es_MOVES n_MOVES, #[]⟩) (y_MOVES : PySem.W.KeysLit w.params es_MOVES.toList)
    {t_MOVES_0 : Addr} {dd_MOVES_0 : Option Addr} {m_MOVES_0 : Nat} {sl_MOVES_0 : Array (Option Value)} {k_MOVES_0_0 k_MOVES_0_1 : Tok} (e_MOVES_0 : PySem.W.nsIn K a_MOVES "e" = some (some (.ref t_MOVES_0))) (q_MOVES_0 : K.lookup t_MOVES_0 = some ⟨.type "tuple", dd_MOVES_0, .seq #[.int (1) k_MOVES_0_0, .int (0) k_MOVES_0_1] m_MOVES_0, sl_MOVES_0⟩)
    {t_MOVES_1 : Addr} {dd_MOVES_1 : Option Addr} {m_MOVES_1 : Nat} {sl_MOVES_1 : Array (Option Value)} {k_MOVES_1_0 k_MOVES_1_1 : Tok} (e_MOVES_1 : PySem.W.nsIn K a_MOVES "n" = some (some (.ref t_MOVES_1))) (q_MOVES_1 : K.lookup t_MOVES_1 = some ⟨.type "tuple", dd_MOVES_1, .seq #[.int (0) k_MOVES_1_0, .int (1) k_MOVES_1_1] m_MOVES_1, sl_MOVES_1⟩)
    {t_MOVES_2 : Addr} {dd_MOVES_2 : Option Addr} {m_MOVES_2 : Nat} {sl_MOVES_2 : Array (Option Value)} {k_MOVES_2_0 k_MOVES_2_1 : Tok} (e_MOVES_2 : PySem.W.nsIn K a_MOVES "w" = some (some (.ref t_MOVES_2))) (q_MOVES_2 : K.lookup t_MOVES_2 = some ⟨.type "tuple", dd_MOVES_2, .seq #[.int (-1) k_MOVES_2_0, .int (0) k_MOVES_2_1] m_MOVES_2, sl_MOVES_2⟩)
    {t_MOVES_3 : Addr} {dd_MOVES_3 : Option Addr} {m_MOVES_3 : Nat} {sl_MOVES_3 : Array (Option Value)} {k_MOVES_3_0 k_MOVES_3_1 : Tok} (e_MOVES_3 : PySem.W.nsIn K a_MOVES "s" = some (some (.ref t_MOVES_3))) (q_MOVES_3 : K.lookup t_MOVES_3 = some ⟨.type "tuple", dd_MOVES_3, .seq #[.int (0) k_MOVES_3_0, .int (-1) k_MOVES_3_1] m_MOVES_3, sl_MOVES_3⟩) :
    ∃ fd : FuncData, (∀ (s : Shared) (v : Value), BindsTo s fd ⟨[v], []⟩ [("_law_script", v)]) ∧ ∀ base : Heap, K.In base → base.Ns mainGlobals mg → FnOk l.prog w K mg base CX0 5 fa fd ["_law_script"] (spLaw K) := by
  have e := hfa.symm.trans (PySem.W.mg_of X G a9)
  cases e
  have F0 := fun_mk (st := s_p_corners) l0 c0 k0
  have h0 : Has K mg "corners" s_p_corners ["corner", "word"] _ _ := ⟨F0, PySem.W.mg_of X G a0, F0.binds (ps := ["corner", "word"]) fun _ _ _ _ _ _ us hl => match us, hl with | [_, _], _ => rfl⟩
  have F1 := fun_mk (st := s_p_reduced) l1 c1 k1
  have h1 : Has K mg "reduced" s_p_reduced ["word"] _ _ := ⟨F1, PySem.W.mg_of X G a1, F1.binds (ps := ["word"]) fun _ _ _ _ _ _ us hl => match us, hl with | [_], _ => rfl⟩
  have F2 := fun_mk (st := s_p_inverse) l2 c2 k2
  have h2 : Has K mg "inverse" s_p_inverse ["word"] _ _ := ⟨F2, PySem.W.mg_of X G a2, F2.binds (ps := ["word"]) fun _ _ _ _ _ _ us hl => match us, hl with | [_], _ => rfl⟩
  have F3 := fun_mk (st := s_l_dice) l3 c3 k3
  have h3 : Has K mg "_law_dice" s_l_dice ["_law_script", "_law_k"] _ _ := ⟨F3, PySem.W.mg_of X G a3, F3.binds (ps := ["_law_script", "_law_k"]) fun _ _ _ _ _ _ us hl => match us, hl with | [_, _], _ => rfl⟩
  have F4 := fun_mk (st := s_l_off) l4 c4 k4
  have h4 : Has K mg "_law_off" s_l_off ["_law_d", "_law_most"] _ _ := ⟨F4, PySem.W.mg_of X G a4, F4.binds (ps := ["_law_d", "_law_most"]) fun _ _ _ _ _ _ us hl => match us, hl with | [_, _], _ => rfl⟩
  have F5 := fun_mk (st := s_l_alike) l5 c5 k5
  have h5 : Has K mg "_law_alike" s_l_alike ["_law_found", "_law_due"] _ _ := ⟨F5, PySem.W.mg_of X G a5, F5.binds (ps := ["_law_found", "_law_due"]) fun _ _ _ _ _ _ us hl => match us, hl with | [_, _], _ => rfl⟩
  have F6 := fun_mk (st := s_l_next) l6 c6 k6
  have h6 : Has K mg "_law_next" s_l_next ["_law_corner", "_law_letter"] _ _ := ⟨F6, PySem.W.mg_of X G a6, F6.binds (ps := ["_law_corner", "_law_letter"]) fun _ _ _ _ _ _ us hl => match us, hl with | [_, _], _ => rfl⟩
  have F7 := fun_mk (st := s_l_word) l7 c7 k7
  have h7 : Has K mg "_law_word" s_l_word ["_law_d", "_law_most"] _ _ := ⟨F7, PySem.W.mg_of X G a7, F7.binds (ps := ["_law_d", "_law_most"]) fun _ _ _ _ _ _ us hl => match us, hl with | [_, _], _ => rfl⟩
  have F8 := fun_mk (st := s_l_less) l8 c8 k8
  have h8 : Has K mg "_law_less" s_l_less ["_law_word_here"] _ _ := ⟨F8, PySem.W.mg_of X G a8, F8.binds (ps := ["_law_word_here"]) fun _ _ _ _ _ _ us hl => match us, hl with | [_], _ => rfl⟩
  have F9 := fun_mk (st := s_l_law) l9 c9 k9
  have h9 : Has K mg "law" s_l_law ["_law_script"] _ _ := ⟨F9, PySem.W.mg_of X G a9, F9.binds (ps := ["_law_script"]) fun _ _ _ _ _ _ us hl => match us, hl with | [_], _ => rfl⟩
  have C_BACK : KdO K w mg "BACK" a_BACK tbl_BACK := ⟨PySem.W.mg_of X G g_BACK, fun z y hz => by
    unfold tbl_BACK at hz
    split at hz
    · rename_i ez
      subst ez
      cases hz
      exact ⟨.str "w", ⟨_, _, _, d_BACK, y_BACK, e_BACK_0, ⟨_, rfl⟩⟩, fun d N H => .str _⟩
    ·
      split at hz
      · rename_i ez
        subst ez
        cases hz
        exact ⟨.str "s", ⟨_, _, _, d_BACK, y_BACK, e_BACK_1, ⟨_, rfl⟩⟩, fun d N H => .str _⟩
      ·
        split at hz
        · rename_i ez
          subst ez
          cases hz
          exact ⟨.str "e", ⟨_, _, _, d_BACK, y_BACK, e_BACK_2, ⟨_, rfl⟩⟩, fun d N H => .str _⟩
        ·
          split at hz
          · rename_i ez
            subst ez
            cases hz
            exact ⟨.str "n", ⟨_, _, _, d_BACK, y_BACK, e_BACK_3, ⟨_, rfl⟩⟩, fun d N H => .str _⟩
          ·
            cases hz⟩
  have C_MOVES : KdO K w mg "MOVES" a_MOVES tbl_MOVES := ⟨PySem.W.mg_of X G g_MOVES, fun z y hz => by
    unfold tbl_MOVES at hz
    split at hz
    · rename_i ez
      subst ez
      cases hz
      exact ⟨.ref t_MOVES_0, ⟨_, _, _, d_MOVES, y_MOVES, e_MOVES_0, rfl⟩, rpTup2 q_MOVES_0⟩
    ·
      split at hz
      · rename_i ez
        subst ez
        cases hz
        exact ⟨.ref t_MOVES_1, ⟨_, _, _, d_MOVES, y_MOVES, e_MOVES_1, rfl⟩, rpTup2 q_MOVES_1⟩
      ·
        split at hz
        · rename_i ez
          subst ez
          cases hz
          exact ⟨.ref t_MOVES_2, ⟨_, _, _, d_MOVES, y_MOVES, e_MOVES_2, rfl⟩, rpTup2 q_MOVES_2⟩
        ·
          split at hz
          · rename_i ez
            subst ez
            cases hz
            exact ⟨.ref t_MOVES_3, ⟨_, _, _, d_MOVES, y_MOVES, e_MOVES_3, rfl⟩, rpTup2 q_MOVES_3⟩
          ·
            cases hz⟩
  have Z : Zs mg := ⟨PySem.W.mg_none_of X G z_abs, PySem.W.mg_none_of X G z_all, PySem.W.mg_none_of X G z_bool, PySem.W.mg_none_of X G z_dict, PySem.W.mg_none_of X G z_int, PySem.W.mg_none_of X G z_isinstance, PySem.W.mg_none_of X G z_len, PySem.W.mg_none_of X G z_list, PySem.W.mg_none_of X G z_range, PySem.W.mg_none_of X G z_str, PySem.W.mg_none_of X G z_tuple⟩
  refine ⟨PySem.W.fnOf "law" "law" (defArgs s_l_law) (defBody s_l_law) (defScope s_l_law) .none kV9 dc9 pm9 an9 cd9 ct9, fun s v => .of_eq rfl, fun base _ _ => ?_⟩
  have c_p_corners := ok_p_corners (P := l.prog) (w := w) (base := base) h0 Z  C_MOVES
  have c_p_reduced := ok_p_reduced (P := l.prog) (w := w) (base := base) h1 Z  C_BACK
  have c_p_inverse := ok_p_inverse (P := l.prog) (w := w) (base := base) h2 Z  C_BACK
  have c_l_off := ok_l_off (P := l.prog) (w := w) (base := base) h4 Z  
  have c_l_alike := ok_l_alike (P := l.prog) (w := w) (base := base) h5 Z   4
  have c_l_next := ok_l_next (P := l.prog) (w := w) (base := base) h6 Z  
  have c_l_word := ok_l_word (P := l.prog) (w := w) (base := base) h7 Z c_l_off 
  have c_l_less := ok_l_less (P := l.prog) (w := w) (base := base) h8 Z  
  exact ok_l_law (P := l.prog) (w := w) (base := base) h9 Z c_l_off c_l_word c_l_next c_p_corners c_l_alike c_l_less c_p_reduced c_p_inverse  h3 law_true
theorem walk {l : PySem.W.OpenLaw} {q : Program} {loose : List Str} {XP : (Str → Option Value) → Heap → Prop} {YP : World → Heap → Prop} {d : DefRec} {K : Params → PySem.W.Frag} (hn : l.most = some 63) (hdf : d.params.defaults = [])
    (hY : ∀ (w : World) (h : Heap), YP w h → (K w.params).In h)
    (F : ∀ (w : World) (mg : Str → Option Value) (fa : Addr) (h : Heap), (K w.params).In h → h.Ns mainGlobals mg → mg d.name = some (.ref fa) →
      ∃ fd : FuncData, (∀ (s : Shared) (u : Value), BindsTo s fd ⟨[u], []⟩ [("_law_script", u)]) ∧ ∀ base : Heap, (K w.params).In base → base.Ns mainGlobals mg → FnOk l.prog w (K w.params) mg base CX0 5 fa fd ["_law_script"] (spLaw (K w.params))) :
    PySem.W.WalkO q loose XP YP l.row.toRowW d [] (fun f vs => PySem.call f vs) :=
  L2.walk_of (n := 63) (k := 5) (x := "_law_script") (CX := fun _ => CX0) (sp := fun w => spLaw (K w.params)) hn (by rw [sizeLine_eq]; decide) hdf ⟨rfl, by decide, by decide⟩ hY F (fun _ _ a ns hl _ hS => ⟨a, ns, rfl, hS, hl, fun _ => rfl⟩) fun _ _ _ _ _ z => z
end K03
open PySem PySem.W PyProof.Rows
set_option maxRecDepth 100000 in
set_option maxHeartbeats 0 in
theorem PySem.Challenge.cw_rimword_k03_words_holds : PySem.Challenge.rw_rimword_k03_words.Holds := by
  w_on; o_law; k_head; (case hw => w_witness2)
  k_fill
  refine K03.walk (l := PySem.Challenge.rw_rimword_k03_words) rfl rfl (fun w h Y => PySem.W.kIn_of Y) ?F
  case F =>
    intro w mg fa h KX G hmg
    refine' K03.all_mk KX G hmg ?a0 ?l0 ?c0 ?k0 ?a1 ?l1 ?c1 ?k1 ?a2 ?l2 ?c2 ?k2 ?a3 ?l3 ?c3 ?k3 ?a4 ?l4 ?c4 ?k4 ?a5 ?l5 ?c5 ?k5 ?a6 ?l6 ?c6 ?k6 ?a7 ?l7 ?c7 ?k7 ?a8 ?l8 ?c8 ?k8 ?a9 ?l9 ?c9 ?k9 ?z_abs ?z_all ?z_bool ?z_dict ?z_int ?z_isinstance ?z_len ?z_list ?z_range ?z_str ?z_tuple ?g_BACK ?d_BACK ?y_BACK ?e_BACK_0 ?e_BACK_1 ?e_BACK_2 ?e_BACK_3 ?g_MOVES ?d_MOVES ?y_MOVES ?e_MOVES_0 ?q_MOVES_0 ?e_MOVES_1 ?q_MOVES_1 ?e_MOVES_2 ?q_MOVES_2 ?e_MOVES_3 ?q_MOVES_3
    (case a0 => k_is)
    (case l0 => k_is)
    (case c0 => k_is)
    (case k0 => k_is)
    (case a1 => k_is)
    (case l1 => k_is)
    (case c1 => k_is)
    (case k1 => k_is)
    (case a2 => k_is)
    (case l2 => k_is)
    (case c2 => k_is)
    (case k2 => k_is)
    (case a3 => k_is)
    (case l3 => k_is)
    (case c3 => k_is)
    (case k3 => k_is)
    (case a4 => k_is)
    (case l4 => k_is)
    (case c4 => k_is)
    (case k4 => k_is)
    (case a5 => k_is)
    (case l5 => k_is)
    (case c5 => k_is)
    (case k5 => k_is)
    (case a6 => k_is)
    (case l6 => k_is)
    (case c6 => k_is)
    (case k6 => k_is)
    (case a7 => k_is)
    (case l7 => k_is)
    (case c7 => k_is)
    (case k7 => k_is)
    (case a8 => k_is)
    (case l8 => k_is)
    (case c8 => k_is)
    (case k8 => k_is)
    (case a9 => k_is)
    (case l9 => k_is)
    (case c9 => k_is)
    (case k9 => k_is)
    (case z_abs => k_is)
    (case z_all => k_is)
    (case z_bool => k_is)
    (case z_dict => k_is)
    (case z_int => k_is)
    (case z_isinstance => k_is)
    (case z_len => k_is)
    (case z_list => k_is)
    (case z_range => k_is)
    (case z_str => k_is)
    (case z_tuple => k_is)
    (case g_BACK => k_is)
    (case d_BACK => k_is)
    (case y_BACK => k_keys)
    (case e_BACK_0 => k_is)
    (case e_BACK_1 => k_is)
    (case e_BACK_2 => k_is)
    (case e_BACK_3 => k_is)
    (case g_MOVES => k_is)
    (case d_MOVES => k_is)
    (case y_MOVES => k_keys)
    (case e_MOVES_0 => k_is)
    (case q_MOVES_0 => k_is)
    (case e_MOVES_1 => k_is)
    (case q_MOVES_1 => k_is)
    (case e_MOVES_2 => k_is)
    (case q_MOVES_2 => k_is)
    (case e_MOVES_3 => k_is)
    (case q_MOVES_3 => k_is)
